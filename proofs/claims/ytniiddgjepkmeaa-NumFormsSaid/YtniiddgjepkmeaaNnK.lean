/- What functions of the program come to: own work. -/
import Derived.Test.YtniiddgjepkmeaaNnJ
namespace Go.Eng
open Go
variable {E : Nat → Option Fn}
set_option linter.unusedSimpArgs false
set_option linter.unusedVariables false
noncomputable def formX : Orc := orX (newX k_num_Encode encS) (orX (newX k_purserref11_Encode encS) (orX (bytesX k_num_True truG) (orX (bytesX k_purserref11_True truG) (orX (bytesX k_num_Decode decS) (bytesX k_purserref11_Decode decS)))))
/-- what the law of forms calls -/
structure FormX (X : Orc) : Prop where
  enc : ∀ n h, encIn n = true → X (.fn k_num_Encode) [.int .i64 n] h = some (newV h (ofBytes (enc n)) (.int .i64 0))
  encNo : ∀ n h, encIn n = false → X (.fn k_num_Encode) [.int .i64 n] h = some (.tup [.slice none 0 (some 0) 0, .int .i64 110], h)
  renc : ∀ n h, encIn n = true → X (.fn k_purserref11_Encode) [.int .i64 n] h = some (newV h (ofBytes (Eng.enc n)) (.int .i64 0))
  rencNo : ∀ n h, encIn n = false → X (.fn k_purserref11_Encode) [.int .i64 n] h = some (.tup [.slice none 0 (some 0) 0, .int .i64 110], h)
  tru : ∀ x l v h, rdB h x = some l → truG l = some v → X (.fn k_num_True) [x] h = some (v, h)
  rtru : ∀ x l v h, rdB h x = some l → truG l = some v → X (.fn k_purserref11_True) [x] h = some (v, h)
  dec : ∀ x l h, rdB h x = some l → byt l = true → X (.fn k_num_Decode) [x] h = some (decV l, h)
  rdec : ∀ x l h, rdB h x = some l → byt l = true → X (.fn k_purserref11_Decode) [x] h = some (decV l, h)
  no : ∀ f args h, Nat.beq f k_num_Encode = false → Nat.beq f k_purserref11_Encode = false → Nat.beq f k_num_True = false → Nat.beq f k_purserref11_True = false → Nat.beq f k_num_Decode = false → Nat.beq f k_purserref11_Decode = false → X (.fn f) args h = none
theorem formX_ok {P : Program} {g : Gn} (hE : Link P g E) (A : NumX E noX) (eT : E k_num_True = some f_num_True) (eD : E k_num_Decode = some f_num_Decode) (eN : E k_num_number = some f_num_number) (eB : E k_bytes_Equal = some f_bytes_Equal)
    (rE : E k_purserref11_Encode = some f_purserref11_Encode) (rB : E k_purserref11_Bytes = some f_purserref11_Bytes) (rT : E k_purserref11_True = some f_purserref11_True) (rD : E k_purserref11_Decode = some f_purserref11_Decode) : QOk P g formX :=
  orX_ok (encX_ok hE A) (orX_ok (encRX_ok hE rE rB) (orX_ok (truG_ok hE eT) (orX_ok (rtruG_ok hE rT) (orX_ok (decX_ok hE A eD eN eB) (rdecX_ok hE rD rB)))))
theorem formX_is : FormX formX where
  enc n h hn := orX_l (newX_yes h (by unfold encS; simp only [hn, if_true]))
  encNo n h hn := orX_l (newX_yes h (c := []) (e := .int .i64 110) (by unfold encS; simp only [hn, Bool.false_eq_true, if_false]))
  renc n h hn := (orX_r (newX_no h rfl)).trans (orX_l (newX_yes h (by unfold encS; simp only [hn, if_true])))
  rencNo n h hn := (orX_r (newX_no h rfl)).trans (orX_l (newX_yes h (c := []) (e := .int .i64 110) (by unfold encS; simp only [hn, Bool.false_eq_true, if_false])))
  tru x l v h h1 h2 := (orX_r (newX_no h rfl)).trans ((orX_r (newX_no h rfl)).trans (orX_l (bytesX_yes h h1 h2)))
  rtru x l v h h1 h2 := (orX_r (newX_no h rfl)).trans ((orX_r (newX_no h rfl)).trans ((orX_r (bytesX_no h rfl)).trans (orX_l (bytesX_yes h h1 h2))))
  dec x l h h1 h2 := (orX_r (newX_no h rfl)).trans ((orX_r (newX_no h rfl)).trans ((orX_r (bytesX_no h rfl)).trans ((orX_r (bytesX_no h rfl)).trans (orX_l (bytesX_yes h h1 (by unfold decS; simp only [h2, if_true]))))))
  rdec x l h h1 h2 := (orX_r (newX_no h rfl)).trans ((orX_r (newX_no h rfl)).trans ((orX_r (bytesX_no h rfl)).trans ((orX_r (bytesX_no h rfl)).trans ((orX_r (bytesX_no h rfl)).trans (bytesX_yes h h1 (by unfold decS; simp only [h2, if_true]))))))
  no f args h h1 h2 h3 h4 h5 h6 := (orX_r (newX_no h h1)).trans ((orX_r (newX_no h h2)).trans ((orX_r (bytesX_no h h3)).trans ((orX_r (bytesX_no h h4)).trans ((orX_r (bytesX_no h h5)).trans (bytesX_no h h6)))))
/-- a slice of the first bytes -/
theorem s_slcS (Q : Orc) (T : Tr V) (h : H) (esz : Nat) (x : O) (lo hi mx : Option O) : Eng.step (.slcS esz x lo hi mx) Q T h = same h (slcV esz (evM T lo) (evM T hi) (evM T mx) (evO T x)) := _root_.id rfl
theorem x_slc (a : Option (Nat × Nat)) (L : Nat) : slcV 1 none (some (.int .i64 (L : Int))) none (.slice a (L + 1) none 1) = some (.slice (upA a 0) L none 1) := by
  have e : slcV 1 none (some (.int .i64 (L : Int))) none (.slice a (L + 1) none 1) = (match (bif Nat.ble L (L + 1) then some L else none) with | some b => some (.slice (upA a (0 * 1)) (b - 0) (subC none 0) 1) | none => none) := rfl
  rw [e, show Nat.ble L (L + 1) = true from Nat.ble_eq.mpr (Nat.le_succ L)]
  rfl
theorem readN_pre (l : List Nat) (r : List V) : readN (ofBytes l ++ r) 0 l.length = some (ofBytes l) := by
  unfold readN
  rw [List.drop_zero]
  induction l with
  | nil => rfl
  | cons a s ih =>
    show takeN (s.length + 1) (_ :: (ofBytes s ++ r)) = _
    unfold takeN
    rw [ih]
    rfl
theorem rdC_pre (l : List Nat) (r : List V) (m : Md) (n : Nat) (hn : l.length = n) : rdC n 0 (some (.cells (ofBytes l ++ r) m)) = some l := by
  subst hn
  show (match readN (ofBytes l ++ r) 0 l.length with | some l => unB l | none => none) = _
  rw [readN_pre]
  exact unB_of l
end Go.Eng
namespace Go.Eng
open Go
variable {E : Nat → Option Fn}
set_option linter.unusedSimpArgs false
set_option linter.unusedVariables false
theorem absD_bool {H : Type} (P : Program) (n : Nat) {t : TypeId} (hu : P.underlying t = some .bool) (x : Bool) (nx : Nat) : absD (H := H) P (n + 1) t (.lit (.bool x)) nx = some ([.bool x], [], nx) := by simp only [absD, hu]
theorem m_src00 (h : H) (esz : Nat) (a : Option (Nat × Nat)) (c : Option Nat) (e : Nat) : srcCells h esz (.slice a 0 c e) = some (0, []) := by cases a <;> rfl
theorem m_appNil (h : H) (b : Option (Nat × Nat)) (sl : Nat) (sc : Option Nat) (e : Nat) : appendC h 1 1 (.slice b sl sc e) (some (0, [])) = some (.slice b sl sc e, h) := _root_.id rfl
noncomputable def appF (b : Option Blk) (h : H) (n : Nat) (new : List V) : Option (V × H) := match b with
  | some (.cells vs _) => some (.slice (some (h.next, 0)) n none 1, h.new (.cells new .rw))
  | _ => none
@[congr] theorem appF_congr {b b' : Option Blk} {h : H} {n : Nat} {new : List V} (e : b = b') : appF b h n new = appF b' h n new := by rw [e]
theorem m_appF (h : H) (i n : Nat) (new : List V) (hp : new.all plainV = true) (hn : n ≤ 1000) : appendC h 1 1 (.slice (some (i, 0)) 0 (some 0) 1) (some (n + 1, new)) = appF (h.get i) h (n + 1) new := by
  unfold appendC appF
  simp only
  have c : (roomy (0 + (n + 1)) 1 && (Nat.beq 1 1 || (some (i, 0) : Option (Nat × Nat)).isNone) && new.all plainV) = true := by
    rw [hp]
    simp [roomy]
    omega
  rw [c]
  simp only [_root_.cond_true]
  cases h.get i with
  | none => rfl
  | some b =>
    cases b with
    | loop => rfl
    | defers => rfl
    | cells vs m =>
      have f : fullC (some 0) (0 + (n + 1)) = true := by simp [fullC]
      simp only [f]
      show (match takeN 0 vs with | some old => some (V.slice (some (h.next, 0)) (0 + (n + 1)) none 1, h.new (.cells (old ++ new) .rw)) | none => none) = _
      rw [show takeN 0 vs = some [] from by cases vs <;> rfl]
      simp only [Nat.zero_add, List.nil_append]
theorem plain_ofB (l : List Nat) : (ofBytes l).all plainV = true := by
  induction l with
  | nil => rfl
  | cons a r ih => simp only [ofBytes, List.all_cons, ih, Bool.and_true]; rfl
def oOwn : C := (.ops [⟨(some 19), .buildS [] 0 1 [], none⟩,
     ⟨(some 20), .mov (.t 1), none⟩,
     ⟨(some 21), .append 1 1 (.t 19) (.t 20), none⟩,
     ⟨(some 22), .buildS [(.int .u8 0)] 1 1 [(0, 1, (.c (.int .u8 7)))], none⟩,
     ⟨(some 23), .append 1 1 (.t 21) (.t 22), none⟩,
     ⟨(some 7), .mov (.t 23), none⟩])
theorem own_run {Q : Orc} {n : Nat} (l : List Nat) (a : Option (Nat × Nat)) (L : Nat) (hL : l.length = L) (h100 : L ≤ 100) (h : H) (B : BytesAt h a l) (T : Tr V) (t1 : evO T (.t 1) = .slice a L none 1) :
    ∃ T' h' q md, evC Q 94 n none oOwn ⟨T, [], h⟩ = some (.normal, ⟨T', [], h'⟩) ∧ evO T' (.t 0) = evO T (.t 0) ∧ evO T' (.t 1) = evO T (.t 1) ∧ evO T' (.t 2) = evO T (.t 2) ∧ evO T' (.t 7) = .slice (some (q, 0)) (L + 1) none 1 ∧
      h'.get q = some (.cells (ofBytes l ++ [.int .u8 7]) md) ∧ h.next ≤ q ∧ q < h'.next ∧ (∀ j, j < h.next → h'.get j = h.get j) := by
  cases L with
  | zero =>
    have : l = [] := List.length_eq_zero_iff.1 hL
    subst this
    have g0 : ∀ h i, appendC h 1 1 (.slice (some (i, 0)) 0 (some 0) 1) (some (1, [V.int .u8 7])) = appF (h.get i) h 1 [V.int .u8 7] := fun h i => m_appF h i 0 _ rfl (by omega)
    have fE : ∀ vs m h n new, appF (some (.cells vs m)) h n new = some (.slice (some (h.next, 0)) n none 1, h.new (.cells new .rw)) := fun _ _ _ _ _ => rfl
    refine ⟨_, _, h.next + 1 + 1, .rw, by
      simp (config := {maxSteps := 1000000}) (disch := first | omega | (simp only [List.length_cons, List.length_nil, List.length_append, List.length_drop]; omega)) only [oOwn, t1, g0, fE, m_src00, m_appNil, ↓s_append, m_src, m_src1, ↓l_loop, ↓l_succ, ↓l_normal, l_normal, l_exit, l_ret, l_iteN, ↓h_put_get, ↓h_new_get, ↓h_del_get, h_next_put, h_next_new, h_next_del, Nat.add_assoc, Nat.add_eq_left, Nat.left_eq_add, Nat.add_left_cancel_iff, ↓s_load, m_load, ↓m_load1, m_load1, ↓m_st, m_stE, m_storeI, m_storeE, w_zero, w_succ, ↓s_alloc, ↓x_idxA, ↓x_idxS, x_idxAE, x_idxSE, x_addrE, x_idx, x_lenS, ↓s_len, ↓x_buildS, x_buildE, ↓x_P0, ↓x_P1, x_fill0, x_filli, x_fills, x_fillb, c_int, List.length_cons, List.length_nil, List.cons_append, List.drop_succ_cons, List.drop_zero, List.drop_nil, List.nil_append, Int.reduceAdd, Int.reduceToNat, Int.reduceLT, Int.reduceLE, Nat.reduceAdd, Nat.reduceMul, Nat.reduceLeDiff, Int.reduceEq, Int.reduceSub, Int.cast_ofNat_Int, s_resc, s_consR, m_load4, m_store4, s_res0, ↓s_skip, ↓s_ops, ↓s_dops, ↓s_seq, ↓s_cond, ↓s_block, ↓s_exit, ↓s_ret, ↓s_scope, ↓s_nil, ↓s_op, ↓s_opg, ↓s_wanted', ↓s_wantV, s_wantV, s_wantV0, beq_true, beq_false, ↓s_bindS, s_bindS, ↓s_bindE, s_bindE, s_bindE_ret, s_bindE_exit, s_bindE_iteN, s_norm, ↓s_condV, s_condV, s_block_ret, s_block_normal, s_block_exit, s_block_iteN, ↓s_getp, ↓s_getp0, ↓s_get, s_get0, ↓s_con, ↓s_fn, ↓s_os0, ↓s_os1, ↓s_list0, ↓s_list1, ↓s_mov, ↓s_pick, ↓s_pickE, s_pickE, ↓s_bin, ↓s_un, ↓s_minmax, ↓s_call, ↓s_callv, ↓s_callV, ↓s_ext, s_same, b_eql, b_neq, b_lss, b_leq, b_gtr, b_geq, b_add, b_sub, b_mul, b_eqlb, b_neqb, b_fnil, b_fnil', b_fnil2, b_fnil2', u_neg, u_not, m_two, s_end, s_end', s_end_iteN, s_res0, s_res1, s_tup1, s_tup2, ↓iteN_true, ↓iteN_false, iteN_true, iteN_false, Nat.zero_add, List.nil_append, List.append_nil, Nat.reduceEqDiff, reduceIte, decide_true, decide_false, Bool.not_true, Bool.not_false, List.getElem?_cons_zero, List.getElem?_cons_succ, Bool.false_eq_true, if_true, if_false, beq_self_eq_true]
      exact rfl, ?_, ?_, ?_, ?_, ?_, by omega, ?_, ?_⟩
    · simp only [s_getp, s_getp0, Nat.reduceEqDiff, decide_false, decide_true, iteN_false, iteN_true]
    · simp only [s_getp, s_getp0, Nat.reduceEqDiff, decide_false, decide_true, iteN_false, iteN_true]
    · simp only [s_getp, s_getp0, Nat.reduceEqDiff, decide_false, decide_true, iteN_false, iteN_true]
    · simp only [s_getp, s_getp0, Nat.reduceEqDiff, decide_false, decide_true, iteN_false, iteN_true, h_next_new]
    · simp only [h_new_get, h_next_new, Nat.add_assoc, decide_true, iteN_true]; rfl
    · simp only [h_next_new]; omega
    · intro j hj
      rw [h_new_ne _ _ (by simp only [h_next_new]; omega), h_new_ne _ _ (by simp only [h_next_new]; omega), h_new_ne _ _ (by omega)]
  | succ K =>
    rcases B with rfl | ⟨rfl, b0, hn⟩
    · cases hL
    have n0 : (h.next = 0) = False := by simp; omega
    have rd : readN (ofBytes l) 0 (K + 1) = some (ofBytes l) := x_readAll _ _ (by rw [ofB_len, hL])
    have sE : ∀ m, srcE (some (.cells (ofBytes l) m)) 0 (K + 1) 1 = some (K + 1, ofBytes l) := fun m => by
      unfold srcE
      simp only [Nat.mul_one, rd]
    have g0 : ∀ h i, appendC h 1 1 (.slice (some (i, 0)) 0 (some 0) 1) (some (K + 1, ofBytes l)) = appF (h.get i) h (K + 1) (ofBytes l) := fun h i => m_appF h i K _ (plain_ofB l) (by omega)
    have fE : ∀ vs m h n new, appF (some (.cells vs m)) h n new = some (.slice (some (h.next, 0)) n none 1, h.new (.cells new .rw)) := fun _ _ _ _ _ => rfl
    have ap := fun (h : H) (i : Nat) (new : List V) => m_appE (ofBytes l) .rw rfl h i (K + 1) new _ rd
    refine ⟨_, _, h.next + 1 + 1 + 1, .sh, by
      simp (config := {maxSteps := 1000000}) (disch := first | omega | (simp only [List.length_cons, List.length_nil, List.length_append, List.length_drop]; omega)) only [oOwn, t1, b0, n0, g0, fE, sE, ap, ↓s_append, m_src, m_src1, m_app, ↓l_loop, ↓l_succ, ↓l_normal, l_normal, l_exit, l_ret, l_iteN, ↓h_put_get, ↓h_new_get, ↓h_del_get, h_next_put, h_next_new, h_next_del, Nat.add_assoc, Nat.add_eq_left, Nat.left_eq_add, Nat.add_left_cancel_iff, ↓s_load, m_load, ↓m_load1, m_load1, ↓m_st, m_stE, m_storeI, m_storeE, w_zero, w_succ, ↓s_alloc, ↓x_idxA, ↓x_idxS, x_idxAE, x_idxSE, x_addrE, x_idx, x_lenS, ↓s_len, ↓x_buildS, x_buildE, ↓x_P0, ↓x_P1, x_fill0, x_filli, x_fills, x_fillb, c_int, List.length_cons, List.length_nil, List.cons_append, List.drop_succ_cons, List.drop_zero, List.drop_nil, List.nil_append, Int.reduceAdd, Int.reduceToNat, Int.reduceLT, Int.reduceLE, Nat.reduceAdd, Nat.reduceMul, Nat.reduceLeDiff, Int.reduceEq, Int.reduceSub, Int.cast_ofNat_Int, s_resc, s_consR, m_load4, m_store4, s_res0, ↓s_skip, ↓s_ops, ↓s_dops, ↓s_seq, ↓s_cond, ↓s_block, ↓s_exit, ↓s_ret, ↓s_scope, ↓s_nil, ↓s_op, ↓s_opg, ↓s_wanted', ↓s_wantV, s_wantV, s_wantV0, beq_true, beq_false, ↓s_bindS, s_bindS, ↓s_bindE, s_bindE, s_bindE_ret, s_bindE_exit, s_bindE_iteN, s_norm, ↓s_condV, s_condV, s_block_ret, s_block_normal, s_block_exit, s_block_iteN, ↓s_getp, ↓s_getp0, ↓s_get, s_get0, ↓s_con, ↓s_fn, ↓s_os0, ↓s_os1, ↓s_list0, ↓s_list1, ↓s_mov, ↓s_pick, ↓s_pickE, s_pickE, ↓s_bin, ↓s_un, ↓s_minmax, ↓s_call, ↓s_callv, ↓s_callV, ↓s_ext, s_same, b_eql, b_neq, b_lss, b_leq, b_gtr, b_geq, b_add, b_sub, b_mul, b_eqlb, b_neqb, b_fnil, b_fnil', b_fnil2, b_fnil2', u_neg, u_not, m_two, s_end, s_end', s_end_iteN, s_res0, s_res1, s_tup1, s_tup2, ↓iteN_true, ↓iteN_false, iteN_true, iteN_false, Nat.zero_add, List.nil_append, List.append_nil, Nat.reduceEqDiff, reduceIte, decide_true, decide_false, Bool.not_true, Bool.not_false, List.getElem?_cons_zero, List.getElem?_cons_succ, Bool.false_eq_true, if_true, if_false, beq_self_eq_true]
      exact rfl, ?_, ?_, ?_, ?_, ?_, by omega, ?_, ?_⟩
    · simp only [s_getp, s_getp0, Nat.reduceEqDiff, decide_false, decide_true, iteN_false, iteN_true]
    · simp only [s_getp, s_getp0, Nat.reduceEqDiff, decide_false, decide_true, iteN_false, iteN_true]
    · simp only [s_getp, s_getp0, Nat.reduceEqDiff, decide_false, decide_true, iteN_false, iteN_true]
    · simp only [s_getp, s_getp0, Nat.reduceEqDiff, decide_false, decide_true, iteN_false, iteN_true, h_next_new, h_next_del]
    · simp only [h_new_get, h_next_new, h_next_del, Nat.add_assoc, decide_true, iteN_true]
    · simp only [h_next_new, h_next_del]; omega
    · intro j hj
      rw [h_new_ne _ _ (by simp only [h_next_new, h_next_del]; omega), h_del_ne _ (by omega), h_new_ne _ _ (by simp only [h_next_new]; omega), h_new_ne _ _ (by simp only [h_next_new]; omega), h_new_ne _ _ (by omega)]
end Go.Eng
namespace Go.Eng
open Go
variable {E : Nat → Option Fn}
set_option linter.unusedSimpArgs false
set_option linter.unusedVariables false
theorem b_sadd (e : EqK) (h : H) (l : List Nat) (hl : l.length ≤ 100) : binV .add e h (.str l) (.str [7]) = some (.str (l ++ [7])) := by
  have e1 : binV .add e h (.str l) (.str [7]) = (bif Nat.ble (l.length + 1) 35184372088832 then some (.str (l ++ [7])) else none) := rfl
  rw [e1, show Nat.ble (l.length + 1) 35184372088832 = true from Nat.ble_eq.mpr (by omega)]
  rfl
theorem sp_rflagX {X : Orc} (e : E k_purserref11_flag = some f_purserref11_flag) (hx : ∀ args h, X (.fn k_purserref11_flag) args h = none) (N : Nat) (b : Bool) (h : H) : callX E X (N + 1) (.fn k_purserref11_flag) [.bool b] h = some (.int .i64 (if b then 1 else 0), h) := by
  rw [x_cfn e _ _ (Nat.le_of_ble_eq_true rfl) (hx _ _)]
  cases b
  · simp (config := {maxSteps := 1000000}) (disch := first | omega | (simp only [List.length_cons, List.length_nil, List.length_append, List.length_drop]; omega)) only [↓l_loop, ↓l_succ, ↓l_normal, l_normal, l_exit, l_ret, l_iteN, ↓h_put_get, ↓h_new_get, ↓h_del_get, h_next_put, h_next_new, h_next_del, Nat.add_assoc, Nat.add_eq_left, Nat.left_eq_add, Nat.add_left_cancel_iff, ↓s_load, m_load, ↓m_load1, m_load1, ↓m_st, m_stE, m_storeI, m_storeE, w_zero, w_succ, ↓s_alloc, ↓x_idxA, ↓x_idxS, x_idxAE, x_idxSE, x_addrE, x_idx, x_lenS, ↓s_len, ↓x_buildS, x_buildE, ↓x_P0, ↓x_P1, x_fill0, x_filli, x_fills, x_fillb, c_int, List.length_cons, List.length_nil, List.cons_append, List.drop_succ_cons, List.drop_zero, List.drop_nil, List.nil_append, Int.reduceAdd, Int.reduceToNat, Int.reduceLT, Int.reduceLE, Nat.reduceAdd, Nat.reduceMul, Nat.reduceLeDiff, Int.reduceEq, Int.reduceSub, Int.cast_ofNat_Int, s_resc, s_consR, m_load4, m_store4, s_res0, ↓s_skip, ↓s_ops, ↓s_dops, ↓s_seq, ↓s_cond, ↓s_block, ↓s_exit, ↓s_ret, ↓s_scope, ↓s_nil, ↓s_op, ↓s_opg, ↓s_wanted', ↓s_wantV, s_wantV, s_wantV0, beq_true, beq_false, ↓s_bindS, s_bindS, ↓s_bindE, s_bindE, s_bindE_ret, s_bindE_exit, s_bindE_iteN, s_norm, ↓s_condV, s_condV, s_block_ret, s_block_normal, s_block_exit, s_block_iteN, ↓s_getp, ↓s_getp0, ↓s_get, s_get0, ↓s_con, ↓s_fn, ↓s_os0, ↓s_os1, ↓s_list0, ↓s_list1, ↓s_mov, ↓s_pick, ↓s_pickE, s_pickE, ↓s_bin, ↓s_un, ↓s_minmax, ↓s_call, ↓s_callv, ↓s_callV, ↓s_ext, s_same, b_eql, b_neq, b_lss, b_leq, b_gtr, b_geq, b_add, b_sub, b_mul, b_eqlb, b_neqb, b_fnil, b_fnil', b_fnil2, b_fnil2', u_neg, u_not, m_two, s_end, s_end', s_end_iteN, s_res0, s_res1, s_tup1, s_tup2, ↓iteN_true, ↓iteN_false, iteN_true, iteN_false, Nat.zero_add, List.nil_append, List.append_nil, Nat.reduceEqDiff, reduceIte, decide_true, decide_false, Bool.not_true, Bool.not_false, List.getElem?_cons_zero, List.getElem?_cons_succ, Bool.false_eq_true, if_true, if_false, beq_self_eq_true]
  · simp (config := {maxSteps := 1000000}) (disch := first | omega | (simp only [List.length_cons, List.length_nil, List.length_append, List.length_drop]; omega)) only [↓l_loop, ↓l_succ, ↓l_normal, l_normal, l_exit, l_ret, l_iteN, ↓h_put_get, ↓h_new_get, ↓h_del_get, h_next_put, h_next_new, h_next_del, Nat.add_assoc, Nat.add_eq_left, Nat.left_eq_add, Nat.add_left_cancel_iff, ↓s_load, m_load, ↓m_load1, m_load1, ↓m_st, m_stE, m_storeI, m_storeE, w_zero, w_succ, ↓s_alloc, ↓x_idxA, ↓x_idxS, x_idxAE, x_idxSE, x_addrE, x_idx, x_lenS, ↓s_len, ↓x_buildS, x_buildE, ↓x_P0, ↓x_P1, x_fill0, x_filli, x_fills, x_fillb, c_int, List.length_cons, List.length_nil, List.cons_append, List.drop_succ_cons, List.drop_zero, List.drop_nil, List.nil_append, Int.reduceAdd, Int.reduceToNat, Int.reduceLT, Int.reduceLE, Nat.reduceAdd, Nat.reduceMul, Nat.reduceLeDiff, Int.reduceEq, Int.reduceSub, Int.cast_ofNat_Int, s_resc, s_consR, m_load4, m_store4, s_res0, ↓s_skip, ↓s_ops, ↓s_dops, ↓s_seq, ↓s_cond, ↓s_block, ↓s_exit, ↓s_ret, ↓s_scope, ↓s_nil, ↓s_op, ↓s_opg, ↓s_wanted', ↓s_wantV, s_wantV, s_wantV0, beq_true, beq_false, ↓s_bindS, s_bindS, ↓s_bindE, s_bindE, s_bindE_ret, s_bindE_exit, s_bindE_iteN, s_norm, ↓s_condV, s_condV, s_block_ret, s_block_normal, s_block_exit, s_block_iteN, ↓s_getp, ↓s_getp0, ↓s_get, s_get0, ↓s_con, ↓s_fn, ↓s_os0, ↓s_os1, ↓s_list0, ↓s_list1, ↓s_mov, ↓s_pick, ↓s_pickE, s_pickE, ↓s_bin, ↓s_un, ↓s_minmax, ↓s_call, ↓s_callv, ↓s_callV, ↓s_ext, s_same, b_eql, b_neq, b_lss, b_leq, b_gtr, b_geq, b_add, b_sub, b_mul, b_eqlb, b_neqb, b_fnil, b_fnil', b_fnil2, b_fnil2', u_neg, u_not, m_two, s_end, s_end', s_end_iteN, s_res0, s_res1, s_tup1, s_tup2, ↓iteN_true, ↓iteN_false, iteN_true, iteN_false, Nat.zero_add, List.nil_append, List.append_nil, Nat.reduceEqDiff, reduceIte, decide_true, decide_false, Bool.not_true, Bool.not_false, List.getElem?_cons_zero, List.getElem?_cons_succ, Bool.false_eq_true, if_true, if_false, beq_self_eq_true]
theorem sp_rFlag {X : Orc} (eF : E k_purserref11_Flag = some f_purserref11_Flag) (ef : E k_purserref11_flag = some f_purserref11_flag) (eB : E k_purserref11_Bytes = some f_purserref11_Bytes) (h1 : ∀ args h, X (.fn k_purserref11_Flag) args h = none) (h2 : ∀ args h, X (.fn k_purserref11_flag) args h = none) (h3 : ∀ args h, X (.fn k_purserref11_Bytes) args h = none) (N : Nat) (b : Bool) (h : H) :
    ∃ v h', callX E X (N + 11) (.fn k_purserref11_Flag) [.bool b] h = some (v, h') ∧ (∀ j, j < h.next → h'.get j = h.get j) ∧ b2sV h' v = some (.str (if b then [1] else [])) := by
  have fl := fun h => sp_rflagX (X := X) ef h2 (N + 9) b h
  cases b with
  | false =>
    rcases sp_Bytes (X := X) eB h3 (N + 1) 0 (by omega) h with ⟨_, h', r, _, k⟩ | ⟨h0, _⟩
    · refine ⟨.slice none 0 (some 0) 0, h', ?_, k, ?_⟩
      · rw [x_cfn eF _ _ (Nat.le_of_ble_eq_true rfl) (h1 _ _)]
        simp only [Bool.false_eq_true, if_false] at fl
        simp (config := {maxSteps := 1000000}) (disch := first | omega | (simp only [List.length_cons, List.length_nil, List.length_append, List.length_drop]; omega)) only [fl, r, ↓l_loop, ↓l_succ, ↓l_normal, l_normal, l_exit, l_ret, l_iteN, ↓h_put_get, ↓h_new_get, ↓h_del_get, h_next_put, h_next_new, h_next_del, Nat.add_assoc, Nat.add_eq_left, Nat.left_eq_add, Nat.add_left_cancel_iff, ↓s_load, m_load, ↓m_load1, m_load1, ↓m_st, m_stE, m_storeI, m_storeE, w_zero, w_succ, ↓s_alloc, ↓x_idxA, ↓x_idxS, x_idxAE, x_idxSE, x_addrE, x_idx, x_lenS, ↓s_len, ↓x_buildS, x_buildE, ↓x_P0, ↓x_P1, x_fill0, x_filli, x_fills, x_fillb, c_int, List.length_cons, List.length_nil, List.cons_append, List.drop_succ_cons, List.drop_zero, List.drop_nil, List.nil_append, Int.reduceAdd, Int.reduceToNat, Int.reduceLT, Int.reduceLE, Nat.reduceAdd, Nat.reduceMul, Nat.reduceLeDiff, Int.reduceEq, Int.reduceSub, Int.cast_ofNat_Int, s_resc, s_consR, m_load4, m_store4, s_res0, ↓s_skip, ↓s_ops, ↓s_dops, ↓s_seq, ↓s_cond, ↓s_block, ↓s_exit, ↓s_ret, ↓s_scope, ↓s_nil, ↓s_op, ↓s_opg, ↓s_wanted', ↓s_wantV, s_wantV, s_wantV0, beq_true, beq_false, ↓s_bindS, s_bindS, ↓s_bindE, s_bindE, s_bindE_ret, s_bindE_exit, s_bindE_iteN, s_norm, ↓s_condV, s_condV, s_block_ret, s_block_normal, s_block_exit, s_block_iteN, ↓s_getp, ↓s_getp0, ↓s_get, s_get0, ↓s_con, ↓s_fn, ↓s_os0, ↓s_os1, ↓s_list0, ↓s_list1, ↓s_mov, ↓s_pick, ↓s_pickE, s_pickE, ↓s_bin, ↓s_un, ↓s_minmax, ↓s_call, ↓s_callv, ↓s_callV, ↓s_ext, s_same, b_eql, b_neq, b_lss, b_leq, b_gtr, b_geq, b_add, b_sub, b_mul, b_eqlb, b_neqb, b_fnil, b_fnil', b_fnil2, b_fnil2', u_neg, u_not, m_two, s_end, s_end', s_end_iteN, s_res0, s_res1, s_tup1, s_tup2, ↓iteN_true, ↓iteN_false, iteN_true, iteN_false, Nat.zero_add, List.nil_append, List.append_nil, Nat.reduceEqDiff, reduceIte, decide_true, decide_false, Bool.not_true, Bool.not_false, List.getElem?_cons_zero, List.getElem?_cons_succ, Bool.false_eq_true, if_true, if_false, beq_self_eq_true]
      · rfl
    · exact absurd rfl h0
  | true =>
    rcases sp_Bytes (X := X) eB h3 (N + 1) 1 (by omega) h with ⟨h0, _⟩ | ⟨_, p, md, h', r, _, r2, _, _, _, k⟩
    · cases h0
    · rw [enc_one] at r r2
      refine ⟨.slice (some (p, 0)) [1].length none 1, h', ?_, k, ?_⟩
      · rw [x_cfn eF _ _ (Nat.le_of_ble_eq_true rfl) (h1 _ _)]
        simp only [if_true] at fl
        simp (config := {maxSteps := 1000000}) (disch := first | omega | (simp only [List.length_cons, List.length_nil, List.length_append, List.length_drop]; omega)) only [fl, r, ↓l_loop, ↓l_succ, ↓l_normal, l_normal, l_exit, l_ret, l_iteN, ↓h_put_get, ↓h_new_get, ↓h_del_get, h_next_put, h_next_new, h_next_del, Nat.add_assoc, Nat.add_eq_left, Nat.left_eq_add, Nat.add_left_cancel_iff, ↓s_load, m_load, ↓m_load1, m_load1, ↓m_st, m_stE, m_storeI, m_storeE, w_zero, w_succ, ↓s_alloc, ↓x_idxA, ↓x_idxS, x_idxAE, x_idxSE, x_addrE, x_idx, x_lenS, ↓s_len, ↓x_buildS, x_buildE, ↓x_P0, ↓x_P1, x_fill0, x_filli, x_fills, x_fillb, c_int, List.length_cons, List.length_nil, List.cons_append, List.drop_succ_cons, List.drop_zero, List.drop_nil, List.nil_append, Int.reduceAdd, Int.reduceToNat, Int.reduceLT, Int.reduceLE, Nat.reduceAdd, Nat.reduceMul, Nat.reduceLeDiff, Int.reduceEq, Int.reduceSub, Int.cast_ofNat_Int, s_resc, s_consR, m_load4, m_store4, s_res0, ↓s_skip, ↓s_ops, ↓s_dops, ↓s_seq, ↓s_cond, ↓s_block, ↓s_exit, ↓s_ret, ↓s_scope, ↓s_nil, ↓s_op, ↓s_opg, ↓s_wanted', ↓s_wantV, s_wantV, s_wantV0, beq_true, beq_false, ↓s_bindS, s_bindS, ↓s_bindE, s_bindE, s_bindE_ret, s_bindE_exit, s_bindE_iteN, s_norm, ↓s_condV, s_condV, s_block_ret, s_block_normal, s_block_exit, s_block_iteN, ↓s_getp, ↓s_getp0, ↓s_get, s_get0, ↓s_con, ↓s_fn, ↓s_os0, ↓s_os1, ↓s_list0, ↓s_list1, ↓s_mov, ↓s_pick, ↓s_pickE, s_pickE, ↓s_bin, ↓s_un, ↓s_minmax, ↓s_call, ↓s_callv, ↓s_callV, ↓s_ext, s_same, b_eql, b_neq, b_lss, b_leq, b_gtr, b_geq, b_add, b_sub, b_mul, b_eqlb, b_neqb, b_fnil, b_fnil', b_fnil2, b_fnil2', u_neg, u_not, m_two, s_end, s_end', s_end_iteN, s_res0, s_res1, s_tup1, s_tup2, ↓iteN_true, ↓iteN_false, iteN_true, iteN_false, Nat.zero_add, List.nil_append, List.append_nil, Nat.reduceEqDiff, reduceIte, decide_true, decide_false, Bool.not_true, Bool.not_false, List.getElem?_cons_zero, List.getElem?_cons_succ, Bool.false_eq_true, if_true, if_false, beq_self_eq_true]
      · rw [List.length_cons, List.length_nil, nx_bs1, r2]
        exact nsE_of [1] (by simp) md 1 rfl
theorem s_evM0 (T : Tr V) : evM T none = none := _root_.id rfl
theorem s_evM1 (T : Tr V) (o : O) : evM T (some o) = some (evO T o) := _root_.id rfl
theorem isTrue_y2 (h : H) : isTrue (some (.bool true, h)) = true := _root_.id rfl
structure FormE (E : Nat → Option Fn) : Prop where
  nF : E k_num_Flag = some f_num_Flag
  rF : E k_purserref11_Flag = some f_purserref11_Flag
  rf : E k_purserref11_flag = some f_purserref11_flag
  rB : E k_purserref11_Bytes = some f_purserref11_Bytes
  law : E k_purserlaw11_NumForms = some f_purserlaw11_NumForms
set_option maxHeartbeats 8000000 in
theorem f_end {X : Orc} (M : FormX X) (A : FormE E) (l : List Nat) (hb : ∀ x ∈ l, x < 256) (L : Nat) (hL : l.length = L) (h100 : L ≤ 100) (is : Bool) (e : Int) (a : Option (Nat × Nat)) (q : Nat) (s : List Nat) (c y : V) (h : H)
    (S : ∀ h', (∀ j, j < h.next → h'.get j = h.get j) → b2sV h' c = some (.str s) ∧ b2sV h' y = some (.str s) ∧ rdB h' (.slice a L none 1) = some l ∧ b2sV h' (.slice a L none 1) = some (.str l) ∧ rdB h' (.slice (some (q, 0)) L none 1) = some l ∧ b2sV h' (.slice (some (q, 0)) (L + 1) none 1) = some (.str (l ++ [7])))
    (T : Tr V) (t1 : evO T (.t 1) = .slice a L none 1) (t2 : evO T (.t 2) = .bool is) (t7 : evO T (.t 7) = .slice (some (q, 0)) (L + 1) none 1) (t8 : evO T (.t 8) = c) (t9 : evO T (.t 9) = .int .i64 e) (t10 : evO T (.t 10) = y) (t11 : evO T (.t 11) = .int .i64 e) :
    ∃ h', fnEnd [.tmp 6] (evC (callX E X 1999) 94 1999 none fR3 ⟨T, [], h⟩) = some (.bool true, h') := by
  refine isTrue_some ?_
  have K0 : ∀ j, j < h.next → h.get j = h.get j := fun _ _ => rfl
  obtain ⟨c0, y0, r0, s0, p0, o0⟩ := S h K0
  have by0 := byt_iff.2 hb
  have tg : truG l = some (.bool (tru l)) := by unfold truG; rw [decide_eq_true (show l.length ≤ 100 by omega), by0]; rfl
  obtain ⟨u, v, dv⟩ : ∃ u v, decV l = .tup [.int .i64 u, .int .i64 v] := by unfold decV; split <;> exact ⟨_, _, rfl⟩
  have D1 : callX E X 1999 (.fn k_num_Decode) [.slice (some (q, 0)) L none 1] h = _ := x_known (M.dec _ l h p0 by0)
  have D2 : callX E X 1999 (.fn k_purserref11_Decode) [.slice a L none 1] h = _ := x_known (M.rdec _ l h r0 by0)
  have T1 : callX E X 1999 (.fn k_num_True) [.slice (some (q, 0)) L none 1] h = _ := x_known (M.tru _ l _ h p0 tg)
  have T2 : callX E X 1999 (.fn k_purserref11_True) [.slice a L none 1] h = _ := x_known (M.rtru _ l _ h r0 tg)
  rw [dv] at D1 D2
  have sl := fun a => x_slc a L
  have F0 := fl0 A.nF (fun args h => M.no k_num_Flag args h rfl rfl rfl rfl rfl rfl) 1998
  have F1 := fl1 A.nF (fun args h => M.no k_num_Flag args h rfl rfl rfl rfl rfl rfl) 1998
  have ad := fun e h => b_sadd e h l (by omega)
  have bqs := beq_bs
  have dd : ∀ x : List Nat, decide (x = x) = true := fun x => decide_eq_true rfl
  have du : ∀ x : Int, decide (x = x) = true := fun x => decide_eq_true rfl
  have bb : ∀ b : Bool, (b == b) = true := fun b => by cases b <;> rfl
  cases is with
  | false =>
    obtain ⟨w, h4, RF, k4, w4⟩ := sp_rFlag (X := X) A.rF A.rf A.rB (fun args h => M.no k_purserref11_Flag args h rfl rfl rfl rfl rfl rfl) (fun args h => M.no k_purserref11_flag args h rfl rfl rfl rfl rfl rfl) (fun args h => M.no k_purserref11_Bytes args h rfl rfl rfl rfl rfl rfl) 1988 false (h.new (.cells [] .rw))
    have K4 : ∀ j, j < h.next → h4.get j = h.get j := fun j hj => by rw [k4 j (by rw [h_next_new]; omega), h_new_ne _ _ (by omega)]
    obtain ⟨c4, y4, r4, s4, p4, o4⟩ := S h4 K4
    obtain ⟨c5, y5, r5, s5, p5, o5⟩ := S (h.new (.cells [] .rw)) (fun j hj => by rw [h_new_ne _ _ (by omega)])
    simp only [Bool.false_eq_true, if_false] at w4
    simp (config := {maxSteps := 1000000}) (disch := first | omega | (simp only [List.length_cons, List.length_nil, List.length_append, List.length_drop]; omega)) only [isTrue_y2, fR3, t1, t2, t7, t8, t9, t10, t11, sl, upA, Nat.add_zero, s_evM0, s_evM1, D1, D2, T1, T2, F0, RF, c0, y0, s0, o0, c4, y4, s4, o4, c5, y5, s5, o5, w4, ad, bqs, dd, du, bb, b_seq, ↓s_slcS, ↓ns_b2s, nx_bs00, ↓s_len, x_lenS, ↓s_evD, ↓s_dnil, ↓s_dL, ↓s_dLg, ↓s_dR, ↓s_dRg, ↓s_dRj, ↓s_dRjg, ↓s_dB, ↓s_dBg, ↓s_dAlloc, ↓s_bindD, s_bindD, s_finD, s_finDx, s_addP0, s_addP1, s_addB, s_lookP, ↓s_bump0, ↓s_bump_get, s_bump_next, s_ok0, ↓s_ok1, s_okR0, ↓s_okR1, ↓s_okE, s_okE, s_okE1, s_nth0, s_nthS, Nat.add_zero, Bool.and_self, Bool.and_true, Bool.true_and, ↓l_loop, ↓l_succ, ↓l_normal, l_normal, l_exit, l_ret, l_iteN, ↓h_put_get, ↓h_new_get, ↓h_del_get, h_next_put, h_next_new, h_next_del, Nat.add_assoc, Nat.add_eq_left, Nat.left_eq_add, Nat.add_left_cancel_iff, ↓s_load, m_load, ↓m_load1, m_load1, ↓m_st, m_stE, m_storeI, m_storeE, w_zero, w_succ, ↓s_alloc, ↓x_idxA, ↓x_idxS, x_idxAE, x_idxSE, x_addrE, x_idx, x_lenS, ↓s_len, ↓x_buildS, x_buildE, ↓x_P0, ↓x_P1, x_fill0, x_filli, x_fills, x_fillb, c_int, List.length_cons, List.length_nil, List.cons_append, List.drop_succ_cons, List.drop_zero, List.drop_nil, List.nil_append, Int.reduceAdd, Int.reduceToNat, Int.reduceLT, Int.reduceLE, Nat.reduceAdd, Nat.reduceMul, Nat.reduceLeDiff, Int.reduceEq, Int.reduceSub, Int.cast_ofNat_Int, s_resc, s_consR, m_load4, m_store4, s_res0, ↓s_skip, ↓s_ops, ↓s_dops, ↓s_seq, ↓s_cond, ↓s_block, ↓s_exit, ↓s_ret, ↓s_scope, ↓s_nil, ↓s_op, ↓s_opg, ↓s_wanted', ↓s_wantV, s_wantV, s_wantV0, beq_true, beq_false, ↓s_bindS, s_bindS, ↓s_bindE, s_bindE, s_bindE_ret, s_bindE_exit, s_bindE_iteN, s_norm, ↓s_condV, s_condV, s_block_ret, s_block_normal, s_block_exit, s_block_iteN, ↓s_getp, ↓s_getp0, ↓s_get, s_get0, ↓s_con, ↓s_fn, ↓s_os0, ↓s_os1, ↓s_list0, ↓s_list1, ↓s_mov, ↓s_pick, ↓s_pickE, s_pickE, ↓s_bin, ↓s_un, ↓s_minmax, ↓s_call, ↓s_callv, ↓s_callV, ↓s_ext, s_same, b_eql, b_neq, b_lss, b_leq, b_gtr, b_geq, b_add, b_sub, b_mul, b_eqlb, b_neqb, b_fnil, b_fnil', b_fnil2, b_fnil2', u_neg, u_not, m_two, s_end, s_end', s_end_iteN, s_res0, s_res1, s_tup1, s_tup2, ↓iteN_true, ↓iteN_false, iteN_true, iteN_false, Nat.zero_add, List.nil_append, List.append_nil, Nat.reduceEqDiff, reduceIte, decide_true, decide_false, Bool.not_true, Bool.not_false, List.getElem?_cons_zero, List.getElem?_cons_succ, Bool.false_eq_true, if_true, if_false, beq_self_eq_true]
  | true =>
    obtain ⟨w, h4, RF, k4, w4⟩ := sp_rFlag (X := X) A.rF A.rf A.rB (fun args h => M.no k_purserref11_Flag args h rfl rfl rfl rfl rfl rfl) (fun args h => M.no k_purserref11_flag args h rfl rfl rfl rfl rfl rfl) (fun args h => M.no k_purserref11_Bytes args h rfl rfl rfl rfl rfl rfl) 1988 true (h.new (.cells [.int .u8 1] .rw))
    have K4 : ∀ j, j < h.next → h4.get j = h.get j := fun j hj => by rw [k4 j (by rw [h_next_new]; omega), h_new_ne _ _ (by omega)]
    obtain ⟨c4, y4, r4, s4, p4, o4⟩ := S h4 K4
    obtain ⟨c5, y5, r5, s5, p5, o5⟩ := S (h.new (.cells [.int .u8 1] .rw)) (fun j hj => by rw [h_new_ne _ _ (by omega)])
    have f4 : b2sV h4 (.slice (some (h.next, 0)) 1 (some 1) 1) = some (.str [1]) := by
      rw [nx_bs1, k4 h.next (by rw [h_next_new]; omega), H.get_new, if_pos rfl]; rfl
    have f5 : b2sV (h.new (.cells [.int .u8 1] .rw)) (.slice (some (h.next, 0)) 1 (some 1) 1) = some (.str [1]) := by
      rw [nx_bs1, H.get_new, if_pos rfl]; rfl
    simp only [if_true] at w4
    simp (config := {maxSteps := 1000000}) (disch := first | omega | (simp only [List.length_cons, List.length_nil, List.length_append, List.length_drop]; omega)) only [isTrue_y2, fR3, t1, t2, t7, t8, t9, t10, t11, sl, upA, Nat.add_zero, s_evM0, s_evM1, D1, D2, T1, T2, F1, RF, c0, y0, s0, o0, c4, y4, s4, o4, c5, y5, s5, o5, f4, f5, w4, ad, bqs, dd, du, bb, b_seq, ↓s_slcS, ↓ns_b2s, ↓s_len, x_lenS, ↓s_evD, ↓s_dnil, ↓s_dL, ↓s_dLg, ↓s_dR, ↓s_dRg, ↓s_dRj, ↓s_dRjg, ↓s_dB, ↓s_dBg, ↓s_dAlloc, ↓s_bindD, s_bindD, s_finD, s_finDx, s_addP0, s_addP1, s_addB, s_lookP, ↓s_bump0, ↓s_bump_get, s_bump_next, s_ok0, ↓s_ok1, s_okR0, ↓s_okR1, ↓s_okE, s_okE, s_okE1, s_nth0, s_nthS, Nat.add_zero, Bool.and_self, Bool.and_true, Bool.true_and, ↓l_loop, ↓l_succ, ↓l_normal, l_normal, l_exit, l_ret, l_iteN, ↓h_put_get, ↓h_new_get, ↓h_del_get, h_next_put, h_next_new, h_next_del, Nat.add_assoc, Nat.add_eq_left, Nat.left_eq_add, Nat.add_left_cancel_iff, ↓s_load, m_load, ↓m_load1, m_load1, ↓m_st, m_stE, m_storeI, m_storeE, w_zero, w_succ, ↓s_alloc, ↓x_idxA, ↓x_idxS, x_idxAE, x_idxSE, x_addrE, x_idx, x_lenS, ↓s_len, ↓x_buildS, x_buildE, ↓x_P0, ↓x_P1, x_fill0, x_filli, x_fills, x_fillb, c_int, List.length_cons, List.length_nil, List.cons_append, List.drop_succ_cons, List.drop_zero, List.drop_nil, List.nil_append, Int.reduceAdd, Int.reduceToNat, Int.reduceLT, Int.reduceLE, Nat.reduceAdd, Nat.reduceMul, Nat.reduceLeDiff, Int.reduceEq, Int.reduceSub, Int.cast_ofNat_Int, s_resc, s_consR, m_load4, m_store4, s_res0, ↓s_skip, ↓s_ops, ↓s_dops, ↓s_seq, ↓s_cond, ↓s_block, ↓s_exit, ↓s_ret, ↓s_scope, ↓s_nil, ↓s_op, ↓s_opg, ↓s_wanted', ↓s_wantV, s_wantV, s_wantV0, beq_true, beq_false, ↓s_bindS, s_bindS, ↓s_bindE, s_bindE, s_bindE_ret, s_bindE_exit, s_bindE_iteN, s_norm, ↓s_condV, s_condV, s_block_ret, s_block_normal, s_block_exit, s_block_iteN, ↓s_getp, ↓s_getp0, ↓s_get, s_get0, ↓s_con, ↓s_fn, ↓s_os0, ↓s_os1, ↓s_list0, ↓s_list1, ↓s_mov, ↓s_pick, ↓s_pickE, s_pickE, ↓s_bin, ↓s_un, ↓s_minmax, ↓s_call, ↓s_callv, ↓s_callV, ↓s_ext, s_same, b_eql, b_neq, b_lss, b_leq, b_gtr, b_geq, b_add, b_sub, b_mul, b_eqlb, b_neqb, b_fnil, b_fnil', b_fnil2, b_fnil2', u_neg, u_not, m_two, s_end, s_end', s_end_iteN, s_res0, s_res1, s_tup1, s_tup2, ↓iteN_true, ↓iteN_false, iteN_true, iteN_false, Nat.zero_add, List.nil_append, List.append_nil, Nat.reduceEqDiff, reduceIte, decide_true, decide_false, Bool.not_true, Bool.not_false, List.getElem?_cons_zero, List.getElem?_cons_succ, Bool.false_eq_true, if_true, if_false, beq_self_eq_true]
end Go.Eng
namespace Go.Eng
open Go
variable {E : Nat → Option Fn}
set_option linter.unusedSimpArgs false
set_option linter.unusedVariables false
theorem renc_gen {X : Orc} (hE : ∀ n h, encIn n = true → X (.fn k_purserref11_Encode) [.int .i64 n] h = some (newV h (ofBytes (enc n)) (.int .i64 0))) (N : Nat) (n : Int) (h : H) (hn : -549755813887 ≤ n ∧ n ≤ 549755813887) (h0 : n ≠ 0) : callX E X (N + 1) (.fn k_purserref11_Encode) [.int .i64 n] h = some (.tup [.slice (some (h.next, 0)) ((enc n).length - 1 + 1) none 1, .int .i64 0], h.new (.cells (ofBytes (enc n)) .sh)) := by
  rw [x_known (hE n h (decide_eq_true hn))]
  obtain ⟨_, _, hne, _⟩ := enc_facts n hn h0
  cases hq : enc n with
  | nil => exact absurd hq hne
  | cons a r => show some (newV h (_ :: ofBytes r) _) = _; unfold newV; simp only [ofB_len, List.length_cons, Nat.add_sub_cancel]; rfl
set_option maxHeartbeats 8000000 in
theorem f_mid {X : Orc} (M : FormX X) (A : FormE E) (l : List Nat) (hb : ∀ x ∈ l, x < 256) (L : Nat) (hL : l.length = L) (h100 : L ≤ 100) (is : Bool) (n : Int) (a : Option (Nat × Nat)) (q : Nat) (h : H)
    (S : ∀ h', (∀ j, j < h.next → h'.get j = h.get j) → rdB h' (.slice a L none 1) = some l ∧ b2sV h' (.slice a L none 1) = some (.str l) ∧ rdB h' (.slice (some (q, 0)) L none 1) = some l ∧ b2sV h' (.slice (some (q, 0)) (L + 1) none 1) = some (.str (l ++ [7])))
    (T : Tr V) (t0 : evO T (.t 0) = .int .i64 n) (t1 : evO T (.t 1) = .slice a L none 1) (t2 : evO T (.t 2) = .bool is) (t7 : evO T (.t 7) = .slice (some (q, 0)) (L + 1) none 1) :
    ∃ h', fnEnd [.tmp 6] (evC (callX E X 1999) 94 1999 none fR2 ⟨T, [], h⟩) = some (.bool true, h') := by
  obtain ⟨R, eR⟩ : ∃ R, fR3 = R := ⟨_, rfl⟩
  by_cases hin : -549755813887 ≤ n ∧ n ≤ 549755813887
  · by_cases n0 : n = 0
    · subst n0
      have E1 : ∀ h, callX E X 1999 (.fn k_num_Encode) [.int .i64 0] h = some (.tup [.slice none 0 (some 0) 0, .int .i64 0], h) := fun h => x_known (M.enc 0 h rfl)
      have E2 : ∀ h, callX E X 1999 (.fn k_purserref11_Encode) [.int .i64 0] h = some (.tup [.slice none 0 (some 0) 0, .int .i64 0], h) := fun h => x_known (M.renc 0 h rfl)
      have fin := fun T => f_end M A l hb L hL h100 is 0 a q [] (.slice none 0 (some 0) 0) (.slice none 0 (some 0) 0) h (fun h' k => ⟨rfl, rfl, S h' k⟩) T
      rw [eR] at fin
      unfold fR2
      rw [eR]
      simp (config := {maxSteps := 1000000}) (disch := first | omega | (simp only [List.length_cons, List.length_nil, List.length_append, List.length_drop]; omega)) only [t0, E1, E2, ↓l_loop, ↓l_succ, ↓l_normal, l_normal, l_exit, l_ret, l_iteN, ↓h_put_get, ↓h_new_get, ↓h_del_get, h_next_put, h_next_new, h_next_del, Nat.add_assoc, Nat.add_eq_left, Nat.left_eq_add, Nat.add_left_cancel_iff, ↓s_load, m_load, ↓m_load1, m_load1, ↓m_st, m_stE, m_storeI, m_storeE, w_zero, w_succ, ↓s_alloc, ↓x_idxA, ↓x_idxS, x_idxAE, x_idxSE, x_addrE, x_idx, x_lenS, ↓s_len, ↓x_buildS, x_buildE, ↓x_P0, ↓x_P1, x_fill0, x_filli, x_fills, x_fillb, c_int, List.length_cons, List.length_nil, List.cons_append, List.drop_succ_cons, List.drop_zero, List.drop_nil, List.nil_append, Int.reduceAdd, Int.reduceToNat, Int.reduceLT, Int.reduceLE, Nat.reduceAdd, Nat.reduceMul, Nat.reduceLeDiff, Int.reduceEq, Int.reduceSub, Int.cast_ofNat_Int, s_resc, s_consR, m_load4, m_store4, s_res0, ↓s_skip, ↓s_ops, ↓s_dops, ↓s_seq, ↓s_cond, ↓s_block, ↓s_exit, ↓s_ret, ↓s_scope, ↓s_nil, ↓s_op, ↓s_opg, ↓s_wanted', ↓s_wantV, s_wantV, s_wantV0, beq_true, beq_false, ↓s_bindS, s_bindS, ↓s_bindE, s_bindE, s_bindE_ret, s_bindE_exit, s_bindE_iteN, s_norm, ↓s_condV, s_condV, s_block_ret, s_block_normal, s_block_exit, s_block_iteN, ↓s_getp, ↓s_getp0, ↓s_get, s_get0, ↓s_con, ↓s_fn, ↓s_os0, ↓s_os1, ↓s_list0, ↓s_list1, ↓s_mov, ↓s_pick, ↓s_pickE, s_pickE, ↓s_bin, ↓s_un, ↓s_minmax, ↓s_call, ↓s_callv, ↓s_callV, ↓s_ext, s_same, b_eql, b_neq, b_lss, b_leq, b_gtr, b_geq, b_add, b_sub, b_mul, b_eqlb, b_neqb, b_fnil, b_fnil', b_fnil2, b_fnil2', u_neg, u_not, m_two, s_end, s_end', s_end_iteN, s_res0, s_res1, s_tup1, s_tup2, ↓iteN_true, ↓iteN_false, iteN_true, iteN_false, Nat.zero_add, List.nil_append, List.append_nil, Nat.reduceEqDiff, reduceIte, decide_true, decide_false, Bool.not_true, Bool.not_false, List.getElem?_cons_zero, List.getElem?_cons_succ, Bool.false_eq_true, if_true, if_false, beq_self_eq_true]
      exact fin _ (by (simp only [s_getp, s_getp0, Nat.reduceEqDiff, decide_false, decide_true, iteN_false, iteN_true, t0, t1, t2, t7]; try rfl)) (by (simp only [s_getp, s_getp0, Nat.reduceEqDiff, decide_false, decide_true, iteN_false, iteN_true, t0, t1, t2, t7]; try rfl)) (by (simp only [s_getp, s_getp0, Nat.reduceEqDiff, decide_false, decide_true, iteN_false, iteN_true, t0, t1, t2, t7]; try rfl)) (by (simp only [s_getp, s_getp0, Nat.reduceEqDiff, decide_false, decide_true, iteN_false, iteN_true, t0, t1, t2, t7]; try rfl)) (by (simp only [s_getp, s_getp0, Nat.reduceEqDiff, decide_false, decide_true, iteN_false, iteN_true, t0, t1, t2, t7]; try rfl)) (by (simp only [s_getp, s_getp0, Nat.reduceEqDiff, decide_false, decide_true, iteN_false, iteN_true, t0, t1, t2, t7]; try rfl)) (by (simp only [s_getp, s_getp0, Nat.reduceEqDiff, decide_false, decide_true, iteN_false, iteN_true, t0, t1, t2, t7]; try rfl))
    · have E1 := fun h => enc_gen (E := E) M.enc 1998 n h hin n0
      have E2 := fun h => renc_gen (E := E) M.renc 1998 n h hin n0
      obtain ⟨_, _, _, hlt⟩ := enc_facts n hin n0
      have hlen := enc_len n hin n0
      obtain ⟨K, eK⟩ : ∃ K, (enc n).length - 1 = K := ⟨_, rfl⟩
      rw [eK] at hlen
      simp only [eK] at E1 E2
      obtain ⟨B, eB⟩ : ∃ B, Blk.cells (ofBytes (enc n)) .sh = B := ⟨_, rfl⟩
      have fin := fun T => f_end M A l hb L hL h100 is 0 a q (enc n) (.slice (some (h.next, 0)) (K + 1) none 1) (.slice (some (h.next + 1, 0)) (K + 1) none 1) ((h.new (.cells (ofBytes (enc n)) .sh)).new (.cells (ofBytes (enc n)) .sh)) (fun h' k => by
        have k1 : h'.get h.next = some (.cells (ofBytes (enc n)) .sh) := by
          rw [k _ (by simp only [h_next_new]; omega), h_new_ne _ _ (by simp only [h_next_new]; omega), H.get_new, if_pos rfl]
        have k2 : h'.get (h.next + 1) = some (.cells (ofBytes (enc n)) .sh) := by
          rw [k _ (by simp only [h_next_new]; omega), H.get_new]
          exact if_pos rfl
        refine ⟨?_, ?_, S h' (fun j hj => ?_)⟩
        · rw [nx_bs1, k1]; exact nsE_of (enc n) hlt .sh (K + 1) hlen
        · rw [nx_bs1, k2]; exact nsE_of (enc n) hlt .sh (K + 1) hlen
        · rw [k _ (by simp only [h_next_new]; omega), h_new_ne _ _ (by simp only [h_next_new]; omega), h_new_ne _ _ (by omega)]) T
      rw [eR] at fin
      unfold fR2
      rw [eR]
      simp (config := {maxSteps := 1000000}) (disch := first | omega | (simp only [List.length_cons, List.length_nil, List.length_append, List.length_drop]; omega)) only [t0, E1, E2, ↓l_loop, ↓l_succ, ↓l_normal, l_normal, l_exit, l_ret, l_iteN, ↓h_put_get, ↓h_new_get, ↓h_del_get, h_next_put, h_next_new, h_next_del, Nat.add_assoc, Nat.add_eq_left, Nat.left_eq_add, Nat.add_left_cancel_iff, ↓s_load, m_load, ↓m_load1, m_load1, ↓m_st, m_stE, m_storeI, m_storeE, w_zero, w_succ, ↓s_alloc, ↓x_idxA, ↓x_idxS, x_idxAE, x_idxSE, x_addrE, x_idx, x_lenS, ↓s_len, ↓x_buildS, x_buildE, ↓x_P0, ↓x_P1, x_fill0, x_filli, x_fills, x_fillb, c_int, List.length_cons, List.length_nil, List.cons_append, List.drop_succ_cons, List.drop_zero, List.drop_nil, List.nil_append, Int.reduceAdd, Int.reduceToNat, Int.reduceLT, Int.reduceLE, Nat.reduceAdd, Nat.reduceMul, Nat.reduceLeDiff, Int.reduceEq, Int.reduceSub, Int.cast_ofNat_Int, s_resc, s_consR, m_load4, m_store4, s_res0, ↓s_skip, ↓s_ops, ↓s_dops, ↓s_seq, ↓s_cond, ↓s_block, ↓s_exit, ↓s_ret, ↓s_scope, ↓s_nil, ↓s_op, ↓s_opg, ↓s_wanted', ↓s_wantV, s_wantV, s_wantV0, beq_true, beq_false, ↓s_bindS, s_bindS, ↓s_bindE, s_bindE, s_bindE_ret, s_bindE_exit, s_bindE_iteN, s_norm, ↓s_condV, s_condV, s_block_ret, s_block_normal, s_block_exit, s_block_iteN, ↓s_getp, ↓s_getp0, ↓s_get, s_get0, ↓s_con, ↓s_fn, ↓s_os0, ↓s_os1, ↓s_list0, ↓s_list1, ↓s_mov, ↓s_pick, ↓s_pickE, s_pickE, ↓s_bin, ↓s_un, ↓s_minmax, ↓s_call, ↓s_callv, ↓s_callV, ↓s_ext, s_same, b_eql, b_neq, b_lss, b_leq, b_gtr, b_geq, b_add, b_sub, b_mul, b_eqlb, b_neqb, b_fnil, b_fnil', b_fnil2, b_fnil2', u_neg, u_not, m_two, s_end, s_end', s_end_iteN, s_res0, s_res1, s_tup1, s_tup2, ↓iteN_true, ↓iteN_false, iteN_true, iteN_false, Nat.zero_add, List.nil_append, List.append_nil, Nat.reduceEqDiff, reduceIte, decide_true, decide_false, Bool.not_true, Bool.not_false, List.getElem?_cons_zero, List.getElem?_cons_succ, Bool.false_eq_true, if_true, if_false, beq_self_eq_true]
      exact fin _ (by (simp only [s_getp, s_getp0, Nat.reduceEqDiff, decide_false, decide_true, iteN_false, iteN_true, t0, t1, t2, t7]; try rfl)) (by (simp only [s_getp, s_getp0, Nat.reduceEqDiff, decide_false, decide_true, iteN_false, iteN_true, t0, t1, t2, t7]; try rfl)) (by (simp only [s_getp, s_getp0, Nat.reduceEqDiff, decide_false, decide_true, iteN_false, iteN_true, t0, t1, t2, t7]; try rfl)) (by (simp only [s_getp, s_getp0, Nat.reduceEqDiff, decide_false, decide_true, iteN_false, iteN_true, t0, t1, t2, t7]; try rfl)) (by (simp only [s_getp, s_getp0, Nat.reduceEqDiff, decide_false, decide_true, iteN_false, iteN_true, t0, t1, t2, t7]; try rfl)) (by (simp only [s_getp, s_getp0, Nat.reduceEqDiff, decide_false, decide_true, iteN_false, iteN_true, t0, t1, t2, t7]; try rfl)) (by (simp only [s_getp, s_getp0, Nat.reduceEqDiff, decide_false, decide_true, iteN_false, iteN_true, t0, t1, t2, t7]; try rfl))
  · have E1 : ∀ h, callX E X 1999 (.fn k_num_Encode) [.int .i64 n] h = _ := fun h => x_known (M.encNo n h (decide_eq_false hin))
    have E2 : ∀ h, callX E X 1999 (.fn k_purserref11_Encode) [.int .i64 n] h = _ := fun h => x_known (M.rencNo n h (decide_eq_false hin))
    have fin := fun T => f_end M A l hb L hL h100 is 110 a q [] (.slice none 0 (some 0) 0) (.slice none 0 (some 0) 0) h (fun h' k => ⟨rfl, rfl, S h' k⟩) T
    rw [eR] at fin
    unfold fR2
    rw [eR]
    simp (config := {maxSteps := 1000000}) (disch := first | omega | (simp only [List.length_cons, List.length_nil, List.length_append, List.length_drop]; omega)) only [t0, E1, E2, ↓l_loop, ↓l_succ, ↓l_normal, l_normal, l_exit, l_ret, l_iteN, ↓h_put_get, ↓h_new_get, ↓h_del_get, h_next_put, h_next_new, h_next_del, Nat.add_assoc, Nat.add_eq_left, Nat.left_eq_add, Nat.add_left_cancel_iff, ↓s_load, m_load, ↓m_load1, m_load1, ↓m_st, m_stE, m_storeI, m_storeE, w_zero, w_succ, ↓s_alloc, ↓x_idxA, ↓x_idxS, x_idxAE, x_idxSE, x_addrE, x_idx, x_lenS, ↓s_len, ↓x_buildS, x_buildE, ↓x_P0, ↓x_P1, x_fill0, x_filli, x_fills, x_fillb, c_int, List.length_cons, List.length_nil, List.cons_append, List.drop_succ_cons, List.drop_zero, List.drop_nil, List.nil_append, Int.reduceAdd, Int.reduceToNat, Int.reduceLT, Int.reduceLE, Nat.reduceAdd, Nat.reduceMul, Nat.reduceLeDiff, Int.reduceEq, Int.reduceSub, Int.cast_ofNat_Int, s_resc, s_consR, m_load4, m_store4, s_res0, ↓s_skip, ↓s_ops, ↓s_dops, ↓s_seq, ↓s_cond, ↓s_block, ↓s_exit, ↓s_ret, ↓s_scope, ↓s_nil, ↓s_op, ↓s_opg, ↓s_wanted', ↓s_wantV, s_wantV, s_wantV0, beq_true, beq_false, ↓s_bindS, s_bindS, ↓s_bindE, s_bindE, s_bindE_ret, s_bindE_exit, s_bindE_iteN, s_norm, ↓s_condV, s_condV, s_block_ret, s_block_normal, s_block_exit, s_block_iteN, ↓s_getp, ↓s_getp0, ↓s_get, s_get0, ↓s_con, ↓s_fn, ↓s_os0, ↓s_os1, ↓s_list0, ↓s_list1, ↓s_mov, ↓s_pick, ↓s_pickE, s_pickE, ↓s_bin, ↓s_un, ↓s_minmax, ↓s_call, ↓s_callv, ↓s_callV, ↓s_ext, s_same, b_eql, b_neq, b_lss, b_leq, b_gtr, b_geq, b_add, b_sub, b_mul, b_eqlb, b_neqb, b_fnil, b_fnil', b_fnil2, b_fnil2', u_neg, u_not, m_two, s_end, s_end', s_end_iteN, s_res0, s_res1, s_tup1, s_tup2, ↓iteN_true, ↓iteN_false, iteN_true, iteN_false, Nat.zero_add, List.nil_append, List.append_nil, Nat.reduceEqDiff, reduceIte, decide_true, decide_false, Bool.not_true, Bool.not_false, List.getElem?_cons_zero, List.getElem?_cons_succ, Bool.false_eq_true, if_true, if_false, beq_self_eq_true]
    exact fin _ (by (simp only [s_getp, s_getp0, Nat.reduceEqDiff, decide_false, decide_true, iteN_false, iteN_true, t0, t1, t2, t7]; try rfl)) (by (simp only [s_getp, s_getp0, Nat.reduceEqDiff, decide_false, decide_true, iteN_false, iteN_true, t0, t1, t2, t7]; try rfl)) (by (simp only [s_getp, s_getp0, Nat.reduceEqDiff, decide_false, decide_true, iteN_false, iteN_true, t0, t1, t2, t7]; try rfl)) (by (simp only [s_getp, s_getp0, Nat.reduceEqDiff, decide_false, decide_true, iteN_false, iteN_true, t0, t1, t2, t7]; try rfl)) (by (simp only [s_getp, s_getp0, Nat.reduceEqDiff, decide_false, decide_true, iteN_false, iteN_true, t0, t1, t2, t7]; try rfl)) (by (simp only [s_getp, s_getp0, Nat.reduceEqDiff, decide_false, decide_true, iteN_false, iteN_true, t0, t1, t2, t7]; try rfl)) (by (simp only [s_getp, s_getp0, Nat.reduceEqDiff, decide_false, decide_true, iteN_false, iteN_true, t0, t1, t2, t7]; try rfl))
theorem byt_app (l : List Nat) : ofBytes l ++ [V.int .u8 7] = ofBytes (l ++ [7]) := by rw [ofBytes_app]; rfl
theorem f_own {X : Orc} (M : FormX X) (A : FormE E) (l : List Nat) (hb : ∀ x ∈ l, x < 256) (L : Nat) (hL : l.length = L) (h100 : L ≤ 100) (is : Bool) (n : Int) (a : Option (Nat × Nat)) (h : H) (B : BytesAt h a l)
    (T : Tr V) (t0 : evO T (.t 0) = .int .i64 n) (t1 : evO T (.t 1) = .slice a L none 1) (t2 : evO T (.t 2) = .bool is) :
    ∃ h', fnEnd [.tmp 6] (evC (callX E X 1999) 94 1999 none (.seq oOwn fR2) ⟨T, [], h⟩) = some (.bool true, h') := by
  obtain ⟨T', h1, q, md, r, u0, u1, u2, u7, g, q0, q1, k⟩ := own_run (Q := callX E X 1999) (n := 1999) l a L hL h100 h B T t1
  rw [s_seq, r]
  show ∃ h', fnEnd [.tmp 6] (evC (callX E X 1999) 94 1999 none fR2 ⟨T', [], h1⟩) = some (.bool true, h')
  refine f_mid M A l hb L hL h100 is n a q h1 (fun h' k' => ?_) T' (u0.trans t0) (u1.trans t1) (u2.trans t2) u7
  have gq : h'.get q = some (.cells (ofBytes l ++ [.int .u8 7]) md) := by rw [k' q q1, g]
  have hb7 : ∀ x ∈ l ++ [7], x < 256 := by
    intro x hx
    rcases List.mem_append.1 hx with hx | hx
    · exact hb x hx
    · simp at hx; omega
  have rb : rdB h' (.slice a L none 1) = some l ∧ b2sV h' (.slice a L none 1) = some (.str l) := by
    by_cases hne : l = []
    · subst hne
      subst hL
      exact ⟨rfl, by cases a <;> rfl⟩
    · have hn : 1 ≤ h.next := by
        rcases B with h0 | ⟨_, _, hn⟩
        · exact absurd h0 hne
        · exact hn
      have := bytes_rd B hb none h' (by rw [k' 0 (by omega), k 0 (by omega)])
      rw [hL] at this
      exact this
  refine ⟨rb.1, rb.2, ?_, ?_⟩
  · cases L with
    | zero => rw [List.length_eq_zero_iff.1 hL]; rfl
    | succ K =>
      show rdC (K + 1) 0 (h'.get q) = _
      rw [gq]
      exact rdC_pre l _ md (K + 1) hL
  · rw [nx_bs1, gq, byt_app]
    exact nsE_of (l ++ [7]) hb7 md (L + 1) (by rw [List.length_append, hL]; rfl)
theorem f_forms : f_purserlaw11_NumForms = ⟨94, [.tmp 6],
  .seq (.ops [⟨(some 6), .mov (.c (.bool false)), none⟩])
  (.seq (.seq (.ops [⟨(some 16), .mov (.t 1), none⟩,
      ⟨(some 17), .len false (.t 16), none⟩,
      ⟨(some 18), .bin .gtr .no (.t 17) (.c (.int .i64 100)), none⟩])
   (.cond (.t 18)
    (.seq (.ops [⟨(some 6), .mov (.c (.bool true)), none⟩])
     (.ret))
    (.skip)))
  (.seq oOwn fR2))⟩ := rfl
theorem law_NumForms {X : Orc} (M : FormX X) (A : FormE E) (n : Int) (l : List Nat) (hb : ∀ x ∈ l, x < 256) (a : Option (Nat × Nat)) (is : Bool) (h : H) (B : BytesAt h a l) :
    ∃ h', callX E X 2000 (.fn k_purserlaw11_NumForms) [.int .i64 n, .slice a l.length none 1, .bool is] h = some (.bool true, h') := by
  have e := A.law
  rw [f_forms] at e
  rw [show (2000 : Nat) = 1999 + 1 from rfl, x_cfn e _ _ (Nat.le_of_ble_eq_true rfl) (M.no _ _ _ rfl rfl rfl rfl rfl rfl)]
  obtain ⟨L, hL⟩ : ∃ L, l.length = L := ⟨_, rfl⟩
  rw [hL]
  by_cases h100 : 100 < L
  · have c1 : decide ((100 : Int) < (L : Int)) = true := decide_eq_true (by omega)
    refine isTrue_some ?_
    simp (config := {maxSteps := 1000000}) (disch := first | omega | (simp only [List.length_cons, List.length_nil, List.length_append, List.length_drop]; omega)) only [isTrue_y2, c1, ↓s_len, x_lenS, ↓l_loop, ↓l_succ, ↓l_normal, l_normal, l_exit, l_ret, l_iteN, ↓h_put_get, ↓h_new_get, ↓h_del_get, h_next_put, h_next_new, h_next_del, Nat.add_assoc, Nat.add_eq_left, Nat.left_eq_add, Nat.add_left_cancel_iff, ↓s_load, m_load, ↓m_load1, m_load1, ↓m_st, m_stE, m_storeI, m_storeE, w_zero, w_succ, ↓s_alloc, ↓x_idxA, ↓x_idxS, x_idxAE, x_idxSE, x_addrE, x_idx, x_lenS, ↓s_len, ↓x_buildS, x_buildE, ↓x_P0, ↓x_P1, x_fill0, x_filli, x_fills, x_fillb, c_int, List.length_cons, List.length_nil, List.cons_append, List.drop_succ_cons, List.drop_zero, List.drop_nil, List.nil_append, Int.reduceAdd, Int.reduceToNat, Int.reduceLT, Int.reduceLE, Nat.reduceAdd, Nat.reduceMul, Nat.reduceLeDiff, Int.reduceEq, Int.reduceSub, Int.cast_ofNat_Int, s_resc, s_consR, m_load4, m_store4, s_res0, ↓s_skip, ↓s_ops, ↓s_dops, ↓s_seq, ↓s_cond, ↓s_block, ↓s_exit, ↓s_ret, ↓s_scope, ↓s_nil, ↓s_op, ↓s_opg, ↓s_wanted', ↓s_wantV, s_wantV, s_wantV0, beq_true, beq_false, ↓s_bindS, s_bindS, ↓s_bindE, s_bindE, s_bindE_ret, s_bindE_exit, s_bindE_iteN, s_norm, ↓s_condV, s_condV, s_block_ret, s_block_normal, s_block_exit, s_block_iteN, ↓s_getp, ↓s_getp0, ↓s_get, s_get0, ↓s_con, ↓s_fn, ↓s_os0, ↓s_os1, ↓s_list0, ↓s_list1, ↓s_mov, ↓s_pick, ↓s_pickE, s_pickE, ↓s_bin, ↓s_un, ↓s_minmax, ↓s_call, ↓s_callv, ↓s_callV, ↓s_ext, s_same, b_eql, b_neq, b_lss, b_leq, b_gtr, b_geq, b_add, b_sub, b_mul, b_eqlb, b_neqb, b_fnil, b_fnil', b_fnil2, b_fnil2', u_neg, u_not, m_two, s_end, s_end', s_end_iteN, s_res0, s_res1, s_tup1, s_tup2, ↓iteN_true, ↓iteN_false, iteN_true, iteN_false, Nat.zero_add, List.nil_append, List.append_nil, Nat.reduceEqDiff, reduceIte, decide_true, decide_false, Bool.not_true, Bool.not_false, List.getElem?_cons_zero, List.getElem?_cons_succ, Bool.false_eq_true, if_true, if_false, beq_self_eq_true]
  · have c1 : decide ((100 : Int) < (L : Int)) = false := decide_eq_false (by omega)
    have fin := f_own M A l hb L hL (by omega) is n a h B
    obtain ⟨R, eR⟩ : ∃ R, C.seq oOwn fR2 = R := ⟨_, rfl⟩
    rw [eR] at fin ⊢
    simp (config := {maxSteps := 1000000}) (disch := first | omega | (simp only [List.length_cons, List.length_nil, List.length_append, List.length_drop]; omega)) only [c1, ↓s_len, x_lenS, ↓l_loop, ↓l_succ, ↓l_normal, l_normal, l_exit, l_ret, l_iteN, ↓h_put_get, ↓h_new_get, ↓h_del_get, h_next_put, h_next_new, h_next_del, Nat.add_assoc, Nat.add_eq_left, Nat.left_eq_add, Nat.add_left_cancel_iff, ↓s_load, m_load, ↓m_load1, m_load1, ↓m_st, m_stE, m_storeI, m_storeE, w_zero, w_succ, ↓s_alloc, ↓x_idxA, ↓x_idxS, x_idxAE, x_idxSE, x_addrE, x_idx, x_lenS, ↓s_len, ↓x_buildS, x_buildE, ↓x_P0, ↓x_P1, x_fill0, x_filli, x_fills, x_fillb, c_int, List.length_cons, List.length_nil, List.cons_append, List.drop_succ_cons, List.drop_zero, List.drop_nil, List.nil_append, Int.reduceAdd, Int.reduceToNat, Int.reduceLT, Int.reduceLE, Nat.reduceAdd, Nat.reduceMul, Nat.reduceLeDiff, Int.reduceEq, Int.reduceSub, Int.cast_ofNat_Int, s_resc, s_consR, m_load4, m_store4, s_res0, ↓s_skip, ↓s_ops, ↓s_dops, ↓s_seq, ↓s_cond, ↓s_block, ↓s_exit, ↓s_ret, ↓s_scope, ↓s_nil, ↓s_op, ↓s_opg, ↓s_wanted', ↓s_wantV, s_wantV, s_wantV0, beq_true, beq_false, ↓s_bindS, s_bindS, ↓s_bindE, s_bindE, s_bindE_ret, s_bindE_exit, s_bindE_iteN, s_norm, ↓s_condV, s_condV, s_block_ret, s_block_normal, s_block_exit, s_block_iteN, ↓s_getp, ↓s_getp0, ↓s_get, s_get0, ↓s_con, ↓s_fn, ↓s_os0, ↓s_os1, ↓s_list0, ↓s_list1, ↓s_mov, ↓s_pick, ↓s_pickE, s_pickE, ↓s_bin, ↓s_un, ↓s_minmax, ↓s_call, ↓s_callv, ↓s_callV, ↓s_ext, s_same, b_eql, b_neq, b_lss, b_leq, b_gtr, b_geq, b_add, b_sub, b_mul, b_eqlb, b_neqb, b_fnil, b_fnil', b_fnil2, b_fnil2', u_neg, u_not, m_two, s_end, s_end', s_end_iteN, s_res0, s_res1, s_tup1, s_tup2, ↓iteN_true, ↓iteN_false, iteN_true, iteN_false, Nat.zero_add, List.nil_append, List.append_nil, Nat.reduceEqDiff, reduceIte, decide_true, decide_false, Bool.not_true, Bool.not_false, List.getElem?_cons_zero, List.getElem?_cons_succ, Bool.false_eq_true, if_true, if_false, beq_self_eq_true]
    exact fin _ (by (simp only [s_getp, s_getp0, Nat.reduceEqDiff, decide_false, decide_true, iteN_false, iteN_true]; try rfl)) (by (simp only [s_getp, s_getp0, Nat.reduceEqDiff, decide_false, decide_true, iteN_false, iteN_true]; try rfl)) (by (simp only [s_getp, s_getp0, Nat.reduceEqDiff, decide_false, decide_true, iteN_false, iteN_true]; try rfl))
end Go.Eng
