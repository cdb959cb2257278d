/- What functions of the program come to: own work. -/
import Derived.Test.YtgjoaeefnknpfaaCrG
import Derived.Test.YtgjoaeefnknpfaaOpF
namespace Go.Eng
open Go
variable {E : Nat → Option Fn} {X : Orc}
set_option linter.unusedSimpArgs false
set_option linter.unusedVariables false
abbrev Pt := Option (Nat × Nat) × Option Nat × Nat × List Nat
def slOf (q : Pt) : V := .slice q.1 q.2.2.2.length q.2.1 q.2.2.1
def flV (ps : List Pt) : List Nat := (ps.map (fun q => q.2.2.2)).flatten
theorem flV_app (a b : List Pt) : flV (a ++ b) = flV a ++ flV b := by unfold flV; rw [List.map_append, List.flatten_append]
theorem flV_one (q : Pt) : flV [q] = q.2.2.2 := by unfold flV; simp
/-- a written slice -/
def WS (h : H) (base : Nat) (w : List Nat) (ao : Option (Nat × Nat)) (co : Option Nat) (eo : Nat) : Prop := (w = [] ∧ ao = none ∧ co = some 0 ∧ eo = 0) ∨ (0 < w.length ∧ ∃ q md, ao = some (q, 0) ∧ co = none ∧ eo = 1 ∧ h.get q = some (.cells (ofI .u8 w) md) ∧ isRo md = false ∧ base ≤ q ∧ q < h.next)
theorem WS.src {h : H} {base : Nat} {w : List Nat} {ao : Option (Nat × Nat)} {co : Option Nat} {eo : Nat} (s : WS h base w ao co eo) : SrcH h ao eo w := by
  rcases s with ⟨h1, _⟩ | ⟨h1, q, md, rfl, rfl, rfl, g, _, _, hq⟩
  · exact .inl h1
  · exact .inr ⟨q, 0, _, md, rfl, rfl, hq, g, by rw [ofI_len]; omega, by rw [List.drop_zero]; exact List.take_of_length_le (by rw [ofI_len]; exact Nat.le_refl _)⟩
theorem ap_ws (h : H) (base : Nat) (w l : List Nat) (ao : Option (Nat × Nat)) (co : Option Nat) (eo : Nat) (s : WS h base w ao co eo) (hb : base ≤ h.next) (hl : w.length + l.length ≤ 1000000) :
    ∃ ao' co' eo' h', appendC h 1 1 (.slice ao w.length co eo) (some (l.length, ofI .u8 l)) = some (.slice ao' (w ++ l).length co' eo', h') ∧ WS h' base (w ++ l) ao' co' eo' ∧ h.next ≤ h'.next ∧ ∀ i, i < base → h'.get i = h.get i := by
  cases hn : l.length with
  | zero =>
    obtain rfl : l = [] := List.length_eq_zero_iff.1 hn
    rw [List.append_nil]
    exact ⟨_, _, _, _, appN _ _ _ _ _ _, s, Nat.le_refl _, fun _ _ => rfl⟩
  | succ n =>
    rcases s with ⟨rfl, rfl, rfl, rfl⟩ | ⟨h1, q, md, rfl, rfl, rfl, g, hm, hq0, hq⟩
    · have a := app0 h n 0 .u8 l (some 0) (by omega)
      rw [List.nil_append, hn]
      refine ⟨_, _, _, _, a, .inr ⟨by omega, h.next, .rw, rfl, rfl, rfl, h_new_same _ _, rfl, hb, Nat.lt_succ_self _⟩, Nat.le_succ _, fun i hi => h_new_ne _ _ (by omega)⟩
    · have a := appU_of h q w.length n .u8 l (by omega)
      rw [g, appUI _ _ _ _ hm _ _ _ _ (Nat.le_refl _), take_all w _ (Nat.le_refl _)] at a
      rw [List.length_append, hn]
      refine ⟨_, _, _, _, a, .inr ⟨by rw [List.length_append]; omega, h.next, .sh, rfl, rfl, rfl, h_new_same' _ _ (by rw [h_next_del]), rfl, hb, by simp only [h_next_new, h_next_del]; omega⟩, by simp only [h_next_new, h_next_del]; omega, fun i hi => ?_⟩
      rw [h_new_ne _ _ (by rw [h_next_del]; omega), h_del_ne _ (by omega)]
structure RW (pn p : Nat) (ps : List Pt) (h0 : H) (i : Nat) (T : Tr V) (h : H) : Prop where
  il : i ≤ ps.length
  t0 : evO T (.t 0) = .ptr (some (pn, 0))
  t9 : ∃ c, evO T (.t 9) = .slice (some (p, 0)) ps.length c 1
  t10 : evO T (.t 10) = .int .i64 (ps.length : Int)
  t11 : evO T (.t 11) = .int .i64 (i : Int)
  pen : ∃ ao co eo, h.get pn = some (.cells [.slice ao (flV (ps.take i)).length co eo] .rw) ∧ WS h h0.next (flV (ps.take i)) ao co eo
  nx : h0.next ≤ h.next
  fr : ∀ j, j < h0.next → j ≠ pn → h.get j = h0.get j
theorem rw_step (Q : Orc) (m pn p : Nat) (ps : List Pt) (hl : ps.length < 9223372036854775807) (hf : (flV ps).length ≤ 1000000) (md : Md) (hs h0 : H) (kp : Kp hs h0) (hpn : hs.next ≤ pn) (hpn0 : pn < h0.next) (hp : p < h0.next) (hpp : p ≠ pn) (gp : h0.get p = some (.cells (ps.map slOf) md)) (ok : ∀ q ∈ ps, SrcH hs q.1 q.2.2.1 q.2.2.2) :
    ∀ i T h, i < ps.length → RW pn p ps h0 i T h → ∃ T' h', evC Q 25 m none L_octet_Pen_Raw_0 ⟨T, [], h⟩ = some (.normal, ⟨T', [], h'⟩) ∧ RW pn p ps h0 (i + 1) T' h' := by
  intro i T h hi ⟨_, t0, ⟨c, t9⟩, t10, t11, ⟨ao, co, eo, gpn, ws⟩, nx, fr⟩
  have c0 : decide ((i : Int) < (ps.length : Int)) = true := decide_eq_true (by omega)
  have wi : wr .i64 ((i : Int) + 1) = ((i + 1 : Nat) : Int) := by rw [wr_i64 (by omega)]; omega
  have ix : idx (i : Int) ps.length = some i := idxn hi
  have gp' : h.get p = some (.cells (ps.map slOf) md) := by rw [fr _ hp hpp, gp]
  obtain ⟨q, eq⟩ : ∃ q, ps[i] = q := ⟨_, rfl⟩
  have cg : (ps.map slOf)[i]? = some (.slice q.1 q.2.2.2.length q.2.1 q.2.2.1) := by rw [List.getElem?_map, List.getElem?_eq_getElem hi, eq]; rfl
  have kh : Kp hs h := ⟨Nat.le_trans kp.1 nx, fun j hj => by rw [fr _ (Nat.lt_of_lt_of_le hj kp.1) (by omega), kp.2 _ hj]⟩
  have sc := ((ok q (by rw [← eq]; exact List.getElem_mem hi)).mono kh).cellz q.2.1
  have fo : flV (ps.take (i + 1)) = flV (ps.take i) ++ q.2.2.2 := by
    rw [List.take_add_one, List.getElem?_eq_getElem hi, eq, flV_app]
    show _ ++ flV [q] = _
    rw [flV_one]
  have fl : (flV (ps.take (i + 1))).length ≤ (flV ps).length := by
    have e : flV ps = flV (ps.take (i + 1)) ++ flV (ps.drop (i + 1)) := by rw [← flV_app, List.take_append_drop]
    rw [e, List.length_append]; omega
  rw [fo, List.length_append] at fl
  obtain ⟨ao', co', eo', h1, ap, ws1, n1, f1⟩ := ap_ws h h0.next (flV (ps.take i)) q.2.2.2 ao co eo ws nx (by omega)
  rw [← fo] at ap ws1
  have gp1 : h1.get pn = some (.cells [.slice ao (flV (ps.take i)).length co eo] .rw) := by rw [f1 _ hpn0, gpn]
  obtain ⟨C, eC⟩ : ∃ C, ps.map slOf = C := ⟨_, rfl⟩
  rw [eC] at gp' cg
  have ef : ∀ h, binV .eql (.ref .p) h (.ptr (some (pn, 0))) (.ptr none) = some (.bool false) := fun h => rfl
  obtain ⟨N1, eN1⟩ : ∃ n, (flV (ps.take i)).length = n := ⟨_, rfl⟩
  obtain ⟨N2, eN2⟩ : ∃ n, (flV (ps.take (i + 1))).length = n := ⟨_, rfl⟩
  rw [eN1] at gpn ap gp1
  rw [eN2] at ap
  refine ⟨_, h1.put pn (.cells [.slice ao' N2 co' eo'] .rw), by
    simp (config := {maxSteps := 2000000}) (disch := first | omega | (simp only [List.length_cons, List.length_nil, List.length_append, List.length_drop]; omega)) only [L_octet_Pen_Raw_0, t0, t9, t10, t11, gp', gpn, cg, c0, wi, ix, sc, ap, gp1, m_storeS, ↓s_append, ↓b_xor32, ↓b_and32, ↓b_or32, ↓u_not32, b_xor32, b_and32, b_or32, u_not32, w32ad, ↓x_conv, x_convV, ↓x_fieldAddr, x_fieldV, ↓s_nilchk, x_nilchk, Nat.zero_add, Nat.add_zero, Nat.mul_one, ↓l_loop, ↓l_succ, ↓l_normal, l_normal, l_exit, l_ret, l_iteN, ↓h_put_get, ↓h_new_get, ↓h_del_get, h_next_put, h_next_new, h_next_del, Nat.add_assoc, Nat.add_eq_left, Nat.left_eq_add, Nat.add_left_cancel_iff, ↓s_load, m_load, ↓m_load1, m_load1, ↓m_st, m_stE, m_storeI, m_storeE, w_zero, w_succ, ↓s_alloc, ↓x_idxA, ↓x_idxS, x_idxAE, x_idxSE, x_addrE, x_idx, x_lenS, ↓s_len, ↓x_buildS, x_buildE, ↓x_P0, ↓x_P1, x_fill0, x_filli, x_fills, x_fillb, c_int, List.length_cons, List.length_nil, List.cons_append, List.drop_succ_cons, List.drop_zero, List.drop_nil, List.nil_append, Int.reduceAdd, Int.reduceToNat, Int.reduceLT, Int.reduceLE, Nat.reduceAdd, Nat.reduceMul, Nat.reduceLeDiff, Int.reduceEq, Int.reduceSub, Int.cast_ofNat_Int, s_resc, s_consR, m_load4, m_store4, s_res0, ↓s_skip, ↓s_ops, ↓s_dops, ↓s_seq, ↓s_cond, ↓s_block, ↓s_exit, ↓s_ret, ↓s_scope, ↓s_nil, ↓s_op, ↓s_opg, ↓s_wanted', ↓s_wantV, s_wantV, s_wantV0, beq_true, beq_false, ↓s_bindS, s_bindS, ↓s_bindE, s_bindE, s_bindE_ret, s_bindE_exit, s_bindE_iteN, s_norm, ↓s_condV, s_condV, s_block_ret, s_block_normal, s_block_exit, s_block_iteN, ↓s_getp, ↓s_getp0, ↓s_get, s_get0, ↓s_con, ↓s_fn, ↓s_os0, ↓s_os1, ↓s_list0, ↓s_list1, ↓s_mov, ↓s_pick, ↓s_pickE, s_pickE, ↓s_bin, ↓s_un, ↓s_minmax, ↓s_call, ↓s_callv, ↓s_callV, ↓s_ext, s_same, b_eql, b_neq, b_lss, b_leq, b_gtr, b_geq, b_add, b_sub, b_mul, b_eqlb, b_neqb, b_fnil, b_fnil', b_fnil2, b_fnil2', u_neg, u_not, m_two, s_end, s_end', s_end_iteN, s_res0, s_res1, s_tup1, s_tup2, ↓iteN_true, ↓iteN_false, iteN_true, iteN_false, Nat.zero_add, List.nil_append, List.append_nil, Nat.reduceEqDiff, reduceIte, decide_true, decide_false, Bool.not_true, Bool.not_false, List.getElem?_cons_zero, List.getElem?_cons_succ, Bool.false_eq_true, if_true, if_false, beq_self_eq_true]
    exact rfl, ⟨by omega, (by (simp only [s_getp, s_getp0, Nat.reduceEqDiff, decide_false, decide_true, iteN_false, iteN_true, t0]; try rfl)), ⟨c, (by (simp only [s_getp, s_getp0, Nat.reduceEqDiff, decide_false, decide_true, iteN_false, iteN_true, t9]; try rfl))⟩, (by (simp only [s_getp, s_getp0, Nat.reduceEqDiff, decide_false, decide_true, iteN_false, iteN_true, t10]; try rfl)), (by (simp only [s_getp, s_getp0, Nat.reduceEqDiff, decide_false, decide_true, iteN_false, iteN_true, t11]; try rfl)), ⟨ao', co', eo', by rw [eN2]; exact h_put_same _ _ _, ?_⟩, Nat.le_trans nx n1, fun j hj hne => by rw [h_put_ne _ _ (by omega), f1 _ hj, fr _ hj hne]⟩⟩
  rcases ws1 with w | ⟨w1, q1, m1, e1, e2, e3, g1, r1, b1, l1⟩
  · exact .inl w
  · exact .inr ⟨w1, q1, m1, e1, e2, e3, by rw [h_put_ne _ _ (by omega), g1], r1, b1, l1⟩
theorem raw_go (e : E k_octet_Pen_Raw = some f_octet_Pen_Raw) (x : ∀ a h, X (.fn k_octet_Pen_Raw) a h = none) (M pn p : Nat) (ps : List Pt) (c : Option Nat) (hM : ps.length < M) (hl : ps.length < 9223372036854775807) (hf : (flV ps).length ≤ 1000000) (md : Md) (hs h0 : H) (kp : Kp hs h0) (hpn : hs.next ≤ pn) (hpn0 : pn < h0.next) (hp : p < h0.next) (hpp : p ≠ pn) (gp : h0.get p = some (.cells (ps.map slOf) md)) (ok : ∀ q ∈ ps, SrcH hs q.1 q.2.2.1 q.2.2.2)
    (gpn : h0.get pn = some (.cells [.slice none 0 (some 0) 0] .rw)) :
    ∃ h' ao co eo, callX E X (M + 1) (.fn k_octet_Pen_Raw) [.ptr (some (pn, 0)), .slice (some (p, 0)) ps.length c 1] h0 = some (.int .i64 0, h') ∧ h'.get pn = some (.cells [.slice ao (flV ps).length co eo] .rw) ∧ WS h' h0.next (flV ps) ao co eo ∧ h0.next ≤ h'.next ∧ ∀ j, j < h0.next → j ≠ pn → h'.get j = h0.get j := by
  cases M with
  | zero => cases hM
  | succ M =>
  rw [x_cfn e _ _ (Nat.le_of_ble_eq_true rfl) (x _ _)]
  have fin : ∀ T, RW pn p ps h0 0 T h0 → ∃ h' ao co eo, fnEnd [.tmp 4] (bindE (blockE 0 (loopN (evC (callX E X (M + 1)) 25 (M + 1) none L_octet_Pen_Raw_0) (M + 1) ⟨T, [], h0⟩)) (evC (callX E X (M + 1)) 25 (M + 1) none R_octet_Pen_Raw_0)) = some (.int .i64 0, h') ∧ h'.get pn = some (.cells [.slice ao (flV ps).length co eo] .rw) ∧ WS h' h0.next (flV ps) ao co eo ∧ h0.next ≤ h'.next ∧ ∀ j, j < h0.next → j ≠ pn → h'.get j = h0.get j := by
    intro T I
    obtain ⟨T', h', r, pen, nx, fr⟩ := loop_go (f := evC (callX E X (M + 1)) 25 (M + 1) none L_octet_Pen_Raw_0) (RW pn p ps h0) ps.length (.exit 0) (by intro h; cases h) (fun T h => (∃ ao co eo, h.get pn = some (.cells [.slice ao (flV ps).length co eo] .rw) ∧ WS h h0.next (flV ps) ao co eo) ∧ h0.next ≤ h.next ∧ ∀ j, j < h0.next → j ≠ pn → h.get j = h0.get j) (rw_step _ _ pn p ps hl hf md hs h0 kp hpn hpn0 hp hpp gp ok) (fun T h I => by
      obtain ⟨il, t0, t9, t10, t11, pen, nx, fr⟩ := I
      rw [List.take_length] at pen
      have c0 : decide ((ps.length : Int) < (ps.length : Int)) = false := decide_eq_false (by omega)
      refine ⟨_, _, by
        simp (config := {maxSteps := 2000000}) (disch := first | omega | (simp only [List.length_cons, List.length_nil, List.length_append, List.length_drop]; omega)) only [L_octet_Pen_Raw_0, t10, t11, c0, ↓b_xor32, ↓b_and32, ↓b_or32, ↓u_not32, b_xor32, b_and32, b_or32, u_not32, w32ad, ↓x_conv, x_convV, ↓x_fieldAddr, x_fieldV, ↓s_nilchk, x_nilchk, Nat.zero_add, Nat.add_zero, Nat.mul_one, ↓l_loop, ↓l_succ, ↓l_normal, l_normal, l_exit, l_ret, l_iteN, ↓h_put_get, ↓h_new_get, ↓h_del_get, h_next_put, h_next_new, h_next_del, Nat.add_assoc, Nat.add_eq_left, Nat.left_eq_add, Nat.add_left_cancel_iff, ↓s_load, m_load, ↓m_load1, m_load1, ↓m_st, m_stE, m_storeI, m_storeE, w_zero, w_succ, ↓s_alloc, ↓x_idxA, ↓x_idxS, x_idxAE, x_idxSE, x_addrE, x_idx, x_lenS, ↓s_len, ↓x_buildS, x_buildE, ↓x_P0, ↓x_P1, x_fill0, x_filli, x_fills, x_fillb, c_int, List.length_cons, List.length_nil, List.cons_append, List.drop_succ_cons, List.drop_zero, List.drop_nil, List.nil_append, Int.reduceAdd, Int.reduceToNat, Int.reduceLT, Int.reduceLE, Nat.reduceAdd, Nat.reduceMul, Nat.reduceLeDiff, Int.reduceEq, Int.reduceSub, Int.cast_ofNat_Int, s_resc, s_consR, m_load4, m_store4, s_res0, ↓s_skip, ↓s_ops, ↓s_dops, ↓s_seq, ↓s_cond, ↓s_block, ↓s_exit, ↓s_ret, ↓s_scope, ↓s_nil, ↓s_op, ↓s_opg, ↓s_wanted', ↓s_wantV, s_wantV, s_wantV0, beq_true, beq_false, ↓s_bindS, s_bindS, ↓s_bindE, s_bindE, s_bindE_ret, s_bindE_exit, s_bindE_iteN, s_norm, ↓s_condV, s_condV, s_block_ret, s_block_normal, s_block_exit, s_block_iteN, ↓s_getp, ↓s_getp0, ↓s_get, s_get0, ↓s_con, ↓s_fn, ↓s_os0, ↓s_os1, ↓s_list0, ↓s_list1, ↓s_mov, ↓s_pick, ↓s_pickE, s_pickE, ↓s_bin, ↓s_un, ↓s_minmax, ↓s_call, ↓s_callv, ↓s_callV, ↓s_ext, s_same, b_eql, b_neq, b_lss, b_leq, b_gtr, b_geq, b_add, b_sub, b_mul, b_eqlb, b_neqb, b_fnil, b_fnil', b_fnil2, b_fnil2', u_neg, u_not, m_two, s_end, s_end', s_end_iteN, s_res0, s_res1, s_tup1, s_tup2, ↓iteN_true, ↓iteN_false, iteN_true, iteN_false, Nat.zero_add, List.nil_append, List.append_nil, Nat.reduceEqDiff, reduceIte, decide_true, decide_false, Bool.not_true, Bool.not_false, List.getElem?_cons_zero, List.getElem?_cons_succ, Bool.false_eq_true, if_true, if_false, beq_self_eq_true]
        exact rfl, pen, nx, fr⟩) ps.length 0 (by omega) (M + 1) (by omega) T h0 I
    obtain ⟨ao, co, eo, g, ws⟩ := pen
    rw [r]
    refine ⟨h', ao, co, eo, ?_, g, ws, nx, fr⟩
    simp (config := {maxSteps := 2000000}) (disch := first | omega | (simp only [List.length_cons, List.length_nil, List.length_append, List.length_drop]; omega)) only [R_octet_Pen_Raw_0, ↓b_xor32, ↓b_and32, ↓b_or32, ↓u_not32, b_xor32, b_and32, b_or32, u_not32, w32ad, ↓x_conv, x_convV, ↓x_fieldAddr, x_fieldV, ↓s_nilchk, x_nilchk, Nat.zero_add, Nat.add_zero, Nat.mul_one, ↓l_loop, ↓l_succ, ↓l_normal, l_normal, l_exit, l_ret, l_iteN, ↓h_put_get, ↓h_new_get, ↓h_del_get, h_next_put, h_next_new, h_next_del, Nat.add_assoc, Nat.add_eq_left, Nat.left_eq_add, Nat.add_left_cancel_iff, ↓s_load, m_load, ↓m_load1, m_load1, ↓m_st, m_stE, m_storeI, m_storeE, w_zero, w_succ, ↓s_alloc, ↓x_idxA, ↓x_idxS, x_idxAE, x_idxSE, x_addrE, x_idx, x_lenS, ↓s_len, ↓x_buildS, x_buildE, ↓x_P0, ↓x_P1, x_fill0, x_filli, x_fills, x_fillb, c_int, List.length_cons, List.length_nil, List.cons_append, List.drop_succ_cons, List.drop_zero, List.drop_nil, List.nil_append, Int.reduceAdd, Int.reduceToNat, Int.reduceLT, Int.reduceLE, Nat.reduceAdd, Nat.reduceMul, Nat.reduceLeDiff, Int.reduceEq, Int.reduceSub, Int.cast_ofNat_Int, s_resc, s_consR, m_load4, m_store4, s_res0, ↓s_skip, ↓s_ops, ↓s_dops, ↓s_seq, ↓s_cond, ↓s_block, ↓s_exit, ↓s_ret, ↓s_scope, ↓s_nil, ↓s_op, ↓s_opg, ↓s_wanted', ↓s_wantV, s_wantV, s_wantV0, beq_true, beq_false, ↓s_bindS, s_bindS, ↓s_bindE, s_bindE, s_bindE_ret, s_bindE_exit, s_bindE_iteN, s_norm, ↓s_condV, s_condV, s_block_ret, s_block_normal, s_block_exit, s_block_iteN, ↓s_getp, ↓s_getp0, ↓s_get, s_get0, ↓s_con, ↓s_fn, ↓s_os0, ↓s_os1, ↓s_list0, ↓s_list1, ↓s_mov, ↓s_pick, ↓s_pickE, s_pickE, ↓s_bin, ↓s_un, ↓s_minmax, ↓s_call, ↓s_callv, ↓s_callV, ↓s_ext, s_same, b_eql, b_neq, b_lss, b_leq, b_gtr, b_geq, b_add, b_sub, b_mul, b_eqlb, b_neqb, b_fnil, b_fnil', b_fnil2, b_fnil2', u_neg, u_not, m_two, s_end, s_end', s_end_iteN, s_res0, s_res1, s_tup1, s_tup2, ↓iteN_true, ↓iteN_false, iteN_true, iteN_false, Nat.zero_add, List.nil_append, List.append_nil, Nat.reduceEqDiff, reduceIte, decide_true, decide_false, Bool.not_true, Bool.not_false, List.getElem?_cons_zero, List.getElem?_cons_succ, Bool.false_eq_true, if_true, if_false, beq_self_eq_true]
  have ef : ∀ h, binV .eql (.ref .p) h (.ptr (some (pn, 0))) (.ptr none) = some (.bool false) := fun h => rfl
  obtain ⟨R, eR⟩ : ∃ R, R_octet_Pen_Raw_0 = R := ⟨_, rfl⟩
  obtain ⟨Lo, eL⟩ : ∃ R, L_octet_Pen_Raw_0 = R := ⟨_, rfl⟩
  rw [eR, eL] at fin ⊢
  simp (config := {maxSteps := 2000000}) (disch := first | omega | (simp only [List.length_cons, List.length_nil, List.length_append, List.length_drop]; omega)) only [ef, ↓s_len, x_lenS, ↓b_xor32, ↓b_and32, ↓b_or32, ↓u_not32, b_xor32, b_and32, b_or32, u_not32, w32ad, ↓x_conv, x_convV, ↓x_fieldAddr, x_fieldV, ↓s_nilchk, x_nilchk, Nat.zero_add, Nat.add_zero, Nat.mul_one, ↓l_loop, ↓l_succ, ↓l_normal, l_normal, l_exit, l_ret, l_iteN, ↓h_put_get, ↓h_new_get, ↓h_del_get, h_next_put, h_next_new, h_next_del, Nat.add_assoc, Nat.add_eq_left, Nat.left_eq_add, Nat.add_left_cancel_iff, ↓s_load, m_load, ↓m_load1, m_load1, ↓m_st, m_stE, m_storeI, m_storeE, w_zero, w_succ, ↓s_alloc, ↓x_idxA, ↓x_idxS, x_idxAE, x_idxSE, x_addrE, x_idx, x_lenS, ↓s_len, ↓x_buildS, x_buildE, ↓x_P0, ↓x_P1, x_fill0, x_filli, x_fills, x_fillb, c_int, List.length_cons, List.length_nil, List.cons_append, List.drop_succ_cons, List.drop_zero, List.drop_nil, List.nil_append, Int.reduceAdd, Int.reduceToNat, Int.reduceLT, Int.reduceLE, Nat.reduceAdd, Nat.reduceMul, Nat.reduceLeDiff, Int.reduceEq, Int.reduceSub, Int.cast_ofNat_Int, s_resc, s_consR, m_load4, m_store4, s_res0, ↓s_skip, ↓s_ops, ↓s_dops, ↓s_seq, ↓s_cond, ↓s_block, ↓s_exit, ↓s_ret, ↓s_scope, ↓s_nil, ↓s_op, ↓s_opg, ↓s_wanted', ↓s_wantV, s_wantV, s_wantV0, beq_true, beq_false, ↓s_bindS, s_bindS, ↓s_bindE, s_bindE, s_bindE_ret, s_bindE_exit, s_bindE_iteN, s_norm, ↓s_condV, s_condV, s_block_ret, s_block_normal, s_block_exit, s_block_iteN, ↓s_getp, ↓s_getp0, ↓s_get, s_get0, ↓s_con, ↓s_fn, ↓s_os0, ↓s_os1, ↓s_list0, ↓s_list1, ↓s_mov, ↓s_pick, ↓s_pickE, s_pickE, ↓s_bin, ↓s_un, ↓s_minmax, ↓s_call, ↓s_callv, ↓s_callV, ↓s_ext, s_same, b_eql, b_neq, b_lss, b_leq, b_gtr, b_geq, b_add, b_sub, b_mul, b_eqlb, b_neqb, b_fnil, b_fnil', b_fnil2, b_fnil2', u_neg, u_not, m_two, s_end, s_end', s_end_iteN, s_res0, s_res1, s_tup1, s_tup2, ↓iteN_true, ↓iteN_false, iteN_true, iteN_false, Nat.zero_add, List.nil_append, List.append_nil, Nat.reduceEqDiff, reduceIte, decide_true, decide_false, Bool.not_true, Bool.not_false, List.getElem?_cons_zero, List.getElem?_cons_succ, Bool.false_eq_true, if_true, if_false, beq_self_eq_true]
  exact fin _ ⟨by omega, (by (simp only [s_getp, s_getp0, Nat.reduceEqDiff, decide_false, decide_true, iteN_false, iteN_true, eL]; try rfl)), ⟨c, (by (simp only [s_getp, s_getp0, Nat.reduceEqDiff, decide_false, decide_true, iteN_false, iteN_true, eL]; try rfl))⟩, (by (simp only [s_getp, s_getp0, Nat.reduceEqDiff, decide_false, decide_true, iteN_false, iteN_true, eL]; try rfl)), (by (simp only [s_getp, s_getp0, Nat.reduceEqDiff, decide_false, decide_true, iteN_false, iteN_true, eL]; try rfl)), ⟨none, some 0, 0, gpn, .inl ⟨rfl, rfl, rfl, rfl⟩⟩, Nat.le_refl _, fun _ _ _ => rfl⟩
theorem all_go (e : E k_octet_Pen_All = some f_octet_Pen_All) (x : ∀ a h, X (.fn k_octet_Pen_All) a h = none) (N pn : Nat) (w : List Nat) (hw : w.length ≤ 1000000) (base : Nat) (ao : Option (Nat × Nat)) (co : Option Nat) (eo : Nat) (h : H) (gpn : h.get pn = some (.cells [.slice ao w.length co eo] .rw)) (ws : WS h base w ao co eo) :
    ∃ a2 c2 e2 h', callX E X (N + 1) (.fn k_octet_Pen_All) [.ptr (some (pn, 0))] h = some (.slice a2 w.length c2 e2, h') ∧ Kp h h' ∧ SrcH h' a2 e2 w := by
  rw [x_cfn e _ _ (Nat.le_of_ble_eq_true rfl) (x _ _)]
  have sc := ws.src.cellz co
  have ef : ∀ h, binV .eql (.ref .p) h (.ptr (some (pn, 0))) (.ptr none) = some (.bool false) := fun h => rfl
  cases hn : w.length with
  | zero =>
    rw [hn] at sc gpn
    have ap := appN h none 0 (some 0) 0 (ofI .u8 w)
    refine ⟨_, _, _, _, by
      simp (config := {maxSteps := 2000000}) (disch := first | omega | (simp only [List.length_cons, List.length_nil, List.length_append, List.length_drop]; omega)) only [ef, gpn, sc, ap, ↓s_append, ↓b_xor32, ↓b_and32, ↓b_or32, ↓u_not32, b_xor32, b_and32, b_or32, u_not32, w32ad, ↓x_conv, x_convV, ↓x_fieldAddr, x_fieldV, ↓s_nilchk, x_nilchk, Nat.zero_add, Nat.add_zero, Nat.mul_one, ↓l_loop, ↓l_succ, ↓l_normal, l_normal, l_exit, l_ret, l_iteN, ↓h_put_get, ↓h_new_get, ↓h_del_get, h_next_put, h_next_new, h_next_del, Nat.add_assoc, Nat.add_eq_left, Nat.left_eq_add, Nat.add_left_cancel_iff, ↓s_load, m_load, ↓m_load1, m_load1, ↓m_st, m_stE, m_storeI, m_storeE, w_zero, w_succ, ↓s_alloc, ↓x_idxA, ↓x_idxS, x_idxAE, x_idxSE, x_addrE, x_idx, x_lenS, ↓s_len, ↓x_buildS, x_buildE, ↓x_P0, ↓x_P1, x_fill0, x_filli, x_fills, x_fillb, c_int, List.length_cons, List.length_nil, List.cons_append, List.drop_succ_cons, List.drop_zero, List.drop_nil, List.nil_append, Int.reduceAdd, Int.reduceToNat, Int.reduceLT, Int.reduceLE, Nat.reduceAdd, Nat.reduceMul, Nat.reduceLeDiff, Int.reduceEq, Int.reduceSub, Int.cast_ofNat_Int, s_resc, s_consR, m_load4, m_store4, s_res0, ↓s_skip, ↓s_ops, ↓s_dops, ↓s_seq, ↓s_cond, ↓s_block, ↓s_exit, ↓s_ret, ↓s_scope, ↓s_nil, ↓s_op, ↓s_opg, ↓s_wanted', ↓s_wantV, s_wantV, s_wantV0, beq_true, beq_false, ↓s_bindS, s_bindS, ↓s_bindE, s_bindE, s_bindE_ret, s_bindE_exit, s_bindE_iteN, s_norm, ↓s_condV, s_condV, s_block_ret, s_block_normal, s_block_exit, s_block_iteN, ↓s_getp, ↓s_getp0, ↓s_get, s_get0, ↓s_con, ↓s_fn, ↓s_os0, ↓s_os1, ↓s_list0, ↓s_list1, ↓s_mov, ↓s_pick, ↓s_pickE, s_pickE, ↓s_bin, ↓s_un, ↓s_minmax, ↓s_call, ↓s_callv, ↓s_callV, ↓s_ext, s_same, b_eql, b_neq, b_lss, b_leq, b_gtr, b_geq, b_add, b_sub, b_mul, b_eqlb, b_neqb, b_fnil, b_fnil', b_fnil2, b_fnil2', u_neg, u_not, m_two, s_end, s_end', s_end_iteN, s_res0, s_res1, s_tup1, s_tup2, ↓iteN_true, ↓iteN_false, iteN_true, iteN_false, Nat.zero_add, List.nil_append, List.append_nil, Nat.reduceEqDiff, reduceIte, decide_true, decide_false, Bool.not_true, Bool.not_false, List.getElem?_cons_zero, List.getElem?_cons_succ, Bool.false_eq_true, if_true, if_false, beq_self_eq_true]
      exact rfl, Kp.refl _, .inl (List.length_eq_zero_iff.1 hn)⟩
  | succ n =>
    rw [hn] at sc gpn
    have ap := app0 h n 0 .u8 w (some 0) (by omega)
    obtain ⟨C, eC⟩ : ∃ C, ofI .u8 w = C := ⟨_, rfl⟩
    rw [eC] at ap sc
    refine ⟨_, _, _, _, by
      simp (config := {maxSteps := 2000000}) (disch := first | omega | (simp only [List.length_cons, List.length_nil, List.length_append, List.length_drop]; omega)) only [ef, gpn, sc, ap, ↓s_append, ↓b_xor32, ↓b_and32, ↓b_or32, ↓u_not32, b_xor32, b_and32, b_or32, u_not32, w32ad, ↓x_conv, x_convV, ↓x_fieldAddr, x_fieldV, ↓s_nilchk, x_nilchk, Nat.zero_add, Nat.add_zero, Nat.mul_one, ↓l_loop, ↓l_succ, ↓l_normal, l_normal, l_exit, l_ret, l_iteN, ↓h_put_get, ↓h_new_get, ↓h_del_get, h_next_put, h_next_new, h_next_del, Nat.add_assoc, Nat.add_eq_left, Nat.left_eq_add, Nat.add_left_cancel_iff, ↓s_load, m_load, ↓m_load1, m_load1, ↓m_st, m_stE, m_storeI, m_storeE, w_zero, w_succ, ↓s_alloc, ↓x_idxA, ↓x_idxS, x_idxAE, x_idxSE, x_addrE, x_idx, x_lenS, ↓s_len, ↓x_buildS, x_buildE, ↓x_P0, ↓x_P1, x_fill0, x_filli, x_fills, x_fillb, c_int, List.length_cons, List.length_nil, List.cons_append, List.drop_succ_cons, List.drop_zero, List.drop_nil, List.nil_append, Int.reduceAdd, Int.reduceToNat, Int.reduceLT, Int.reduceLE, Nat.reduceAdd, Nat.reduceMul, Nat.reduceLeDiff, Int.reduceEq, Int.reduceSub, Int.cast_ofNat_Int, s_resc, s_consR, m_load4, m_store4, s_res0, ↓s_skip, ↓s_ops, ↓s_dops, ↓s_seq, ↓s_cond, ↓s_block, ↓s_exit, ↓s_ret, ↓s_scope, ↓s_nil, ↓s_op, ↓s_opg, ↓s_wanted', ↓s_wantV, s_wantV, s_wantV0, beq_true, beq_false, ↓s_bindS, s_bindS, ↓s_bindE, s_bindE, s_bindE_ret, s_bindE_exit, s_bindE_iteN, s_norm, ↓s_condV, s_condV, s_block_ret, s_block_normal, s_block_exit, s_block_iteN, ↓s_getp, ↓s_getp0, ↓s_get, s_get0, ↓s_con, ↓s_fn, ↓s_os0, ↓s_os1, ↓s_list0, ↓s_list1, ↓s_mov, ↓s_pick, ↓s_pickE, s_pickE, ↓s_bin, ↓s_un, ↓s_minmax, ↓s_call, ↓s_callv, ↓s_callV, ↓s_ext, s_same, b_eql, b_neq, b_lss, b_leq, b_gtr, b_geq, b_add, b_sub, b_mul, b_eqlb, b_neqb, b_fnil, b_fnil', b_fnil2, b_fnil2', u_neg, u_not, m_two, s_end, s_end', s_end_iteN, s_res0, s_res1, s_tup1, s_tup2, ↓iteN_true, ↓iteN_false, iteN_true, iteN_false, Nat.zero_add, List.nil_append, List.append_nil, Nat.reduceEqDiff, reduceIte, decide_true, decide_false, Bool.not_true, Bool.not_false, List.getElem?_cons_zero, List.getElem?_cons_succ, Bool.false_eq_true, if_true, if_false, beq_self_eq_true]
      exact rfl, Kp.new _ _, .inr ⟨h.next, 0, C, .rw, rfl, rfl, Nat.lt_succ_self _, h_new_same _ _, by rw [← eC, ofI_len]; omega, by rw [List.drop_zero, ← eC]; exact List.take_of_length_le (by rw [ofI_len]; exact Nat.le_refl _)⟩⟩
end Go.Eng
namespace Go.Eng
open Go
variable {E : Nat → Option Fn} {X : Orc}
set_option linter.unusedSimpArgs false
set_option linter.unusedVariables false
theorem WS.mono {h h' : H} {base : Nat} {w : List Nat} {ao : Option (Nat × Nat)} {co : Option Nat} {eo : Nat} (s : WS h base w ao co eo) (hn : h.next ≤ h'.next) (k : ∀ j, base ≤ j → j < h.next → h'.get j = h.get j) : WS h' base w ao co eo := by
  rcases s with s | ⟨h1, q, md, e1, e2, e3, g, hm, hq0, hq⟩
  · exact .inl s
  · exact .inr ⟨h1, q, md, e1, e2, e3, by rw [k _ hq0 hq, g], hm, hq0, Nat.lt_of_lt_of_le hq hn⟩
theorem apP0 (h : H) (a : Option (Nat × Nat)) (n : Nat) (c : Option Nat) (e : Nat) : appendC h 1 24 (.slice none 0 (some 0) 0) (some (1, [.slice a n c e])) = some (.slice (some (h.next, 0)) 1 none 1, h.new (.cells [.slice a n c e] .rw)) := by
  unfold appendC
  simp only
  have r : (roomy (0 + 1) 24 && (Nat.beq 0 1 || (none : Option (Nat × Nat)).isNone) && ([.slice a n c e] : List V).all plainV) = true := rfl
  rw [r]; rfl
theorem apP1 (h : H) (p sl : Nat) (vs : List V) (md : Md) (hm : isRo md = false) (hg : h.get p = some (.cells vs md)) (hl : vs.length = sl) (hs : sl ≤ 1000) (a : Option (Nat × Nat)) (n : Nat) (c : Option Nat) (e : Nat) : appendC h 1 24 (.slice (some (p, 0)) sl none 1) (some (1, [.slice a n c e])) = some (.slice (some (h.next, 0)) (sl + 1) none 1, (h.del p).new (.cells (vs ++ [.slice a n c e]) .sh)) := by
  unfold appendC
  simp only
  have r : (roomy (sl + 1) 24 && (Nat.beq 1 1 || (some (p, 0) : Option (Nat × Nat)).isNone) && ([.slice a n c e] : List V).all plainV) = true := by
    have : roomy (sl + 1) 24 = true := by simp [roomy]; omega
    rw [this]; rfl
  have f : fullC none (sl + 1) = false := rfl
  have rd := readN_of vs 0 sl (by omega)
  rw [List.drop_zero, List.take_of_length_le (by omega)] at rd
  rw [r]
  simp only [_root_.cond_true, hg, f, Nat.mul_one]
  cases md with
  | ro => cases hm
  | rw => simp only [rd]
  | sh => simp only [rd]
theorem srcP (h : H) (v : V) : srcCells (h.new (.cells [v] .rw)) 1 (.slice (some (h.next, 0)) 1 (some 1) 1) = some (1, [v]) := by
  rw [m_src, h_new_same]; rfl
theorem upA_upA (a : Option (Nat × Nat)) (k m : Nat) : upA (upA a k) m = upA a (k + m) := by
  cases a with
  | none => rfl
  | some x => show some (x.1, x.2 + k + m) = some (x.1, x.2 + (k + m)); rw [Nat.add_assoc]
theorem upA_0 (a : Option (Nat × Nat)) : upA a 0 = a := by cases a <;> rfl
/-- the parts so far -/
def PS (hs h0 h : H) (b : List Nat) (a : Option (Nat × Nat)) (i k : Nat) (v9 v10 : V) : Prop := k ≤ b.length ∧ v9 = .slice (upA a k) (b.length - k) none 1 ∧ ∃ ps : List Pt, ps.length = i ∧ flV ps = b.take k ∧ (∀ q ∈ ps, SrcH hs q.1 q.2.2.1 q.2.2.2) ∧
  ((i = 0 ∧ v10 = .slice none 0 (some 0) 0) ∨ (0 < i ∧ ∃ p md, v10 = .slice (some (p, 0)) i none 1 ∧ h.get p = some (.cells (ps.map slOf) md) ∧ isRo md = false ∧ h0.next ≤ p ∧ p < h.next))
/-- one part more -/
theorem ps_more (hs h0 h : H) (b : List Nat) (a : Option (Nat × Nat)) (sb : SrcH hs a 1 b) (i k : Nat) (hi : i ≤ 1000) (v9 v10 : V) (P : PS hs h0 h b a i k v9 v10) (k0 : Kp h0 h) (m : Nat) (hm : m ≤ b.length - k) :
    ∃ h', appendC (h.new (.cells [.slice (upA a k) m none 1] .rw)) 1 24 v10 (some (1, [.slice (upA a k) m none 1])) = some (.slice (some (h.next + 1, 0)) (i + 1) none 1, h') ∧ Kp h0 h' ∧ h.next + 2 ≤ h'.next ∧
      ∃ ps : List Pt, ps.length = i + 1 ∧ flV ps = b.take (k + m) ∧ (∀ q ∈ ps, SrcH hs q.1 q.2.2.1 q.2.2.2) ∧ ∃ md, h'.get (h.next + 1) = some (.cells (ps.map slOf) md) ∧ isRo md = false := by
  obtain ⟨hk, _, ps, hl, hf, ok, t⟩ := P
  obtain ⟨h1, e1⟩ : ∃ h1, h.new (.cells [.slice (upA a k) m none 1] .rw) = h1 := ⟨_, rfl⟩
  have n1 : h1.next = h.next + 1 := by rw [← e1]; rfl
  have k1 : Kp h h1 := by rw [← e1]; exact Kp.new _ _
  have lm : ((b.drop k).take m).length = m := by rw [List.length_take, List.length_drop]; omega
  have nw : (ps ++ [((upA a k, none, 1, (b.drop k).take m) : Pt)]).length = i + 1 := by rw [List.length_append, hl]; rfl
  have nf : flV (ps ++ [((upA a k, none, 1, (b.drop k).take m) : Pt)]) = b.take (k + m) := by rw [flV_app, flV_one, hf, List.take_add]
  have no : ∀ q ∈ ps ++ [((upA a k, none, 1, (b.drop k).take m) : Pt)], SrcH hs q.1 q.2.2.1 q.2.2.2 := by
    intro q hq
    rcases List.mem_append.1 hq with h | h
    · exact ok q h
    · rcases List.mem_singleton.1 h with rfl; exact (sb.drop k).take m
  have sv : slOf (upA a k, none, 1, (b.drop k).take m) = .slice (upA a k) m none 1 := by show V.slice _ ((b.drop k).take m).length _ _ = _; rw [lm]
  have hm0 := k0.1
  rcases t with ⟨i0, rfl⟩ | ⟨hip, p, md, rfl, gp, hmd, hp0, hpn⟩
  · have ps0 : ps = [] := List.length_eq_zero_iff.1 (by omega)
    have ap := apP0 h1 (upA a k) m none 1
    rw [e1]
    rw [n1] at ap
    refine ⟨_, by rw [i0]; exact ap, k0.trans (k1.trans (Kp.new _ _)), by rw [h_next_new, n1]; omega, _, nw, nf, no, .rw, ?_, rfl⟩
    rw [ps0, List.nil_append, List.map_cons, List.map_nil, sv]
    exact h_new_same' _ _ n1
  · have ap := apP1 h1 p i (ps.map slOf) md hmd (by rw [k1.2 _ hpn, gp]) (by rw [List.length_map, hl]) (by omega) (upA a k) m none 1
    rw [e1]
    rw [n1] at ap
    refine ⟨_, ap, ⟨by simp only [h_next_new, h_next_del, n1]; omega, fun j hj => ?_⟩, by simp only [h_next_new, h_next_del, n1]; omega, _, nw, nf, no, .sh, ?_, rfl⟩
    · rw [h_new_ne _ _ (by rw [h_next_del, n1]; omega), h_del_ne _ (by omega), k1.2 _ (by omega), k0.2 _ hj]
    · rw [List.map_append, List.map_cons, List.map_nil, sv]
      exact h_new_same' _ _ (by rw [h_next_del, n1])
structure OL (hs h0 : H) (b at_ : List Nat) (a a1 : Option (Nat × Nat)) (pn : Nat) (i : Nat) (T : Tr V) (h : H) : Prop where
  il : i ≤ at_.length
  t0 : evO T (.t 0) = .slice a b.length none 1
  t1 : evO T (.t 1) = .slice a1 at_.length none 1
  t5 : evO T (.t 5) = .bool true
  t6 : evO T (.t 6) = .ptr (some (pn, 0))
  t7 : evO T (.t 7) = .ptr (some (pn + 1, 0))
  t8 : evO T (.t 8) = .int .i64 0
  t33 : evO T (.t 33) = .int .i64 (at_.length : Int)
  t34 : evO T (.t 34) = .int .i64 (i : Int)
  ps : ∃ k, PS hs h0 h b a i k (evO T (.t 9)) (evO T (.t 10))
  kp : Kp h0 h
theorem ol_step (Q : Orc) (m : Nat) (hs h0 : H) (b at_ : List Nat) (a a1 : Option (Nat × Nat)) (pn : Nat) (sb : SrcH hs a 1 b) (sa : SrcH hs a1 1 at_) (hb : b.length ≤ 20000) (hat : at_.length ≤ 50) (bat : byt at_ = true) (ks : ∀ j, j < hs.next → h0.get j = hs.get j) (kn : hs.next ≤ h0.next) :
    ∀ i T h, i < at_.length → OL hs h0 b at_ a a1 pn i T h → ∃ T' h', evC Q 83 m none L_purserlaw01_OctetParts_0 ⟨T, [], h⟩ = some (.normal, ⟨T', [], h'⟩) ∧ OL hs h0 b at_ a a1 pn (i + 1) T' h' := by
  intro i T h hi ⟨_, t0, t1, t5, t6, t7, t8, t33, t34, ⟨k, P⟩, kp⟩
  have c0 : decide ((i : Int) < (at_.length : Int)) = true := decide_eq_true (by omega)
  have wi : wr .i64 ((i : Int) + 1) = ((i + 1 : Nat) : Int) := by rw [wr_i64 (by omega)]; omega
  have ix : idx (i : Int) at_.length = some i := idxn hi
  obtain ⟨bi, off, vs, md, rfl, _, h3, h4, h5, h6⟩ := sa.resolve_left (fun h => by rw [h] at hi; cases hi)
  have cg : vs[off + i]? = some (.int .u8 (at_.getD i 0 : Nat)) := by
    have : ((vs.drop off).take at_.length)[i]? = (ofI .u8 at_)[i]? := by rw [h6]
    rw [List.getElem?_take_of_lt hi, List.getElem?_drop, ofI_get _ _ _ hi] at this
    exact this
  have ga : h.get bi = some (.cells vs md) := by rw [kp.2 _ (by omega), ks _ h3, h4]
  have yl : at_.getD i 0 < 256 := by
    rw [List.getD_eq_getElem?_getD, List.getElem?_eq_getElem hi]; exact byt_iff.1 bat _ (List.getElem_mem hi)
  generalize at_.getD i 0 = y at *
  have wy : wr .i64 (y : Int) = (y : Int) := w64n (by omega)
  obtain ⟨r, er⟩ : ∃ r, b.length - k = r := ⟨_, rfl⟩
  obtain ⟨m', em⟩ : ∃ m, min y r = m := ⟨_, rfl⟩
  have sv1 := slcV_hiA r m' (upA a k) .i64 (by omega)
  have sv2 := slcV_loA r m' (upA a k) .i64 (by omega)
  obtain ⟨h2, ap, k2, n2, ps, q1, q2, q3, md2, q4, q5⟩ := ps_more hs h0 h b a sb i k (by omega) _ _ P kp m' (by omega)
  have hk := P.1
  have t9 := P.2.1
  rw [er] at t9
  have hA1 : i + 1 ≤ at_.length := hi
  have hB1 : k + m' ≤ b.length := by omega
  have hC1 : 0 < i + 1 := by omega
  have hD1 : h0.next ≤ h.next + 1 := by have := kp.1; omega
  have hE1 : h.next + 1 < h2.next := by omega
  have hF1 : b.length - (k + m') = r - m' := by omega
  have hif : (if ((r : Nat) : Int) < (y : Int) then ((r : Nat) : Int) else (y : Int)) = ((m' : Nat) : Int) := by split <;> omega
  have sc := srcP h (.slice (upA a k) m' none 1)
  obtain ⟨v10, ev⟩ : ∃ v, evO T (.t 10) = v := ⟨_, rfl⟩
  rw [ev] at ap
  refine ⟨_, h2, by
    simp (config := {maxSteps := 2000000}) (disch := first | omega | (simp only [List.length_cons, List.length_nil, List.length_append, List.length_drop]; omega)) only [L_purserlaw01_OctetParts_0, t0, t1, t9, ev, t33, t34, ga, cg, c0, wi, ix, wy, hif, sv1, sv2, sc, ap, ↓s_minmax, ↓s_len, x_lenS, ↓x_slcS, x_M0, x_M1, ↓s_append, ↓b_xor32, ↓b_and32, ↓b_or32, ↓u_not32, b_xor32, b_and32, b_or32, u_not32, w32ad, ↓x_conv, x_convV, ↓x_fieldAddr, x_fieldV, ↓s_nilchk, x_nilchk, Nat.zero_add, Nat.add_zero, Nat.mul_one, ↓l_loop, ↓l_succ, ↓l_normal, l_normal, l_exit, l_ret, l_iteN, ↓h_put_get, ↓h_new_get, ↓h_del_get, h_next_put, h_next_new, h_next_del, Nat.add_assoc, Nat.add_eq_left, Nat.left_eq_add, Nat.add_left_cancel_iff, ↓s_load, m_load, ↓m_load1, m_load1, ↓m_st, m_stE, m_storeI, m_storeE, w_zero, w_succ, ↓s_alloc, ↓x_idxA, ↓x_idxS, x_idxAE, x_idxSE, x_addrE, x_idx, x_lenS, ↓s_len, ↓x_buildS, x_buildE, ↓x_P0, ↓x_P1, x_fill0, x_filli, x_fills, x_fillb, c_int, List.length_cons, List.length_nil, List.cons_append, List.drop_succ_cons, List.drop_zero, List.drop_nil, List.nil_append, Int.reduceAdd, Int.reduceToNat, Int.reduceLT, Int.reduceLE, Nat.reduceAdd, Nat.reduceMul, Nat.reduceLeDiff, Int.reduceEq, Int.reduceSub, Int.cast_ofNat_Int, s_resc, s_consR, m_load4, m_store4, s_res0, ↓s_skip, ↓s_ops, ↓s_dops, ↓s_seq, ↓s_cond, ↓s_block, ↓s_exit, ↓s_ret, ↓s_scope, ↓s_nil, ↓s_op, ↓s_opg, ↓s_wanted', ↓s_wantV, s_wantV, s_wantV0, beq_true, beq_false, ↓s_bindS, s_bindS, ↓s_bindE, s_bindE, s_bindE_ret, s_bindE_exit, s_bindE_iteN, s_norm, ↓s_condV, s_condV, s_block_ret, s_block_normal, s_block_exit, s_block_iteN, ↓s_getp, ↓s_getp0, ↓s_get, s_get0, ↓s_con, ↓s_fn, ↓s_os0, ↓s_os1, ↓s_list0, ↓s_list1, ↓s_mov, ↓s_pick, ↓s_pickE, s_pickE, ↓s_bin, ↓s_un, ↓s_minmax, ↓s_call, ↓s_callv, ↓s_callV, ↓s_ext, s_same, b_eql, b_neq, b_lss, b_leq, b_gtr, b_geq, b_add, b_sub, b_mul, b_eqlb, b_neqb, b_fnil, b_fnil', b_fnil2, b_fnil2', u_neg, u_not, m_two, s_end, s_end', s_end_iteN, s_res0, s_res1, s_tup1, s_tup2, ↓iteN_true, ↓iteN_false, iteN_true, iteN_false, Nat.zero_add, List.nil_append, List.append_nil, Nat.reduceEqDiff, reduceIte, decide_true, decide_false, Bool.not_true, Bool.not_false, List.getElem?_cons_zero, List.getElem?_cons_succ, Bool.false_eq_true, if_true, if_false, beq_self_eq_true]
    exact rfl, ⟨hA1, (by (simp only [s_getp, s_getp0, Nat.reduceEqDiff, decide_false, decide_true, iteN_false, iteN_true, t0]; try rfl)), (by (simp only [s_getp, s_getp0, Nat.reduceEqDiff, decide_false, decide_true, iteN_false, iteN_true, t1]; try rfl)), (by (simp only [s_getp, s_getp0, Nat.reduceEqDiff, decide_false, decide_true, iteN_false, iteN_true, t5]; try rfl)), (by (simp only [s_getp, s_getp0, Nat.reduceEqDiff, decide_false, decide_true, iteN_false, iteN_true, t6]; try rfl)), (by (simp only [s_getp, s_getp0, Nat.reduceEqDiff, decide_false, decide_true, iteN_false, iteN_true, t7]; try rfl)), (by (simp only [s_getp, s_getp0, Nat.reduceEqDiff, decide_false, decide_true, iteN_false, iteN_true, t8]; try rfl)), (by (simp only [s_getp, s_getp0, Nat.reduceEqDiff, decide_false, decide_true, iteN_false, iteN_true, t33]; try rfl)), (by (simp only [s_getp, s_getp0, Nat.reduceEqDiff, decide_false, decide_true, iteN_false, iteN_true, t34]; try rfl)), ⟨k + m', hB1, ?_, ps, q1, q2, q3, .inr ⟨hC1, h.next + 1, md2, (by (simp only [s_getp, s_getp0, Nat.reduceEqDiff, decide_false, decide_true, iteN_false, iteN_true, ev]; try rfl)), q4, q5, hD1, hE1⟩⟩, k2⟩⟩
  rw [← upA_upA, hF1]
  exact (by (simp only [s_getp, s_getp0, Nat.reduceEqDiff, decide_false, decide_true, iteN_false, iteN_true, t9]; try rfl))
set_option maxRecDepth 100000 in
set_option maxHeartbeats 4000000 in
theorem law_OctetParts (kk : Nat) (hkk : kk = k_purserlaw01_alive) (er : E k_octet_Pen_Raw = some f_octet_Pen_Raw) (ea : E k_octet_Pen_All = some f_octet_Pen_All) (el : E k_purserlaw01_OctetParts = some f_purserlaw01_OctetParts) (N : Nat) (b at_ : List Nat) (bb : byt b = true) (bat : byt at_ = true) (a a1 : Option (Nat × Nat)) (h : H) (sb : SrcH h a 1 b) (sa : SrcH h a1 1 at_) :
    ∃ h2, callX E (pureX k_purserlaw01_alive aliveS) (N + 101) (.fn k_purserlaw01_OctetParts) [.slice a b.length none 1, .slice a1 at_.length none 1] h = some (.bool true, h2) := by
  rw [x_cfn el _ _ (Nat.le_of_ble_eq_true rfl) rfl]
  have al : ∀ h, callX E (pureX k_purserlaw01_alive aliveS) (N + 100) (.fn k_purserlaw01_alive) [] h = some (.bool true, h) := fun h => x_known (pureX_yes h rfl)
  by_cases hb : 20000 < b.length
  · have c1 : decide ((20000 : Int) < (b.length : Int)) = true := decide_eq_true (by omega)
    simp (config := {maxSteps := 2000000}) (disch := first | omega | rfl | (simp only [ofI_len, List.length_append, List.length_take, List.length_drop, List.length_cons, List.length_nil, List.length_replicate, List.length_set]; done) | (simp only [ofI_len, List.length_append, List.length_take, List.length_drop, List.length_cons, List.length_nil, List.length_replicate, List.length_set]; omega)) only [al, c1, ↓s_len, x_lenS, ↓b_xor32, ↓b_and32, ↓b_or32, ↓u_not32, b_xor32, b_and32, b_or32, u_not32, w32ad, ↓x_conv, x_convV, ↓x_fieldAddr, x_fieldV, ↓s_nilchk, x_nilchk, Nat.zero_add, Nat.add_zero, Nat.mul_one, ↓l_loop, ↓l_succ, ↓l_normal, l_normal, l_exit, l_ret, l_iteN, ↓h_put_get, ↓h_new_get, ↓h_del_get, h_next_put, h_next_new, h_next_del, Nat.add_assoc, Nat.add_eq_left, Nat.left_eq_add, Nat.add_left_cancel_iff, ↓s_load, m_load, ↓m_load1, m_load1, ↓m_st, m_stE, m_storeI, m_storeE, ↓s_alloc, ↓x_idxA, ↓x_idxS, x_idxAE, x_idxSE, x_addrE, x_idx, x_lenS, ↓s_len, ↓x_buildS, x_buildE, ↓x_P0, ↓x_P1, x_fill0, x_filli, x_fills, x_fillb, c_int, List.length_cons, List.length_nil, List.cons_append, List.drop_succ_cons, List.drop_zero, List.drop_nil, List.nil_append, Int.reduceAdd, Int.reduceToNat, Int.reduceLT, Int.reduceLE, Nat.reduceAdd, Nat.reduceMul, Nat.reduceLeDiff, Int.reduceEq, Int.reduceSub, Int.cast_ofNat_Int, s_resc, s_consR, m_load4, m_store4, s_res0, ↓s_skip, ↓s_ops, ↓s_dops, ↓s_seq, ↓s_cond, ↓s_block, ↓s_exit, ↓s_ret, ↓s_scope, ↓s_nil, ↓s_op, ↓s_opg, ↓s_wanted', ↓s_wantV, s_wantV, s_wantV0, beq_true, beq_false, ↓s_bindS, s_bindS, ↓s_bindE, s_bindE, s_bindE_ret, s_bindE_exit, s_bindE_iteN, s_norm, ↓s_condV, s_condV, s_block_ret, s_block_normal, s_block_exit, s_block_iteN, ↓s_getp, ↓s_getp0, ↓s_get, s_get0, ↓s_con, ↓s_fn, ↓s_os0, ↓s_os1, ↓s_list0, ↓s_list1, ↓s_mov, ↓s_pick, ↓s_pickE, s_pickE, ↓s_bin, ↓s_un, ↓s_minmax, ↓s_call, ↓s_callv, ↓s_callV, ↓s_ext, s_same, b_eql, b_neq, b_lss, b_leq, b_gtr, b_geq, b_add, b_sub, b_mul, b_eqlb, b_neqb, b_fnil, b_fnil', b_fnil2, b_fnil2', u_neg, u_not, m_two, s_end, s_end', s_end_iteN, s_res0, s_res1, s_tup1, s_tup2, ↓iteN_true, ↓iteN_false, iteN_true, iteN_false, Nat.zero_add, List.nil_append, List.append_nil, Nat.reduceEqDiff, reduceIte, decide_true, decide_false, Bool.not_true, Bool.not_false, List.getElem?_cons_zero, List.getElem?_cons_succ, Bool.false_eq_true, if_true, if_false, beq_self_eq_true]
    exact ⟨_, rfl⟩
  have c1 : decide ((20000 : Int) < (b.length : Int)) = false := decide_eq_false (by omega)
  by_cases hat : 50 < at_.length
  · have c2 : decide ((50 : Int) < (at_.length : Int)) = true := decide_eq_true (by omega)
    simp (config := {maxSteps := 2000000}) (disch := first | omega | rfl | (simp only [ofI_len, List.length_append, List.length_take, List.length_drop, List.length_cons, List.length_nil, List.length_replicate, List.length_set]; done) | (simp only [ofI_len, List.length_append, List.length_take, List.length_drop, List.length_cons, List.length_nil, List.length_replicate, List.length_set]; omega)) only [al, c1, c2, ↓s_len, x_lenS, ↓b_xor32, ↓b_and32, ↓b_or32, ↓u_not32, b_xor32, b_and32, b_or32, u_not32, w32ad, ↓x_conv, x_convV, ↓x_fieldAddr, x_fieldV, ↓s_nilchk, x_nilchk, Nat.zero_add, Nat.add_zero, Nat.mul_one, ↓l_loop, ↓l_succ, ↓l_normal, l_normal, l_exit, l_ret, l_iteN, ↓h_put_get, ↓h_new_get, ↓h_del_get, h_next_put, h_next_new, h_next_del, Nat.add_assoc, Nat.add_eq_left, Nat.left_eq_add, Nat.add_left_cancel_iff, ↓s_load, m_load, ↓m_load1, m_load1, ↓m_st, m_stE, m_storeI, m_storeE, ↓s_alloc, ↓x_idxA, ↓x_idxS, x_idxAE, x_idxSE, x_addrE, x_idx, x_lenS, ↓s_len, ↓x_buildS, x_buildE, ↓x_P0, ↓x_P1, x_fill0, x_filli, x_fills, x_fillb, c_int, List.length_cons, List.length_nil, List.cons_append, List.drop_succ_cons, List.drop_zero, List.drop_nil, List.nil_append, Int.reduceAdd, Int.reduceToNat, Int.reduceLT, Int.reduceLE, Nat.reduceAdd, Nat.reduceMul, Nat.reduceLeDiff, Int.reduceEq, Int.reduceSub, Int.cast_ofNat_Int, s_resc, s_consR, m_load4, m_store4, s_res0, ↓s_skip, ↓s_ops, ↓s_dops, ↓s_seq, ↓s_cond, ↓s_block, ↓s_exit, ↓s_ret, ↓s_scope, ↓s_nil, ↓s_op, ↓s_opg, ↓s_wanted', ↓s_wantV, s_wantV, s_wantV0, beq_true, beq_false, ↓s_bindS, s_bindS, ↓s_bindE, s_bindE, s_bindE_ret, s_bindE_exit, s_bindE_iteN, s_norm, ↓s_condV, s_condV, s_block_ret, s_block_normal, s_block_exit, s_block_iteN, ↓s_getp, ↓s_getp0, ↓s_get, s_get0, ↓s_con, ↓s_fn, ↓s_os0, ↓s_os1, ↓s_list0, ↓s_list1, ↓s_mov, ↓s_pick, ↓s_pickE, s_pickE, ↓s_bin, ↓s_un, ↓s_minmax, ↓s_call, ↓s_callv, ↓s_callV, ↓s_ext, s_same, b_eql, b_neq, b_lss, b_leq, b_gtr, b_geq, b_add, b_sub, b_mul, b_eqlb, b_neqb, b_fnil, b_fnil', b_fnil2, b_fnil2', u_neg, u_not, m_two, s_end, s_end', s_end_iteN, s_res0, s_res1, s_tup1, s_tup2, ↓iteN_true, ↓iteN_false, iteN_true, iteN_false, Nat.zero_add, List.nil_append, List.append_nil, Nat.reduceEqDiff, reduceIte, decide_true, decide_false, Bool.not_true, Bool.not_false, List.getElem?_cons_zero, List.getElem?_cons_succ, Bool.false_eq_true, if_true, if_false, beq_self_eq_true]
    exact ⟨_, rfl⟩
  have c2 : decide ((50 : Int) < (at_.length : Int)) = false := decide_eq_false (by omega)
  obtain ⟨hQ, eQ⟩ : ∃ hQ, ((h.new (.cells [.slice none 0 (some 0) 0] .rw)).new (.cells [.slice none 0 (some 0) 0] .rw)).new (.cells [.slice a b.length none 1] .rw) = hQ := ⟨_, rfl⟩
  have nQ : hQ.next = h.next + 3 := by rw [← eQ]; rfl
  have kQ : Kp h hQ := by rw [← eQ]; (repeat (first | exact Kp.refl _ | refine Kp.put ?_ _ (by first | omega | (simp only [h_next_put, h_next_new, h_next_del]; omega)) | refine Kp.del ?_ (by first | omega | (simp only [h_next_put, h_next_new, h_next_del]; omega)) | refine Kp.trans ?_ (Kp.new _ _)))
  have g0 : hQ.get h.next = some (.cells [.slice none 0 (some 0) 0] .rw) := by rw [← eQ]; (simp (disch := omega) only [l_loop, l_succ, l_normal, l_normal, l_exit, l_ret, l_iteN, h_put_get, h_new_get, h_del_get, h_next_put, h_next_new, h_next_del, Nat.add_assoc, Nat.add_eq_left, Nat.left_eq_add, Nat.add_left_cancel_iff, s_load, m_load, m_load1, m_load1, m_st, m_stE, m_storeI, m_storeE, w_zero, w_succ, s_alloc, x_idxA, x_idxS, x_idxAE, x_idxSE, x_addrE, x_idx, x_lenS, s_len, x_buildS, x_buildE, x_P0, x_P1, x_fill0, x_filli, x_fills, x_fillb, c_int, List.length_cons, List.length_nil, List.cons_append, List.drop_succ_cons, List.drop_zero, List.drop_nil, List.nil_append, Int.reduceAdd, Int.reduceToNat, Int.reduceLT, Int.reduceLE, Nat.reduceAdd, Nat.reduceMul, Nat.reduceLeDiff, Int.reduceEq, Int.reduceSub, Int.cast_ofNat_Int, s_resc, s_consR, m_load4, m_store4, s_res0, decide_true, decide_false, iteN_true, iteN_false, Nat.reduceEqDiff, Nat.reduceAdd, reduceCtorEq, ]; try rfl)
  have g1 : hQ.get (h.next + 1) = some (.cells [.slice none 0 (some 0) 0] .rw) := by rw [← eQ]; (simp (disch := omega) only [l_loop, l_succ, l_normal, l_normal, l_exit, l_ret, l_iteN, h_put_get, h_new_get, h_del_get, h_next_put, h_next_new, h_next_del, Nat.add_assoc, Nat.add_eq_left, Nat.left_eq_add, Nat.add_left_cancel_iff, s_load, m_load, m_load1, m_load1, m_st, m_stE, m_storeI, m_storeE, w_zero, w_succ, s_alloc, x_idxA, x_idxS, x_idxAE, x_idxSE, x_addrE, x_idx, x_lenS, s_len, x_buildS, x_buildE, x_P0, x_P1, x_fill0, x_filli, x_fills, x_fillb, c_int, List.length_cons, List.length_nil, List.cons_append, List.drop_succ_cons, List.drop_zero, List.drop_nil, List.nil_append, Int.reduceAdd, Int.reduceToNat, Int.reduceLT, Int.reduceLE, Nat.reduceAdd, Nat.reduceMul, Nat.reduceLeDiff, Int.reduceEq, Int.reduceSub, Int.cast_ofNat_Int, s_resc, s_consR, m_load4, m_store4, s_res0, decide_true, decide_false, iteN_true, iteN_false, Nat.reduceEqDiff, Nat.reduceAdd, reduceCtorEq, ]; try rfl)
  have g2 : hQ.get (h.next + 2) = some (.cells [.slice a b.length none 1] .rw) := by rw [← eQ]; (simp (disch := omega) only [l_loop, l_succ, l_normal, l_normal, l_exit, l_ret, l_iteN, h_put_get, h_new_get, h_del_get, h_next_put, h_next_new, h_next_del, Nat.add_assoc, Nat.add_eq_left, Nat.left_eq_add, Nat.add_left_cancel_iff, s_load, m_load, m_load1, m_load1, m_st, m_stE, m_storeI, m_storeE, w_zero, w_succ, s_alloc, x_idxA, x_idxS, x_idxAE, x_idxSE, x_addrE, x_idx, x_lenS, s_len, x_buildS, x_buildE, x_P0, x_P1, x_fill0, x_filli, x_fills, x_fillb, c_int, List.length_cons, List.length_nil, List.cons_append, List.drop_succ_cons, List.drop_zero, List.drop_nil, List.nil_append, Int.reduceAdd, Int.reduceToNat, Int.reduceLT, Int.reduceLE, Nat.reduceAdd, Nat.reduceMul, Nat.reduceLeDiff, Int.reduceEq, Int.reduceSub, Int.cast_ofNat_Int, s_resc, s_consR, m_load4, m_store4, s_res0, decide_true, decide_false, iteN_true, iteN_false, Nat.reduceEqDiff, Nat.reduceAdd, reduceCtorEq, ]; try rfl)
  have fb : flV [((a, none, 1, b) : Pt)] = b := flV_one _
  obtain ⟨h1, ao, co, eo, r1, p1, w1, n1, f1⟩ := raw_go (X := pureX k_purserlaw01_alive aliveS) er (fun _ _ => rfl) (N + 99) h.next (h.next + 2) [(a, none, 1, b)] (some 1) (by show 1 < _; omega) (by show 1 < _; omega) (by rw [fb]; omega) .rw h hQ kQ (Nat.le_refl _) (by omega) (by omega) (by omega) g2 (fun q hq => by rcases List.mem_singleton.1 hq with rfl; exact sb) g0
  rw [fb] at p1 w1
  replace r1 : callX E (pureX k_purserlaw01_alive aliveS) (N + 100) (.fn k_octet_Pen_Raw) [.ptr (some (h.next, 0)), .slice (some (h.next + 2, 0)) 1 (some 1) 1] hQ = some (.int .i64 0, h1) := r1
  have ks : ∀ j, j < h.next → h1.get j = h.get j := fun j hj => by rw [f1 _ (by omega) (by omega), kQ.2 _ hj]
  have k01 : Kp h h1 := ⟨by omega, ks⟩
  have fin : ∀ T, OL h h1 b at_ a a1 h.next 0 T h1 → ∃ h2, fnEnd [.tmp 4] (bindE (blockE 0 (loopN (evC (callX E (pureX k_purserlaw01_alive aliveS) (N + 100)) 83 (N + 100) none L_purserlaw01_OctetParts_0) (N + 100) ⟨T, [], h1⟩)) (evC (callX E (pureX k_purserlaw01_alive aliveS) (N + 100)) 83 (N + 100) none R_purserlaw01_OctetParts_0)) = some (.bool true, h2) := by
    intro T I
    obtain ⟨T', h2, r2, il, t0, t1, t5, t6, t7, t8, t33, t34, ⟨k, P⟩, kp⟩ := loop_go (f := evC (callX E (pureX k_purserlaw01_alive aliveS) (N + 100)) 83 (N + 100) none L_purserlaw01_OctetParts_0) (OL h h1 b at_ a a1 h.next) at_.length (.exit 0) (by intro h; cases h) (OL h h1 b at_ a a1 h.next at_.length) (ol_step _ _ h h1 b at_ a a1 h.next sb sa (by omega) (by omega) bat ks k01.1) (fun T h' I => by
      obtain ⟨il, t0, t1, t5, t6, t7, t8, t33, t34, P, kp⟩ := I
      have c0 : decide ((at_.length : Int) < (at_.length : Int)) = false := decide_eq_false (by omega)
      refine ⟨_, _, by
        simp (config := {maxSteps := 2000000}) (disch := first | omega | (simp only [List.length_cons, List.length_nil, List.length_append, List.length_drop]; omega)) only [L_purserlaw01_OctetParts_0, t33, t34, c0, ↓b_xor32, ↓b_and32, ↓b_or32, ↓u_not32, b_xor32, b_and32, b_or32, u_not32, w32ad, ↓x_conv, x_convV, ↓x_fieldAddr, x_fieldV, ↓s_nilchk, x_nilchk, Nat.zero_add, Nat.add_zero, Nat.mul_one, ↓l_loop, ↓l_succ, ↓l_normal, l_normal, l_exit, l_ret, l_iteN, ↓h_put_get, ↓h_new_get, ↓h_del_get, h_next_put, h_next_new, h_next_del, Nat.add_assoc, Nat.add_eq_left, Nat.left_eq_add, Nat.add_left_cancel_iff, ↓s_load, m_load, ↓m_load1, m_load1, ↓m_st, m_stE, m_storeI, m_storeE, w_zero, w_succ, ↓s_alloc, ↓x_idxA, ↓x_idxS, x_idxAE, x_idxSE, x_addrE, x_idx, x_lenS, ↓s_len, ↓x_buildS, x_buildE, ↓x_P0, ↓x_P1, x_fill0, x_filli, x_fills, x_fillb, c_int, List.length_cons, List.length_nil, List.cons_append, List.drop_succ_cons, List.drop_zero, List.drop_nil, List.nil_append, Int.reduceAdd, Int.reduceToNat, Int.reduceLT, Int.reduceLE, Nat.reduceAdd, Nat.reduceMul, Nat.reduceLeDiff, Int.reduceEq, Int.reduceSub, Int.cast_ofNat_Int, s_resc, s_consR, m_load4, m_store4, s_res0, ↓s_skip, ↓s_ops, ↓s_dops, ↓s_seq, ↓s_cond, ↓s_block, ↓s_exit, ↓s_ret, ↓s_scope, ↓s_nil, ↓s_op, ↓s_opg, ↓s_wanted', ↓s_wantV, s_wantV, s_wantV0, beq_true, beq_false, ↓s_bindS, s_bindS, ↓s_bindE, s_bindE, s_bindE_ret, s_bindE_exit, s_bindE_iteN, s_norm, ↓s_condV, s_condV, s_block_ret, s_block_normal, s_block_exit, s_block_iteN, ↓s_getp, ↓s_getp0, ↓s_get, s_get0, ↓s_con, ↓s_fn, ↓s_os0, ↓s_os1, ↓s_list0, ↓s_list1, ↓s_mov, ↓s_pick, ↓s_pickE, s_pickE, ↓s_bin, ↓s_un, ↓s_minmax, ↓s_call, ↓s_callv, ↓s_callV, ↓s_ext, s_same, b_eql, b_neq, b_lss, b_leq, b_gtr, b_geq, b_add, b_sub, b_mul, b_eqlb, b_neqb, b_fnil, b_fnil', b_fnil2, b_fnil2', u_neg, u_not, m_two, s_end, s_end', s_end_iteN, s_res0, s_res1, s_tup1, s_tup2, ↓iteN_true, ↓iteN_false, iteN_true, iteN_false, Nat.zero_add, List.nil_append, List.append_nil, Nat.reduceEqDiff, reduceIte, decide_true, decide_false, Bool.not_true, Bool.not_false, List.getElem?_cons_zero, List.getElem?_cons_succ, Bool.false_eq_true, if_true, if_false, beq_self_eq_true]
        exact rfl, ⟨il, (by (simp only [s_getp, s_getp0, Nat.reduceEqDiff, decide_false, decide_true, iteN_false, iteN_true, t0]; try rfl)), (by (simp only [s_getp, s_getp0, Nat.reduceEqDiff, decide_false, decide_true, iteN_false, iteN_true, t1]; try rfl)), (by (simp only [s_getp, s_getp0, Nat.reduceEqDiff, decide_false, decide_true, iteN_false, iteN_true, t5]; try rfl)), (by (simp only [s_getp, s_getp0, Nat.reduceEqDiff, decide_false, decide_true, iteN_false, iteN_true, t6]; try rfl)), (by (simp only [s_getp, s_getp0, Nat.reduceEqDiff, decide_false, decide_true, iteN_false, iteN_true, t7]; try rfl)), (by (simp only [s_getp, s_getp0, Nat.reduceEqDiff, decide_false, decide_true, iteN_false, iteN_true, t8]; try rfl)), (by (simp only [s_getp, s_getp0, Nat.reduceEqDiff, decide_false, decide_true, iteN_false, iteN_true, t33]; try rfl)), (by (simp only [s_getp, s_getp0, Nat.reduceEqDiff, decide_false, decide_true, iteN_false, iteN_true, t34]; try rfl)), by obtain ⟨k, P⟩ := P; exact ⟨k, by simp only [s_getp, s_getp0, Nat.reduceEqDiff, decide_false, decide_true, iteN_false, iteN_true]; exact P⟩, kp⟩⟩) at_.length 0 (by omega) (N + 100) (by omega) T h1 I
    rw [r2]
    obtain ⟨hC, ap, kC, nC, ps, q1, q2, q3, md2, q4, q5⟩ := ps_more h h1 h2 b a sb at_.length k (by omega) _ _ P kp (b.length - k) (Nat.le_refl _)
    have hk := P.1
    have t9 := P.2.1
    rw [show k + (b.length - k) = b.length by omega, List.take_length] at q2
    have sc := srcP h2 (.slice (upA a k) (b.length - k) none 1)
    obtain ⟨v10, ev⟩ : ∃ v, evO T' (.t 10) = v := ⟨_, rfl⟩
    rw [ev] at ap
    have n12 := kp.1
    obtain ⟨hD, ao2, co2, eo2, rD, pD, wD, nD, fD⟩ := raw_go (X := pureX k_purserlaw01_alive aliveS) er (fun _ _ => rfl) (N + 99) (h.next + 1) (h2.next + 1) ps none (by omega) (by omega) (by rw [q2]; omega) md2 h hC (k01.trans kC) (by omega) (by omega) (by omega) (by omega) q4 q3 (by rw [kC.2 _ (by omega), f1 _ (by omega) (by omega), g1])
    rw [q2] at pD wD
    rw [q1] at rD
    replace rD : callX E (pureX k_purserlaw01_alive aliveS) (N + 100) (.fn k_octet_Pen_Raw) [.ptr (some (h.next + 1, 0)), .slice (some (h2.next + 1, 0)) (at_.length + 1) none 1] hC = some (.int .i64 0, hD) := rD
    have wD1 : WS hD hQ.next b ao co eo := w1.mono (by omega) (fun j hj hj2 => by rw [fD _ (by omega) (by omega), kC.2 _ hj2])
    have pD1 : hD.get h.next = some (.cells [.slice ao b.length co eo] .rw) := by rw [fD _ (by omega) (by omega), kC.2 _ (by omega), p1]
    have kD : Kp h hD := ⟨by omega, fun j hj => by rw [fD _ (by omega) (by omega), kC.2 _ (by omega), ks _ hj]⟩
    obtain ⟨a3, c3, e3, hE, rE, kE, sE⟩ := all_go (X := pureX k_purserlaw01_alive aliveS) ea (fun _ _ => rfl) (N + 99) h.next b (by omega) hQ.next ao co eo hD pD1 wD1
    obtain ⟨a4, c4, e4, hF, rF, kF, sF⟩ := all_go (X := pureX k_purserlaw01_alive aliveS) ea (fun _ _ => rfl) (N + 99) (h.next + 1) b (by omega) hC.next ao2 co2 eo2 hE (by rw [kE.2 _ (by omega), pD]) (wD.mono kE.1 (fun j _ hj => kE.2 _ hj))
    replace rE : callX E (pureX k_purserlaw01_alive aliveS) (N + 100) (.fn k_octet_Pen_All) [.ptr (some (h.next, 0))] hD = some (.slice a3 b.length c3 e3, hE) := rE
    replace rF : callX E (pureX k_purserlaw01_alive aliveS) (N + 100) (.fn k_octet_Pen_All) [.ptr (some (h.next + 1, 0))] hE = some (.slice a4 b.length c4 e4, hF) := rF
    have s1 := str_src sE bb c3
    have s2 := str_src (sb.mono (kD.trans kE)) bb none
    have s3 := str_src sF bb c4
    have s5 := str_src (sb.mono kD) bb none
    have s6 := str_src (sE.mono kF) bb c3
    have s4 := str_src (sb.mono ((kD.trans kE).trans kF)) bb none
    obtain ⟨n, en⟩ : ∃ n, b.length = n := ⟨_, rfl⟩
    rw [en] at t0 t9 sc ap rE rF s1 s2 s3 s4 s5 s6
    obtain ⟨r, eR⟩ : ∃ r, n - k = r := ⟨_, rfl⟩
    rw [eR] at t9 sc ap
    simp (config := {maxSteps := 2000000}) (disch := first | omega | rfl | (simp only [ofI_len, List.length_append, List.length_take, List.length_drop, List.length_cons, List.length_nil, List.length_replicate, List.length_set]; done) | (simp only [ofI_len, List.length_append, List.length_take, List.length_drop, List.length_cons, List.length_nil, List.length_replicate, List.length_set]; omega)) only [R_purserlaw01_OctetParts_0, t0, t5, t6, t7, t8, t9, ev, sc, ap, rD, rE, rF, s1, s2, s3, s4, s5, s6, ↓s_append, ↓ns_b2s, b_seq, vbeq_str, ↓b_xor32, ↓b_and32, ↓b_or32, ↓u_not32, b_xor32, b_and32, b_or32, u_not32, w32ad, ↓x_conv, x_convV, ↓x_fieldAddr, x_fieldV, ↓s_nilchk, x_nilchk, Nat.zero_add, Nat.add_zero, Nat.mul_one, ↓s_evD, ↓s_dnil, ↓s_dL, ↓s_dLg, ↓s_dR, ↓s_dRg, ↓s_dRj, ↓s_dRjg, ↓s_dB, ↓s_dBg, ↓s_dAlloc, ↓s_bindD, s_bindD, s_finD, s_finDx, s_addP0, s_addP1, s_addB, s_lookP, ↓s_bump0, ↓s_bump_get, s_bump_next, s_ok0, ↓s_ok1, s_okR0, ↓s_okR1, ↓s_okE, s_okE, s_okE1, s_nth0, s_nthS, Nat.add_zero, Bool.and_self, Bool.and_true, Bool.true_and, ↓l_loop, ↓l_succ, ↓l_normal, l_normal, l_exit, l_ret, l_iteN, ↓h_put_get, ↓h_new_get, ↓h_del_get, h_next_put, h_next_new, h_next_del, Nat.add_assoc, Nat.add_eq_left, Nat.left_eq_add, Nat.add_left_cancel_iff, ↓s_load, m_load, ↓m_load1, m_load1, ↓m_st, m_stE, m_storeI, m_storeE, w_zero, w_succ, ↓s_alloc, ↓x_idxA, ↓x_idxS, x_idxAE, x_idxSE, x_addrE, x_idx, x_lenS, ↓s_len, ↓x_buildS, x_buildE, ↓x_P0, ↓x_P1, x_fill0, x_filli, x_fills, x_fillb, c_int, List.length_cons, List.length_nil, List.cons_append, List.drop_succ_cons, List.drop_zero, List.drop_nil, List.nil_append, Int.reduceAdd, Int.reduceToNat, Int.reduceLT, Int.reduceLE, Nat.reduceAdd, Nat.reduceMul, Nat.reduceLeDiff, Int.reduceEq, Int.reduceSub, Int.cast_ofNat_Int, s_resc, s_consR, m_load4, m_store4, s_res0, ↓s_skip, ↓s_ops, ↓s_dops, ↓s_seq, ↓s_cond, ↓s_block, ↓s_exit, ↓s_ret, ↓s_scope, ↓s_nil, ↓s_op, ↓s_opg, ↓s_wanted', ↓s_wantV, s_wantV, s_wantV0, beq_true, beq_false, ↓s_bindS, s_bindS, ↓s_bindE, s_bindE, s_bindE_ret, s_bindE_exit, s_bindE_iteN, s_norm, ↓s_condV, s_condV, s_block_ret, s_block_normal, s_block_exit, s_block_iteN, ↓s_getp, ↓s_getp0, ↓s_get, s_get0, ↓s_con, ↓s_fn, ↓s_os0, ↓s_os1, ↓s_list0, ↓s_list1, ↓s_mov, ↓s_pick, ↓s_pickE, s_pickE, ↓s_bin, ↓s_un, ↓s_minmax, ↓s_call, ↓s_callv, ↓s_callV, ↓s_ext, s_same, b_eql, b_neq, b_lss, b_leq, b_gtr, b_geq, b_add, b_sub, b_mul, b_eqlb, b_neqb, b_fnil, b_fnil', b_fnil2, b_fnil2', u_neg, u_not, m_two, s_end, s_end', s_end_iteN, s_res0, s_res1, s_tup1, s_tup2, ↓iteN_true, ↓iteN_false, iteN_true, iteN_false, Nat.zero_add, List.nil_append, List.append_nil, Nat.reduceEqDiff, reduceIte, decide_true, decide_false, Bool.not_true, Bool.not_false, List.getElem?_cons_zero, List.getElem?_cons_succ, Bool.false_eq_true, if_true, if_false, beq_self_eq_true]
    exact ⟨_, rfl⟩
  obtain ⟨R, eR⟩ : ∃ R, R_purserlaw01_OctetParts_0 = R := ⟨_, rfl⟩
  obtain ⟨Lo, eL⟩ : ∃ R, L_purserlaw01_OctetParts_0 = R := ⟨_, rfl⟩
  rw [eR, eL] at fin ⊢
  simp (config := {maxSteps := 2000000}) (disch := first | omega | rfl | (simp only [ofI_len, List.length_append, List.length_take, List.length_drop, List.length_cons, List.length_nil, List.length_replicate, List.length_set]; done) | (simp only [ofI_len, List.length_append, List.length_take, List.length_drop, List.length_cons, List.length_nil, List.length_replicate, List.length_set]; omega)) only [al, c1, c2, eQ, r1, ↓s_len, x_lenS, ↓b_xor32, ↓b_and32, ↓b_or32, ↓u_not32, b_xor32, b_and32, b_or32, u_not32, w32ad, ↓x_conv, x_convV, ↓x_fieldAddr, x_fieldV, ↓s_nilchk, x_nilchk, Nat.zero_add, Nat.add_zero, Nat.mul_one, ↓s_evD, ↓s_dnil, ↓s_dL, ↓s_dLg, ↓s_dR, ↓s_dRg, ↓s_dRj, ↓s_dRjg, ↓s_dB, ↓s_dBg, ↓s_dAlloc, ↓s_bindD, s_bindD, s_finD, s_finDx, s_addP0, s_addP1, s_addB, s_lookP, ↓s_bump0, ↓s_bump_get, s_bump_next, s_ok0, ↓s_ok1, s_okR0, ↓s_okR1, ↓s_okE, s_okE, s_okE1, s_nth0, s_nthS, Nat.add_zero, Bool.and_self, Bool.and_true, Bool.true_and, ↓l_loop, ↓l_succ, ↓l_normal, l_normal, l_exit, l_ret, l_iteN, ↓h_put_get, ↓h_new_get, ↓h_del_get, h_next_put, h_next_new, h_next_del, Nat.add_assoc, Nat.add_eq_left, Nat.left_eq_add, Nat.add_left_cancel_iff, ↓s_load, m_load, ↓m_load1, m_load1, ↓m_st, m_stE, m_storeI, m_storeE, w_zero, w_succ, ↓s_alloc, ↓x_idxA, ↓x_idxS, x_idxAE, x_idxSE, x_addrE, x_idx, x_lenS, ↓s_len, ↓x_buildS, x_buildE, ↓x_P0, ↓x_P1, x_fill0, x_filli, x_fills, x_fillb, c_int, List.length_cons, List.length_nil, List.cons_append, List.drop_succ_cons, List.drop_zero, List.drop_nil, List.nil_append, Int.reduceAdd, Int.reduceToNat, Int.reduceLT, Int.reduceLE, Nat.reduceAdd, Nat.reduceMul, Nat.reduceLeDiff, Int.reduceEq, Int.reduceSub, Int.cast_ofNat_Int, s_resc, s_consR, m_load4, m_store4, s_res0, ↓s_skip, ↓s_ops, ↓s_dops, ↓s_seq, ↓s_cond, ↓s_block, ↓s_exit, ↓s_ret, ↓s_scope, ↓s_nil, ↓s_op, ↓s_opg, ↓s_wanted', ↓s_wantV, s_wantV, s_wantV0, beq_true, beq_false, ↓s_bindS, s_bindS, ↓s_bindE, s_bindE, s_bindE_ret, s_bindE_exit, s_bindE_iteN, s_norm, ↓s_condV, s_condV, s_block_ret, s_block_normal, s_block_exit, s_block_iteN, ↓s_getp, ↓s_getp0, ↓s_get, s_get0, ↓s_con, ↓s_fn, ↓s_os0, ↓s_os1, ↓s_list0, ↓s_list1, ↓s_mov, ↓s_pick, ↓s_pickE, s_pickE, ↓s_bin, ↓s_un, ↓s_minmax, ↓s_call, ↓s_callv, ↓s_callV, ↓s_ext, s_same, b_eql, b_neq, b_lss, b_leq, b_gtr, b_geq, b_add, b_sub, b_mul, b_eqlb, b_neqb, b_fnil, b_fnil', b_fnil2, b_fnil2', u_neg, u_not, m_two, s_end, s_end', s_end_iteN, s_res0, s_res1, s_tup1, s_tup2, ↓iteN_true, ↓iteN_false, iteN_true, iteN_false, Nat.zero_add, List.nil_append, List.append_nil, Nat.reduceEqDiff, reduceIte, decide_true, decide_false, Bool.not_true, Bool.not_false, List.getElem?_cons_zero, List.getElem?_cons_succ, Bool.false_eq_true, if_true, if_false, beq_self_eq_true]
  refine fin _ ⟨by omega, (by (simp only [s_getp, s_getp0, Nat.reduceEqDiff, decide_false, decide_true, iteN_false, iteN_true, eL]; try rfl)), (by (simp only [s_getp, s_getp0, Nat.reduceEqDiff, decide_false, decide_true, iteN_false, iteN_true, eL]; try rfl)), (by (simp only [s_getp, s_getp0, Nat.reduceEqDiff, decide_false, decide_true, iteN_false, iteN_true, eL]; try rfl)), (by (simp only [s_getp, s_getp0, Nat.reduceEqDiff, decide_false, decide_true, iteN_false, iteN_true, eL]; try rfl)), (by (simp only [s_getp, s_getp0, Nat.reduceEqDiff, decide_false, decide_true, iteN_false, iteN_true, eL]; try rfl)), (by (simp only [s_getp, s_getp0, Nat.reduceEqDiff, decide_false, decide_true, iteN_false, iteN_true, eL]; try rfl)), (by (simp only [s_getp, s_getp0, Nat.reduceEqDiff, decide_false, decide_true, iteN_false, iteN_true, eL]; try rfl)), (by (simp only [s_getp, s_getp0, Nat.reduceEqDiff, decide_false, decide_true, iteN_false, iteN_true, eL]; try rfl)), ⟨0, by omega, ?_, [], rfl, rfl, (fun q hq => by cases hq), .inl ⟨rfl, (by (simp only [s_getp, s_getp0, Nat.reduceEqDiff, decide_false, decide_true, iteN_false, iteN_true, eL]; try rfl))⟩⟩, Kp.refl _⟩
  rw [upA_0, Nat.sub_zero]
  exact (by (simp only [s_getp, s_getp0, Nat.reduceEqDiff, decide_false, decide_true, iteN_false, iteN_true, eL]; try rfl))
end Go.Eng
