/- What functions of the program come to: own work. -/
import Derived.Test.YtgjoaeefnknpfaaOtA
namespace Go.Eng
open Go
variable {E : Nat → Option Fn} {X : Orc}
set_option linter.unusedSimpArgs false
set_option linter.unusedVariables false

structure wrII (T0 : Tr V) (q len : Nat) (md : Md) (h0 : H) (i : Nat) (T : Tr V) (h : H) : Prop where
  il : i ≤ len
  ts : evO T (.t 7) = evO T0 (.t 7)
  tn : evO T (.t 74) = .int .i64 (len : Int)
  ti : evO T (.t 75) = .int .i64 (i : Int)
  k8 : evO T (.t 8) = evO T0 (.t 8)
  k9 : evO T (.t 9) = evO T0 (.t 9)
  k10 : evO T (.t 10) = evO T0 (.t 10)
  g : ∃ cur, h.get q = some (.cells (ofI .u8 cur) md) ∧ cur.length = len
  eq : Eqx q h0 h
/-- every byte of a slice is one greater behind it: nothing else is another one -/
theorem wrI_go (Q : Orc) (m : Nat) (T0 : Tr V) (h0 : H) (w : List Nat) (hw : w.length ≤ 1000000) (hm : w.length < m) (a : Option (Nat × Nat)) (c : Option Nat) (e : Nat) (wb : Wb h0 w a c e) (ts : evO T0 (.t 7) = .slice a w.length c e) (tn : evO T0 (.t 74) = .int .i64 (w.length : Int)) (ti : evO T0 (.t 75) = .int .i64 0) :
    ∃ T' h', loopN (evC Q 90 m none L_purserlaw01_write_0) m ⟨T0, [], h0⟩ = some (.exit 1, ⟨T', [], h'⟩) ∧ (h'.next = h0.next ∧ ∀ j, a ≠ some (j, 0) → h'.get j = h0.get j) ∧ evO T' (.t 8) = evO T0 (.t 8) ∧ evO T' (.t 9) = evO T0 (.t 9) ∧ evO T' (.t 10) = evO T0 (.t 10) := by
  rcases wb with ⟨rfl, rfl, rfl, rfl⟩ | ⟨hp, q, md, rfl, rfl, rfl, g, hmd, hq⟩
  · obtain ⟨m, rfl⟩ : ∃ k, m = k + 1 := ⟨m - 1, by omega⟩
    rw [l_succ]
    have c0 : decide ((0 : Int) < ((0 : Nat) : Int)) = false := rfl
    have c1 : decide ((0 : Int) < 0) = false := rfl
    rw [List.length_nil] at tn
    refine ⟨_, h0, by
      simp (config := {maxSteps := 2000000}) (disch := first | omega | (simp only [List.length_cons, List.length_nil, List.length_append, List.length_drop]; omega)) only [L_purserlaw01_write_0, tn, ti, c0, c1, ↓b_xor32, ↓b_and32, ↓b_or32, ↓u_not32, b_xor32, b_and32, b_or32, u_not32, w32ad, ↓x_conv, x_convV, ↓x_fieldAddr, x_fieldV, ↓s_nilchk, x_nilchk, Nat.zero_add, Nat.add_zero, Nat.mul_one, ↓l_loop, ↓l_succ, ↓l_normal, l_normal, l_exit, l_ret, l_iteN, ↓h_put_get, ↓h_new_get, ↓h_del_get, h_next_put, h_next_new, h_next_del, Nat.add_assoc, Nat.add_eq_left, Nat.left_eq_add, Nat.add_left_cancel_iff, ↓s_load, m_load, ↓m_load1, m_load1, ↓m_st, m_stE, m_storeI, m_storeE, w_zero, w_succ, ↓s_alloc, ↓x_idxA, ↓x_idxS, x_idxAE, x_idxSE, x_addrE, x_idx, x_lenS, ↓s_len, ↓x_buildS, x_buildE, ↓x_P0, ↓x_P1, x_fill0, x_filli, x_fills, x_fillb, c_int, List.length_cons, List.length_nil, List.cons_append, List.drop_succ_cons, List.drop_zero, List.drop_nil, List.nil_append, Int.reduceAdd, Int.reduceToNat, Int.reduceLT, Int.reduceLE, Nat.reduceAdd, Nat.reduceMul, Nat.reduceLeDiff, Int.reduceEq, Int.reduceSub, Int.cast_ofNat_Int, s_resc, s_consR, m_load4, m_store4, s_res0, ↓s_skip, ↓s_ops, ↓s_dops, ↓s_seq, ↓s_cond, ↓s_block, ↓s_exit, ↓s_ret, ↓s_scope, ↓s_nil, ↓s_op, ↓s_opg, ↓s_wanted', ↓s_wantV, s_wantV, s_wantV0, beq_true, beq_false, ↓s_bindS, s_bindS, ↓s_bindE, s_bindE, s_bindE_ret, s_bindE_exit, s_bindE_iteN, s_norm, ↓s_condV, s_condV, s_block_ret, s_block_normal, s_block_exit, s_block_iteN, ↓s_getp, ↓s_getp0, ↓s_get, s_get0, ↓s_con, ↓s_fn, ↓s_os0, ↓s_os1, ↓s_list0, ↓s_list1, ↓s_mov, ↓s_pick, ↓s_pickE, s_pickE, ↓s_bin, ↓s_un, ↓s_minmax, ↓s_call, ↓s_callv, ↓s_callV, ↓s_ext, s_same, b_eql, b_neq, b_lss, b_leq, b_gtr, b_geq, b_add, b_sub, b_mul, b_eqlb, b_neqb, b_fnil, b_fnil', b_fnil2, b_fnil2', u_neg, u_not, m_two, s_end, s_end', s_end_iteN, s_res0, s_res1, s_tup1, s_tup2, ↓iteN_true, ↓iteN_false, iteN_true, iteN_false, Nat.zero_add, List.nil_append, List.append_nil, Nat.reduceEqDiff, reduceIte, decide_true, decide_false, Bool.not_true, Bool.not_false, List.getElem?_cons_zero, List.getElem?_cons_succ, Bool.false_eq_true, if_true, if_false, beq_self_eq_true]
      exact rfl, ⟨rfl, fun _ _ => rfl⟩, by (simp only [s_getp, s_getp0, Nat.reduceEqDiff, decide_false, decide_true, iteN_false, iteN_true]), by (simp only [s_getp, s_getp0, Nat.reduceEqDiff, decide_false, decide_true, iteN_false, iteN_true]), by (simp only [s_getp, s_getp0, Nat.reduceEqDiff, decide_false, decide_true, iteN_false, iteN_true])⟩
  · obtain ⟨T', h', r, J⟩ := loop_go (f := evC Q 90 m none L_purserlaw01_write_0) (wrII T0 q w.length md h0) w.length (.exit 1) (by intro h; cases h) (wrII T0 q w.length md h0 w.length) (fun i T h hi I => by
      obtain ⟨_, t1, t2, t3, k8, k9, k10, ⟨cur, gq, lc⟩, eq⟩ := I
      have t1' := t1.trans ts
      have c0 : decide ((i : Int) < (w.length : Int)) = true := decide_eq_true (by omega)
      have wi : wr .i64 ((i : Int) + 1) = ((i + 1 : Nat) : Int) := by rw [wr_i64 (by omega)]; omega
      have ix : idx (i : Int) w.length = some i := idxn hi
      have cg : (ofI .u8 cur)[i]? = some (.int .u8 (cur.getD i 0 : Nat)) := ofI_get _ _ _ (by omega)
      have w8 : wr .u8 (((cur.getD i 0 : Nat) : Int) + 1) = (((cur.getD i 0 + 1) % 256 : Nat) : Int) := w8n (cur.getD i 0 + 1)
      generalize cur.getD i 0 = y at *
      generalize (y + 1) % 256 = y' at *
      have ste := fun (h : H) (v : V) => stAny .u8 cur [v] md hmd h q i (by simp only [List.length_cons, List.length_nil]; omega)
      have su := wr1I .u8 cur i y' (by omega)
      have i1 : i + 1 ≤ w.length := hi
      have ls : (cur.set i y').length = w.length := by rw [List.length_set, lc]
      obtain ⟨n, en⟩ : ∃ n, w.length = n := ⟨_, rfl⟩
      rw [en] at t1' t2 c0 ix
      refine ⟨_, _, by
        simp (config := {maxSteps := 2000000}) (disch := first | omega | (simp only [List.length_cons, List.length_nil, List.length_append, List.length_drop]; omega)) only [L_purserlaw01_write_0, t1', t2, t3, gq, cg, c0, wi, ix, w8, ste, su, ↓b_xor32, ↓b_and32, ↓b_or32, ↓u_not32, b_xor32, b_and32, b_or32, u_not32, w32ad, ↓x_conv, x_convV, ↓x_fieldAddr, x_fieldV, ↓s_nilchk, x_nilchk, Nat.zero_add, Nat.add_zero, Nat.mul_one, ↓l_loop, ↓l_succ, ↓l_normal, l_normal, l_exit, l_ret, l_iteN, ↓h_put_get, ↓h_new_get, ↓h_del_get, h_next_put, h_next_new, h_next_del, Nat.add_assoc, Nat.add_eq_left, Nat.left_eq_add, Nat.add_left_cancel_iff, ↓s_load, m_load, ↓m_load1, m_load1, ↓m_st, m_stE, m_storeI, w_zero, w_succ, ↓s_alloc, ↓x_idxA, ↓x_idxS, x_idxAE, x_idxSE, x_addrE, x_idx, x_lenS, ↓s_len, ↓x_buildS, x_buildE, ↓x_P0, ↓x_P1, x_fill0, x_filli, x_fills, x_fillb, c_int, List.length_cons, List.length_nil, List.cons_append, List.drop_succ_cons, List.drop_zero, List.drop_nil, List.nil_append, Int.reduceAdd, Int.reduceToNat, Int.reduceLT, Int.reduceLE, Nat.reduceAdd, Nat.reduceMul, Nat.reduceLeDiff, Int.reduceEq, Int.reduceSub, Int.cast_ofNat_Int, s_resc, s_consR, m_load4, m_store4, s_res0, ↓s_skip, ↓s_ops, ↓s_dops, ↓s_seq, ↓s_cond, ↓s_block, ↓s_exit, ↓s_ret, ↓s_scope, ↓s_nil, ↓s_op, ↓s_opg, ↓s_wanted', ↓s_wantV, s_wantV, s_wantV0, beq_true, beq_false, ↓s_bindS, s_bindS, ↓s_bindE, s_bindE, s_bindE_ret, s_bindE_exit, s_bindE_iteN, s_norm, ↓s_condV, s_condV, s_block_ret, s_block_normal, s_block_exit, s_block_iteN, ↓s_getp, ↓s_getp0, ↓s_get, s_get0, ↓s_con, ↓s_fn, ↓s_os0, ↓s_os1, ↓s_list0, ↓s_list1, ↓s_mov, ↓s_pick, ↓s_pickE, s_pickE, ↓s_bin, ↓s_un, ↓s_minmax, ↓s_call, ↓s_callv, ↓s_callV, ↓s_ext, s_same, b_eql, b_neq, b_lss, b_leq, b_gtr, b_geq, b_add, b_sub, b_mul, b_eqlb, b_neqb, b_fnil, b_fnil', b_fnil2, b_fnil2', u_neg, u_not, m_two, s_end, s_end', s_end_iteN, s_res0, s_res1, s_tup1, s_tup2, ↓iteN_true, ↓iteN_false, iteN_true, iteN_false, Nat.zero_add, List.nil_append, List.append_nil, Nat.reduceEqDiff, reduceIte, decide_true, decide_false, Bool.not_true, Bool.not_false, List.getElem?_cons_zero, List.getElem?_cons_succ, Bool.false_eq_true, if_true, if_false, beq_self_eq_true]
        exact rfl, ⟨i1, Eq.trans (by (simp only [s_getp, s_getp0, Nat.reduceEqDiff, decide_false, decide_true, iteN_false, iteN_true])) t1, by rw [en]; exact Eq.trans (by (simp only [s_getp, s_getp0, Nat.reduceEqDiff, decide_false, decide_true, iteN_false, iteN_true])) t2, (by (simp only [s_getp, s_getp0, Nat.reduceEqDiff, decide_false, decide_true, iteN_false, iteN_true, t3]; try rfl)), Eq.trans (by (simp only [s_getp, s_getp0, Nat.reduceEqDiff, decide_false, decide_true, iteN_false, iteN_true])) k8, Eq.trans (by (simp only [s_getp, s_getp0, Nat.reduceEqDiff, decide_false, decide_true, iteN_false, iteN_true])) k9, Eq.trans (by (simp only [s_getp, s_getp0, Nat.reduceEqDiff, decide_false, decide_true, iteN_false, iteN_true])) k10, ⟨cur.set i y', h_put_same _ _ _, ls⟩, eq.put _⟩⟩) (fun T h I => by
      obtain ⟨il, t1, t2, t3, k8, k9, k10, gq, eq⟩ := I
      have c0 : decide ((w.length : Int) < (w.length : Int)) = false := decide_eq_false (by omega)
      refine ⟨_, _, by
        simp (config := {maxSteps := 2000000}) (disch := first | omega | (simp only [List.length_cons, List.length_nil, List.length_append, List.length_drop]; omega)) only [L_purserlaw01_write_0, t2, t3, c0, ↓b_xor32, ↓b_and32, ↓b_or32, ↓u_not32, b_xor32, b_and32, b_or32, u_not32, w32ad, ↓x_conv, x_convV, ↓x_fieldAddr, x_fieldV, ↓s_nilchk, x_nilchk, Nat.zero_add, Nat.add_zero, Nat.mul_one, ↓l_loop, ↓l_succ, ↓l_normal, l_normal, l_exit, l_ret, l_iteN, ↓h_put_get, ↓h_new_get, ↓h_del_get, h_next_put, h_next_new, h_next_del, Nat.add_assoc, Nat.add_eq_left, Nat.left_eq_add, Nat.add_left_cancel_iff, ↓s_load, m_load, ↓m_load1, m_load1, ↓m_st, m_stE, m_storeI, m_storeE, w_zero, w_succ, ↓s_alloc, ↓x_idxA, ↓x_idxS, x_idxAE, x_idxSE, x_addrE, x_idx, x_lenS, ↓s_len, ↓x_buildS, x_buildE, ↓x_P0, ↓x_P1, x_fill0, x_filli, x_fills, x_fillb, c_int, List.length_cons, List.length_nil, List.cons_append, List.drop_succ_cons, List.drop_zero, List.drop_nil, List.nil_append, Int.reduceAdd, Int.reduceToNat, Int.reduceLT, Int.reduceLE, Nat.reduceAdd, Nat.reduceMul, Nat.reduceLeDiff, Int.reduceEq, Int.reduceSub, Int.cast_ofNat_Int, s_resc, s_consR, m_load4, m_store4, s_res0, ↓s_skip, ↓s_ops, ↓s_dops, ↓s_seq, ↓s_cond, ↓s_block, ↓s_exit, ↓s_ret, ↓s_scope, ↓s_nil, ↓s_op, ↓s_opg, ↓s_wanted', ↓s_wantV, s_wantV, s_wantV0, beq_true, beq_false, ↓s_bindS, s_bindS, ↓s_bindE, s_bindE, s_bindE_ret, s_bindE_exit, s_bindE_iteN, s_norm, ↓s_condV, s_condV, s_block_ret, s_block_normal, s_block_exit, s_block_iteN, ↓s_getp, ↓s_getp0, ↓s_get, s_get0, ↓s_con, ↓s_fn, ↓s_os0, ↓s_os1, ↓s_list0, ↓s_list1, ↓s_mov, ↓s_pick, ↓s_pickE, s_pickE, ↓s_bin, ↓s_un, ↓s_minmax, ↓s_call, ↓s_callv, ↓s_callV, ↓s_ext, s_same, b_eql, b_neq, b_lss, b_leq, b_gtr, b_geq, b_add, b_sub, b_mul, b_eqlb, b_neqb, b_fnil, b_fnil', b_fnil2, b_fnil2', u_neg, u_not, m_two, s_end, s_end', s_end_iteN, s_res0, s_res1, s_tup1, s_tup2, ↓iteN_true, ↓iteN_false, iteN_true, iteN_false, Nat.zero_add, List.nil_append, List.append_nil, Nat.reduceEqDiff, reduceIte, decide_true, decide_false, Bool.not_true, Bool.not_false, List.getElem?_cons_zero, List.getElem?_cons_succ, Bool.false_eq_true, if_true, if_false, beq_self_eq_true]
        exact rfl, ⟨il, Eq.trans (by (simp only [s_getp, s_getp0, Nat.reduceEqDiff, decide_false, decide_true, iteN_false, iteN_true])) t1, Eq.trans (by (simp only [s_getp, s_getp0, Nat.reduceEqDiff, decide_false, decide_true, iteN_false, iteN_true])) t2, Eq.trans (by (simp only [s_getp, s_getp0, Nat.reduceEqDiff, decide_false, decide_true, iteN_false, iteN_true])) t3, Eq.trans (by (simp only [s_getp, s_getp0, Nat.reduceEqDiff, decide_false, decide_true, iteN_false, iteN_true])) k8, Eq.trans (by (simp only [s_getp, s_getp0, Nat.reduceEqDiff, decide_false, decide_true, iteN_false, iteN_true])) k9, Eq.trans (by (simp only [s_getp, s_getp0, Nat.reduceEqDiff, decide_false, decide_true, iteN_false, iteN_true])) k10, gq, eq⟩⟩) w.length 0 (by omega) m (by omega) T0 h0 ⟨by omega, rfl, tn, ti, rfl, rfl, rfl, ⟨w, g, rfl⟩, .refl _ _⟩
    exact ⟨T', h', r, ⟨J.eq.1, fun j hj => J.eq.2 j (fun e => hj (by rw [e]))⟩, J.k8, J.k9, J.k10⟩

/-- what a call of the statement writes, and the document's error -/
def opW (o : OpP) : List Nat := if o.kind = 0 then fixB o.size o.n else if o.kind = 1 then sizV o.n else if o.kind = 2 then sizV o.l.length ++ o.l else if o.kind = 3 then o.l else []
def opF (o : OpP) : Nat := if o.kind = 0 then fixE o.size o.n else 0
structure EnWr (E : Nat → Option Fn) : Prop where
  ep : EnPen E
  rf : EnRf E
  wr : E k_purserlaw01_write = some f_purserlaw01_write
  gr : E k_purserlaw01_great = some f_purserlaw01_great
  ln : E k_octet_Pen_Len = some f_octet_Pen_Len
structure NoWr (X : Orc) : Prop where
  fi : NoFix X
  si : NoSize X
  by_ : ∀ a h, X (.fn k_octet_Pen_Bytes) a h = none
  rw_ : ∀ a h, X (.fn k_octet_Pen_Raw) a h = none
  al : ∀ a h, X (.fn k_octet_Pen_All) a h = none
  ln : ∀ a h, X (.fn k_octet_Pen_Len) a h = none
  rf : NoRf X
  wr : ∀ a h, X (.fn k_purserlaw01_write) a h = none
  gr : ∀ a h, X (.fn k_purserlaw01_great) a h = none
theorem Wb.hi' {h : H} {w : List Nat} {a : Option (Nat × Nat)} {c : Option Nat} {e : Nat} (s : Wb h w a c e) (hi : Nat) (k : IntKind) (h1 : hi ≤ w.length) : ∃ c', slcV 1 none (some (.int k (hi : Int))) none (.slice a w.length c e) = some (.slice a hi c' 1) := by
  rcases s with ⟨rfl, rfl, rfl, rfl⟩ | ⟨_, q, md, rfl, rfl, rfl, _⟩
  · rw [List.length_nil] at h1
    obtain rfl : hi = 0 := by omega
    exact ⟨some 0, rfl⟩
  · exact ⟨none, slcV_hiA _ _ _ _ h1⟩
theorem Wb.nb {h : H} {w : List Nat} {a : Option (Nat × Nat)} {c : Option Nat} {e : Nat} (s : Wb h w a c e) {q o : Nat} (ea : a = some (q, o)) : q < h.next := s.lt ea
/-- three parts of a slice that is nobody else's: the first half, none, the second half -/
theorem half_ok {pn : Nat} {a0 : Option (Nat × Nat)} {h : H} {l : List Nat} {a : Option (Nat × Nat)} {c : Option Nat} {e : Nat} (wb : Wb h l a c e) (k : Nat) (c' : Option Nat) (ap : ∀ q o, a = some (q, o) → q ≠ pn ∧ a0 ≠ some (q, 0)) :
    ∀ q ∈ ([(a, c', 1, l.take k), (none, some 0, 0, []), (upA a k, subC c k, 1, l.drop k)] : List Pt), PartOk pn a0 h q := by
  intro q hq
  rcases List.mem_cons.1 hq with rfl | hq
  · exact ⟨(wb.src.take k).e1, fun _ b o eb => ap b o eb⟩
  · rcases List.mem_cons.1 hq with rfl | hq
    · exact ⟨.inl rfl, fun hne => absurd rfl hne⟩
    · rcases List.mem_singleton.1 hq with rfl
      refine ⟨(wb.src.drop k).e1, fun _ b o eb => ?_⟩
      cases a with
      | none => cases eb
      | some z =>
        obtain ⟨q, o'⟩ := z
        simp only [upA] at eb
        cases eb
        exact ap _ o' rfl

theorem write_go (e : EnWr E) (x : NoWr X) (M pn : Nat) (hM : 100100 < M) (o : OpP) (ok : o.ok) (hl : o.l.length ≤ 100000) (b : Option (Nat × Nat)) (w : List Nat) (hw : w.length ≤ 700000) (a0 : Option (Nat × Nat)) (h : H) (pe : PenH pn w a0 h) (po : PartOk pn a0 h (b, none, 1, o.l)) :
    ∃ h' a ab cb eb, callX E X (M + 40) (.fn k_purserlaw01_write) [.ptr (some (pn, 0)), .agg (opC o b)] h = some (.tup [.int .i64 (opF o : Nat), .slice ab (opW o).length cb eb, .int .i64 (opF o : Nat)], h') ∧ PenH pn (w ++ opW o) a h' ∧ Fr pn a0 h a h' ∧ SrcH h' ab eb (opW o) := by
  rw [x_cfn e.wr _ _ (Nat.le_of_ble_eq_true rfl) (x.wr _ _)]
  obtain ⟨kind, size, n, l⟩ := o
  have nl := ok.nl
  have bl := ok.bl
  simp only at nl hl po bl
  unfold opW opF opC
  simp only
  obtain ⟨hA, eA⟩ : ∃ hA, h.new (.cells [.int .i64 kind, .int .i64 size, .int .u64 (n : Int), .slice b l.length none 1] .rw) = hA := ⟨_, rfl⟩
  have kA : Kp h hA := by rw [← eA]; exact Kp.new _ _
  have nA : hA.next = h.next + 1 := by rw [← eA]; rfl
  have gA : hA.get h.next = some (.cells [.int .i64 kind, .int .i64 size, .int .u64 (n : Int), .slice b l.length none 1] .rw) := by rw [← eA]; exact h_new_same _ _
  obtain ⟨a1, c1, z1, h1, r1, nw1⟩ := twinv_go e.rf.tw x.rf.tw (M + 38) l (by omega) b none 1 hA (po.1.mono kA)
  have k01 := kA.trans nw1.kp
  have pe1 := pe.kp k01
  have n1 := nw1.kp.1
  have lpn := pe.lt
  have g1 : h1.get h.next = some (.cells [.int .i64 kind, .int .i64 size, .int .u64 (n : Int), .slice b l.length none 1] .rw) := by rw [nw1.kp.2 _ (by omega), gA]
  have a0lt : ∀ q o, a0 = some (q, o) → q < h.next := fun q o ea => pe.alt ea
  have apO : ∀ q o, a1 = some (q, o) → q ≠ pn ∧ a0 ≠ some (q, 0) := fun q o ea => ⟨by have := nw1.ge q o ea; omega, fun e0 => by have := nw1.ge q o ea; have := a0lt _ _ e0; omega⟩
  have ca : ∀ l : List V, (V.agg l).cells = l := fun _ => rfl
  have blt : l ≠ [] → ∀ q o, b = some (q, o) → q < h.next := fun hne q o ea => by
    rcases po.1 with s | ⟨bi, off, vs, m, e1, _, e3, _⟩
    · exact absurd s hne
    · simp only at e1; rw [e1] at ea; cases ea; exact e3
  -- what follows when the bytes are written
  have fin : ∀ (T : Tr V) (h3 : H) (a3 : Option (Nat × Nat)) (W : List Nat) (ab : Option (Nat × Nat)) (cb : Option Nat) (eb : Nat) (F : Nat), evO T (.t 7) = .slice a1 l.length c1 z1 → evO T (.t 8) = .int .i64 (F : Nat) → evO T (.t 9) = .slice ab W.length cb eb → evO T (.t 10) = .int .i64 (F : Nat) → evO T (.t 74) = .int .i64 (l.length : Int) → evO T (.t 75) = .int .i64 0 →
      PenH pn (w ++ W) a3 h3 → Fr pn a0 h1 a3 h3 → SrcH h3 ab eb W → (W ≠ [] → ∀ q z q' z', ab = some (q, z) → a1 = some (q', z') → q ≠ q') →
      ∃ h' a ab cb eb, fnEnd [.tmp 4, .tmp 5, .tmp 6] (bindE (blockE 1 (loopN (evC (callX E X (M + 39)) 90 (M + 39) none L_purserlaw01_write_0) (M + 39) ⟨T, [], h3⟩)) (evC (callX E X (M + 39)) 90 (M + 39) none R_purserlaw01_write_0)) = some (.tup [.int .i64 (F : Nat), .slice ab W.length cb eb, .int .i64 (F : Nat)], h') ∧ PenH pn (w ++ W) a h' ∧ Fr pn a0 h a h' ∧ SrcH h' ab eb W := by
    intro T h3 a3 W ab cb eb F t7 t8 t9 t10 t74 t75 p3 f3 s3 sep
    have wb3 : Wb h3 l a1 c1 z1 := nw1.wb.mono f3.nx (fun q hq ea => f3.fr q hq (apO _ _ ea).1 (apO _ _ ea).2)
    obtain ⟨T', h4, rr, ⟨nx4, f4⟩, k8, k9, k10⟩ := wrI_go (callX E X (M + 39)) (M + 39) T h3 l (by omega) (by omega) a1 c1 z1 wb3 t7 t74 t75
    rw [rr]
    have u8 := k8.trans t8
    have u9 := k9.trans t9
    have u10 := k10.trans t10
    have a3ne : ∀ q o, a1 = some (q, o) → a3 ≠ some (q, 0) := fun q o ea => f3.ne (nw1.wb.lt ea) (apO q o ea).2
    refine ⟨h4, a3, ab, cb, eb, ?_, p3.mono (by omega) (f4 _ (fun ea => (apO _ _ ea).1 rfl)) (fun q hq ea => f4 q (fun e1 => a3ne q 0 e1 ea)), ⟨by have := f3.nx; omega, fun j hj hp ha => ?_, ?_⟩, ?_⟩
    · obtain ⟨L, eL⟩ : ∃ L, W.length = L := ⟨_, rfl⟩
      rw [eL] at u9 ⊢
      simp (config := {maxSteps := 2000000}) (disch := first | omega | (simp only [List.length_cons, List.length_nil, List.length_append, List.length_drop]; omega)) only [R_purserlaw01_write_0, u8, u9, u10, ↓b_xor32, ↓b_and32, ↓b_or32, ↓u_not32, b_xor32, b_and32, b_or32, u_not32, w32ad, ↓x_conv, x_convV, ↓x_fieldAddr, x_fieldV, ↓s_nilchk, x_nilchk, Nat.zero_add, Nat.add_zero, Nat.mul_one, ↓l_loop, ↓l_succ, ↓l_normal, l_normal, l_exit, l_ret, l_iteN, ↓h_put_get, ↓h_new_get, ↓h_del_get, h_next_put, h_next_new, h_next_del, Nat.add_assoc, Nat.add_eq_left, Nat.left_eq_add, Nat.add_left_cancel_iff, ↓s_load, m_load, ↓m_load1, m_load1, ↓m_st, m_stE, m_storeI, m_storeE, w_zero, w_succ, ↓s_alloc, ↓x_idxA, ↓x_idxS, x_idxAE, x_idxSE, x_addrE, x_idx, x_lenS, ↓s_len, ↓x_buildS, x_buildE, ↓x_P0, ↓x_P1, x_fill0, x_filli, x_fills, x_fillb, c_int, List.length_cons, List.length_nil, List.cons_append, List.drop_succ_cons, List.drop_zero, List.drop_nil, List.nil_append, Int.reduceAdd, Int.reduceToNat, Int.reduceLT, Int.reduceLE, Nat.reduceAdd, Nat.reduceMul, Nat.reduceLeDiff, Int.reduceEq, Int.reduceSub, Int.cast_ofNat_Int, s_resc, s_consR, m_load4, m_store4, s_res0, ↓s_skip, ↓s_ops, ↓s_dops, ↓s_seq, ↓s_cond, ↓s_block, ↓s_exit, ↓s_ret, ↓s_scope, ↓s_nil, ↓s_op, ↓s_opg, ↓s_wanted', ↓s_wantV, s_wantV, s_wantV0, beq_true, beq_false, ↓s_bindS, s_bindS, ↓s_bindE, s_bindE, s_bindE_ret, s_bindE_exit, s_bindE_iteN, s_norm, ↓s_condV, s_condV, s_block_ret, s_block_normal, s_block_exit, s_block_iteN, ↓s_getp, ↓s_getp0, ↓s_get, s_get0, ↓s_con, ↓s_fn, ↓s_os0, ↓s_os1, ↓s_list0, ↓s_list1, ↓s_mov, ↓s_pick, ↓s_pickE, s_pickE, ↓s_bin, ↓s_un, ↓s_minmax, ↓s_call, ↓s_callv, ↓s_callV, ↓s_ext, s_same, b_eql, b_neq, b_lss, b_leq, b_gtr, b_geq, b_add, b_sub, b_mul, b_eqlb, b_neqb, b_fnil, b_fnil', b_fnil2, b_fnil2', u_neg, u_not, m_two, s_end, s_end', s_end_iteN, s_res0, s_res1, s_tup1, s_tup2, ↓iteN_true, ↓iteN_false, iteN_true, iteN_false, Nat.zero_add, List.nil_append, List.append_nil, Nat.reduceEqDiff, reduceIte, decide_true, decide_false, Bool.not_true, Bool.not_false, List.getElem?_cons_zero, List.getElem?_cons_succ, Bool.false_eq_true, if_true, if_false, beq_self_eq_true]
      try rfl
    · rw [f4 j (fun ea => by have := nw1.ge _ _ ea; omega), f3.fr j (by omega) hp ha, k01.2 _ hj]
    · rcases f3.ow with e' | ⟨q, e', hq⟩
      · exact .inl e'
      · exact .inr ⟨q, e', by omega⟩
    · rcases s3 with s | ⟨bi, off, vs, m, e1, e2, e3, e4, e5⟩
      · exact .inl s
      · by_cases hW : W = []
        · exact .inl hW
        · exact .inr ⟨bi, off, vs, m, e1, e2, by omega, by rw [f4 bi (fun ea => sep hW _ _ _ _ e1 ea rfl), e4], e5⟩
  -- the slice that was handed in is as it was
  have same : ∀ (h3 : H) (a3 : Option (Nat × Nat)), Fr pn a0 h1 a3 h3 → b2sV h3 (.slice a1 l.length c1 z1) = some (.str l) ∧ b2sV h3 (.slice b l.length none 1) = some (.str l) ∧ h3.get h.next = some (.cells [.int .i64 kind, .int .i64 size, .int .u64 (n : Int), .slice b l.length none 1] .rw) := by
    intro h3 a3 f3
    refine ⟨str_src (nw1.wb.mono f3.nx (fun q hq ea => f3.fr q hq (apO _ _ ea).1 (apO _ _ ea).2)).src bl c1, ?_, ?_⟩
    · exact str_src ((po.1.mono k01).fr f3 (po.2)) bl none
    · rw [f3.fr _ (by omega) (by omega) (fun ea => by have := a0lt _ _ ea; omega), g1]
  obtain ⟨R, eR⟩ : ∃ R, R_purserlaw01_write_0 = R := ⟨_, rfl⟩
  obtain ⟨Lo, eL⟩ : ∃ R, L_purserlaw01_write_0 = R := ⟨_, rfl⟩
  rw [eR, eL] at fin ⊢
  have c00 : decide ((0 : Int) = 0) = true := rfl
  by_cases k0 : kind = 0
  · subst k0
    rw [if_pos rfl, if_pos rfl]
    obtain ⟨h2, a2, r2, p2, f2⟩ := fixedv_go e.ep.fi x.fi (M + 35) pn size n (by omega) nl w (by omega) a0 h1 pe1
    obtain ⟨h3, ab, cb, eb, r3, nw3⟩ := rfixed_go e.rf x.rf (M + 19) size n nl h2
    have f13 := f2.trans (Fr.of_kp (pn := pn) (a := a2) nw3.kp)
    obtain ⟨s1, s2, g3⟩ := same h3 a2 f13
    obtain ⟨_, _, g2⟩ := same h2 a2 f2
    have fz := fun T => fin T h3 a2 (fixB size n) ab cb eb (fixE size n)
    generalize fixB size n = W at *
    generalize fixE size n = F at *
    replace r2 : callX E X (M + 39) (.fn k_octet_Pen_Fixed) [.ptr (some (pn, 0)), .int .i64 size, .int .u64 (n : Int)] h1 = some (.int .i64 (F : Nat), h2) := r2
    replace r3 : callX E X (M + 39) (.fn k_purserref01_Fixed) [.int .i64 size, .int .u64 (n : Int)] h2 = some (.tup [.slice ab W.length cb eb, .int .i64 (F : Nat)], h3) := r3
    obtain ⟨m, em⟩ : ∃ m, l.length = m := ⟨_, rfl⟩
    obtain ⟨L, eLW⟩ : ∃ L, W.length = L := ⟨_, rfl⟩
    rw [em] at eA r1 gA g1 g2 g3 s1 s2 fz ⊢
    rw [eLW] at r3 fz ⊢
    simp (config := {maxSteps := 2000000}) (disch := first | omega | (simp only [List.length_cons, List.length_nil, List.length_append, List.length_drop]; omega)) only [ca, eA, gA, r1, g1, r2, g2, r3, g3, s1, s2, c00, b_sneq, ↓ns_b2s, ↓s_box, ↓s_len, x_lenS, ↓b_xor32, ↓b_and32, ↓b_or32, ↓u_not32, b_xor32, b_and32, b_or32, u_not32, w32ad, ↓x_conv, x_convV, ↓x_fieldAddr, x_fieldV, ↓s_nilchk, x_nilchk, Nat.zero_add, Nat.add_zero, Nat.mul_one, ↓l_loop, ↓l_succ, ↓l_normal, l_normal, l_exit, l_ret, l_iteN, ↓h_put_get, ↓h_new_get, ↓h_del_get, h_next_put, h_next_new, h_next_del, Nat.add_assoc, Nat.add_eq_left, Nat.left_eq_add, Nat.add_left_cancel_iff, ↓s_load, m_load, ↓m_load1, m_load1, ↓m_st, m_stE, m_storeI, m_storeE, w_zero, w_succ, ↓s_alloc, ↓x_idxA, ↓x_idxS, x_idxAE, x_idxSE, x_addrE, x_idx, x_lenS, ↓s_len, ↓x_buildS, x_buildE, ↓x_P0, ↓x_P1, x_fill0, x_filli, x_fills, x_fillb, c_int, List.length_cons, List.length_nil, List.cons_append, List.drop_succ_cons, List.drop_zero, List.drop_nil, List.nil_append, Int.reduceAdd, Int.reduceToNat, Int.reduceLT, Int.reduceLE, Nat.reduceAdd, Nat.reduceMul, Nat.reduceLeDiff, Int.reduceEq, Int.reduceSub, Int.cast_ofNat_Int, s_resc, s_consR, m_load4, m_store4, s_res0, ↓s_skip, ↓s_ops, ↓s_dops, ↓s_seq, ↓s_cond, ↓s_block, ↓s_exit, ↓s_ret, ↓s_scope, ↓s_nil, ↓s_op, ↓s_opg, ↓s_wanted', ↓s_wantV, s_wantV, s_wantV0, beq_true, beq_false, ↓s_bindS, s_bindS, ↓s_bindE, s_bindE, s_bindE_ret, s_bindE_exit, s_bindE_iteN, s_norm, ↓s_condV, s_condV, s_block_ret, s_block_normal, s_block_exit, s_block_iteN, ↓s_getp, ↓s_getp0, ↓s_get, s_get0, ↓s_con, ↓s_fn, ↓s_os0, ↓s_os1, ↓s_list0, ↓s_list1, ↓s_mov, ↓s_pick, ↓s_pickE, s_pickE, ↓s_bin, ↓s_un, ↓s_minmax, ↓s_call, ↓s_callv, ↓s_callV, ↓s_ext, s_same, b_eql, b_neq, b_lss, b_leq, b_gtr, b_geq, b_add, b_sub, b_mul, b_eqlb, b_neqb, b_fnil, b_fnil', b_fnil2, b_fnil2', u_neg, u_not, m_two, s_end, s_end', s_end_iteN, s_res0, s_res1, s_tup1, s_tup2, ↓iteN_true, ↓iteN_false, iteN_true, iteN_false, Nat.zero_add, List.nil_append, List.append_nil, Nat.reduceEqDiff, reduceIte, decide_true, decide_false, Bool.not_true, Bool.not_false, List.getElem?_cons_zero, List.getElem?_cons_succ, Bool.false_eq_true, if_true, if_false, beq_self_eq_true]
    exact fz _ (by (simp only [s_getp, s_getp0, Nat.reduceEqDiff, decide_false, decide_true, iteN_false, iteN_true, eL]; try rfl)) (by (simp only [s_getp, s_getp0, Nat.reduceEqDiff, decide_false, decide_true, iteN_false, iteN_true, eL]; try rfl)) (by (simp only [s_getp, s_getp0, Nat.reduceEqDiff, decide_false, decide_true, iteN_false, iteN_true, eL]; try rfl)) (by (simp only [s_getp, s_getp0, Nat.reduceEqDiff, decide_false, decide_true, iteN_false, iteN_true, eL]; try rfl)) (by (simp only [s_getp, s_getp0, Nat.reduceEqDiff, decide_false, decide_true, iteN_false, iteN_true, eL]; try rfl)) (by (simp only [s_getp, s_getp0, Nat.reduceEqDiff, decide_false, decide_true, iteN_false, iteN_true, eL]; try rfl)) (p2.kp nw3.kp) f13 nw3.wb.src (fun _ q z q' z' e1 e2 => by have := nw3.ge _ _ e1; have := nw1.wb.lt e2; have := f2.nx; omega)
  · have ck0 : decide (kind = 0) = false := decide_eq_false k0
    rw [if_neg k0, if_neg k0]
    by_cases k1 : kind = 1
    · subst k1
      rw [if_pos rfl]
      obtain ⟨h2, a2, r2, p2, f2⟩ := sizev_go e.ep.si x.si (M + 34) pn n (by omega) nl w (by omega) a0 h1 pe1
      obtain ⟨h3, ab, cb, eb, r3, k3, sz3, ge3⟩ := rsize_go e.rf x.rf (M + 18) n nl h2
      have f13 := f2.trans (Fr.of_kp (pn := pn) (a := a2) k3)
      obtain ⟨s1, s2, g3⟩ := same h3 a2 f13
      obtain ⟨_, _, g2⟩ := same h2 a2 f2
      have s3 := sz3.src
      have fz := fun T => fin T h3 a2 (sizV n) ab cb eb 0
      generalize sizV n = W at *
      have cc : decide ((1 : Int) = 1) = true := rfl
      replace r2 : callX E X (M + 39) (.fn k_octet_Pen_Size) [.ptr (some (pn, 0)), .int .u64 (n : Int)] h1 = some (.int .i64 0, h2) := r2
      replace r3 : callX E X (M + 39) (.fn k_purserref01_Size) [.int .u64 (n : Int)] h2 = some (.slice ab W.length cb eb, h3) := r3
      obtain ⟨m, em⟩ : ∃ m, l.length = m := ⟨_, rfl⟩
      obtain ⟨L, eLW⟩ : ∃ L, W.length = L := ⟨_, rfl⟩
      rw [em] at eA r1 gA g1 g2 g3 s1 s2 fz ⊢
      rw [eLW] at r3 fz ⊢
      simp (config := {maxSteps := 2000000}) (disch := first | omega | (simp only [List.length_cons, List.length_nil, List.length_append, List.length_drop]; omega)) only [ca, eA, gA, r1, g1, r2, g2, r3, g3, s1, s2, ck0, cc, b_sneq, ↓ns_b2s, ↓s_box, ↓s_len, x_lenS, ↓b_xor32, ↓b_and32, ↓b_or32, ↓u_not32, b_xor32, b_and32, b_or32, u_not32, w32ad, ↓x_conv, x_convV, ↓x_fieldAddr, x_fieldV, ↓s_nilchk, x_nilchk, Nat.zero_add, Nat.add_zero, Nat.mul_one, ↓l_loop, ↓l_succ, ↓l_normal, l_normal, l_exit, l_ret, l_iteN, ↓h_put_get, ↓h_new_get, ↓h_del_get, h_next_put, h_next_new, h_next_del, Nat.add_assoc, Nat.add_eq_left, Nat.left_eq_add, Nat.add_left_cancel_iff, ↓s_load, m_load, ↓m_load1, m_load1, ↓m_st, m_stE, m_storeI, m_storeE, w_zero, w_succ, ↓s_alloc, ↓x_idxA, ↓x_idxS, x_idxAE, x_idxSE, x_addrE, x_idx, x_lenS, ↓s_len, ↓x_buildS, x_buildE, ↓x_P0, ↓x_P1, x_fill0, x_filli, x_fills, x_fillb, c_int, List.length_cons, List.length_nil, List.cons_append, List.drop_succ_cons, List.drop_zero, List.drop_nil, List.nil_append, Int.reduceAdd, Int.reduceToNat, Int.reduceLT, Int.reduceLE, Nat.reduceAdd, Nat.reduceMul, Nat.reduceLeDiff, Int.reduceEq, Int.reduceSub, Int.cast_ofNat_Int, s_resc, s_consR, m_load4, m_store4, s_res0, ↓s_skip, ↓s_ops, ↓s_dops, ↓s_seq, ↓s_cond, ↓s_block, ↓s_exit, ↓s_ret, ↓s_scope, ↓s_nil, ↓s_op, ↓s_opg, ↓s_wanted', ↓s_wantV, s_wantV, s_wantV0, beq_true, beq_false, ↓s_bindS, s_bindS, ↓s_bindE, s_bindE, s_bindE_ret, s_bindE_exit, s_bindE_iteN, s_norm, ↓s_condV, s_condV, s_block_ret, s_block_normal, s_block_exit, s_block_iteN, ↓s_getp, ↓s_getp0, ↓s_get, s_get0, ↓s_con, ↓s_fn, ↓s_os0, ↓s_os1, ↓s_list0, ↓s_list1, ↓s_mov, ↓s_pick, ↓s_pickE, s_pickE, ↓s_bin, ↓s_un, ↓s_minmax, ↓s_call, ↓s_callv, ↓s_callV, ↓s_ext, s_same, b_eql, b_neq, b_lss, b_leq, b_gtr, b_geq, b_add, b_sub, b_mul, b_eqlb, b_neqb, b_fnil, b_fnil', b_fnil2, b_fnil2', u_neg, u_not, m_two, s_end, s_end', s_end_iteN, s_res0, s_res1, s_tup1, s_tup2, ↓iteN_true, ↓iteN_false, iteN_true, iteN_false, Nat.zero_add, List.nil_append, List.append_nil, Nat.reduceEqDiff, reduceIte, decide_true, decide_false, Bool.not_true, Bool.not_false, List.getElem?_cons_zero, List.getElem?_cons_succ, Bool.false_eq_true, if_true, if_false, beq_self_eq_true]
      exact fz _ (by (simp only [s_getp, s_getp0, Nat.reduceEqDiff, decide_false, decide_true, iteN_false, iteN_true, eL]; try rfl)) (by (simp only [s_getp, s_getp0, Nat.reduceEqDiff, decide_false, decide_true, iteN_false, iteN_true, eL]; try rfl)) (by (simp only [s_getp, s_getp0, Nat.reduceEqDiff, decide_false, decide_true, iteN_false, iteN_true, eL]; try rfl)) (by (simp only [s_getp, s_getp0, Nat.reduceEqDiff, decide_false, decide_true, iteN_false, iteN_true, eL]; try rfl)) (by (simp only [s_getp, s_getp0, Nat.reduceEqDiff, decide_false, decide_true, iteN_false, iteN_true, eL]; try rfl)) (by (simp only [s_getp, s_getp0, Nat.reduceEqDiff, decide_false, decide_true, iteN_false, iteN_true, eL]; try rfl)) (p2.kp k3) f13 s3 (fun _ q z q' z' e1 e2 => by have := ge3 _ _ e1; have := nw1.wb.lt e2; have := f2.nx; omega)
    · have ck1 : decide (kind = 1) = false := decide_eq_false k1
      rw [if_neg k1]
      by_cases k2 : kind = 2
      · subst k2
        rw [if_pos rfl]
        obtain ⟨h2, a2, r2, p2, f2⟩ := bytesv_go e.ep.si e.ep.by_ e.ep.rw_ x.si x.by_ x.rw_ (M + 33) pn (by omega) w l (by omega) (by omega) a1 c1 z1 a0 h1 pe1 ⟨nw1.wb.src, fun _ q o ea => apO q o ea⟩
        obtain ⟨h3, ab, cb, eb, r3, k3, s3, ge3⟩ := rbytes_go e.rf x.rf (M + 17) l (by omega) b none 1 h2 ((po.1.mono k01).fr f2 po.2)
        have f13 := f2.trans (Fr.of_kp (pn := pn) (a := a2) k3)
        obtain ⟨s1, s2, g3⟩ := same h3 a2 f13
        obtain ⟨_, _, g2⟩ := same h2 a2 f2
        have fz := fun T => fin T h3 a2 (sizV l.length ++ l) ab cb eb 0
        have cc : decide ((2 : Int) = 2) = true := rfl
        generalize sizV l.length ++ l = W at *
        replace r2 : callX E X (M + 39) (.fn k_octet_Pen_Bytes) [.ptr (some (pn, 0)), .slice a1 l.length c1 z1] h1 = some (.int .i64 0, h2) := r2
        replace r3 : callX E X (M + 39) (.fn k_purserref01_Bytes) [.slice b l.length none 1] h2 = some (.slice ab W.length cb eb, h3) := r3
        obtain ⟨m, em⟩ : ∃ m, l.length = m := ⟨_, rfl⟩
        obtain ⟨L, eLW⟩ : ∃ L, W.length = L := ⟨_, rfl⟩
        rw [em] at eA r1 gA g1 g2 g3 s1 s2 fz r2 r3 ⊢
        rw [eLW] at r3 fz ⊢
        simp (config := {maxSteps := 2000000}) (disch := first | omega | (simp only [List.length_cons, List.length_nil, List.length_append, List.length_drop]; omega)) only [ca, eA, gA, r1, g1, r2, g2, r3, g3, s1, s2, ck0, ck1, cc, b_sneq, ↓ns_b2s, ↓s_box, ↓s_len, x_lenS, ↓b_xor32, ↓b_and32, ↓b_or32, ↓u_not32, b_xor32, b_and32, b_or32, u_not32, w32ad, ↓x_conv, x_convV, ↓x_fieldAddr, x_fieldV, ↓s_nilchk, x_nilchk, Nat.zero_add, Nat.add_zero, Nat.mul_one, ↓l_loop, ↓l_succ, ↓l_normal, l_normal, l_exit, l_ret, l_iteN, ↓h_put_get, ↓h_new_get, ↓h_del_get, h_next_put, h_next_new, h_next_del, Nat.add_assoc, Nat.add_eq_left, Nat.left_eq_add, Nat.add_left_cancel_iff, ↓s_load, m_load, ↓m_load1, m_load1, ↓m_st, m_stE, m_storeI, m_storeE, w_zero, w_succ, ↓s_alloc, ↓x_idxA, ↓x_idxS, x_idxAE, x_idxSE, x_addrE, x_idx, x_lenS, ↓s_len, ↓x_buildS, x_buildE, ↓x_P0, ↓x_P1, x_fill0, x_filli, x_fills, x_fillb, c_int, List.length_cons, List.length_nil, List.cons_append, List.drop_succ_cons, List.drop_zero, List.drop_nil, List.nil_append, Int.reduceAdd, Int.reduceToNat, Int.reduceLT, Int.reduceLE, Nat.reduceAdd, Nat.reduceMul, Nat.reduceLeDiff, Int.reduceEq, Int.reduceSub, Int.cast_ofNat_Int, s_resc, s_consR, m_load4, m_store4, s_res0, ↓s_skip, ↓s_ops, ↓s_dops, ↓s_seq, ↓s_cond, ↓s_block, ↓s_exit, ↓s_ret, ↓s_scope, ↓s_nil, ↓s_op, ↓s_opg, ↓s_wanted', ↓s_wantV, s_wantV, s_wantV0, beq_true, beq_false, ↓s_bindS, s_bindS, ↓s_bindE, s_bindE, s_bindE_ret, s_bindE_exit, s_bindE_iteN, s_norm, ↓s_condV, s_condV, s_block_ret, s_block_normal, s_block_exit, s_block_iteN, ↓s_getp, ↓s_getp0, ↓s_get, s_get0, ↓s_con, ↓s_fn, ↓s_os0, ↓s_os1, ↓s_list0, ↓s_list1, ↓s_mov, ↓s_pick, ↓s_pickE, s_pickE, ↓s_bin, ↓s_un, ↓s_minmax, ↓s_call, ↓s_callv, ↓s_callV, ↓s_ext, s_same, b_eql, b_neq, b_lss, b_leq, b_gtr, b_geq, b_add, b_sub, b_mul, b_eqlb, b_neqb, b_fnil, b_fnil', b_fnil2, b_fnil2', u_neg, u_not, m_two, s_end, s_end', s_end_iteN, s_res0, s_res1, s_tup1, s_tup2, ↓iteN_true, ↓iteN_false, iteN_true, iteN_false, Nat.zero_add, List.nil_append, List.append_nil, Nat.reduceEqDiff, reduceIte, decide_true, decide_false, Bool.not_true, Bool.not_false, List.getElem?_cons_zero, List.getElem?_cons_succ, Bool.false_eq_true, if_true, if_false, beq_self_eq_true]
        exact fz _ (by (simp only [s_getp, s_getp0, Nat.reduceEqDiff, decide_false, decide_true, iteN_false, iteN_true, eL]; try rfl)) (by (simp only [s_getp, s_getp0, Nat.reduceEqDiff, decide_false, decide_true, iteN_false, iteN_true, eL]; try rfl)) (by (simp only [s_getp, s_getp0, Nat.reduceEqDiff, decide_false, decide_true, iteN_false, iteN_true, eL]; try rfl)) (by (simp only [s_getp, s_getp0, Nat.reduceEqDiff, decide_false, decide_true, iteN_false, iteN_true, eL]; try rfl)) (by (simp only [s_getp, s_getp0, Nat.reduceEqDiff, decide_false, decide_true, iteN_false, iteN_true, eL]; try rfl)) (by (simp only [s_getp, s_getp0, Nat.reduceEqDiff, decide_false, decide_true, iteN_false, iteN_true, eL]; try rfl)) (p2.kp k3) f13 s3 (fun _ q z q' z' e1 e2 => by have := ge3 _ _ e1; have := nw1.wb.lt e2; have := f2.nx; omega)
      · have ck2 : decide (kind = 2) = false := decide_eq_false k2
        rw [if_neg k2]
        by_cases k3 : kind = 3
        · subst k3
          rw [if_pos rfl]
          obtain ⟨hf, ehf⟩ : ∃ k, l.length / 2 = k := ⟨_, rfl⟩
          have qh : ∀ ee hh, binV .quo ee hh (.int .i64 (l.length : Int)) (.int .i64 2) = some (.int .i64 (hf : Int)) := fun ee hh => by
            rw [b_quo _ _ _ _ _ (by omega), show Int.tdiv (l.length : Int) 2 = ((l.length / 2 : Nat) : Int) from rfl, wr_i64 (by omega), ehf]
          obtain ⟨cS, sv1⟩ := nw1.wb.hi' hf .i64 (by omega)
          have sv2 := nw1.wb.slo hf .i64 (by omega)
          obtain ⟨hX, eX⟩ : ∃ hX, (bump 1 h1).put h1.next (.cells [.slice a1 hf cS 1, .slice none 0 (some 0) 0, .slice (upA a1 hf) (l.length - hf) (subC c1 hf) 1] .rw) = hX := ⟨_, rfl⟩
          have nX : hX.next = h1.next + 1 := by rw [← eX]; rfl
          have kX : Kp h1 hX := ⟨by omega, fun j hj => by rw [← eX, h_put_ne _ _ (by omega), s_bump_get]⟩
          have gX : hX.get h1.next = some (.cells [.slice a1 hf cS 1, .slice none 0 (some 0) 0, .slice (upA a1 hf) (l.length - hf) (subC c1 hf) 1] .rw) := by rw [← eX, h_put_same]
          have lt : (l.take hf).length = hf := by rw [List.length_take]; omega
          have ldr : (l.drop hf).length = l.length - hf := List.length_drop
          obtain ⟨h2, a2, r2, p2, f2⟩ := rawv_go e.ep.rw_ x.rw_ (M + 38) pn h1.next [(a1, cS, 1, l.take hf), (none, some 0, 0, []), (upA a1 hf, subC c1 hf, 1, l.drop hf)] (some 3) (by show 3 < _; omega) (by show 3 < _; omega) w a0 (by show w.length + (l.take hf ++ ([] ++ (l.drop hf ++ []))).length ≤ _; rw [List.nil_append, List.append_nil, List.take_append_drop]; omega) .rw hX (pe1.kp kX) (by omega) (by omega) (fun ea => by have := a0lt _ _ ea; omega)
            (by rw [gX]; show _ = some (Blk.cells [V.slice a1 (l.take hf).length cS 1, V.slice none 0 (some 0) 0, V.slice (upA a1 hf) (l.drop hf).length (subC c1 hf) 1] Md.rw); rw [lt, ldr])
            (half_ok (nw1.wb.kp kX) hf cS apO)
          have e3 : flV [((a1, cS, 1, l.take hf) : Pt), (none, some 0, 0, []), (upA a1 hf, subC c1 hf, 1, l.drop hf)] = l := by
            show l.take hf ++ ([] ++ (l.drop hf ++ [])) = l
            rw [List.nil_append, List.append_nil, List.take_append_drop]
          rw [e3] at p2
          have f12 := (Fr.of_kp (pn := pn) (a := a0) kX).trans f2
          obtain ⟨s1, s2, g2⟩ := same h2 a2 f12
          have sb2 := (po.1.mono k01).fr f12 po.2
          have fz := fun T => fin T h2 a2 l b none 1 0
          have cc : decide ((3 : Int) = 3) = true := rfl
          obtain ⟨m, em⟩ : ∃ m, l.length = m := ⟨_, rfl⟩
          rw [em] at eA r1 gA g1 g2 s1 s2 fz qh sv1 sv2 eX ⊢
          replace r2 : callX E X (M + 39) (.fn k_octet_Pen_Raw) [.ptr (some (pn, 0)), .slice (some (h1.next, 0)) 3 (some 3) 1] hX = some (.int .i64 0, h2) := r2
          generalize m - hf = mh at *
          simp (config := {maxSteps := 2000000}) (disch := first | omega | (simp only [List.length_cons, List.length_nil, List.length_append, List.length_drop]; omega)) only [ca, eA, gA, r1, g1, qh, sv1, sv2, eX, r2, g2, s1, s2, ck0, ck1, ck2, cc, b_sneq, ↓ns_b2s, ↓s_box, ↓s_len, x_lenS, ↓x_slcS, x_M0, x_M1, ↓s_dBuildS, s_dbE, ↓b_xor32, ↓b_and32, ↓b_or32, ↓u_not32, b_xor32, b_and32, b_or32, u_not32, w32ad, ↓x_conv, x_convV, ↓x_fieldAddr, x_fieldV, ↓s_nilchk, x_nilchk, Nat.zero_add, Nat.add_zero, Nat.mul_one, ↓s_evD, ↓s_dnil, ↓s_dL, ↓s_dLg, ↓s_dR, ↓s_dRg, ↓s_dRj, ↓s_dRjg, ↓s_dB, ↓s_dBg, ↓s_dAlloc, ↓s_bindD, s_bindD, s_finD, s_finDx, s_addP0, s_addP1, s_addB, s_lookP, ↓s_bump0, ↓s_bump_get, s_bump_next, s_ok0, ↓s_ok1, s_okR0, ↓s_okR1, ↓s_okE, s_okE, s_okE1, s_nth0, s_nthS, Nat.add_zero, Bool.and_self, Bool.and_true, Bool.true_and, ↓l_loop, ↓l_succ, ↓l_normal, l_normal, l_exit, l_ret, l_iteN, ↓h_put_get, ↓h_new_get, ↓h_del_get, h_next_put, h_next_new, h_next_del, Nat.add_assoc, Nat.add_eq_left, Nat.left_eq_add, Nat.add_left_cancel_iff, ↓s_load, m_load, ↓m_load1, m_load1, ↓m_st, m_stE, m_storeI, m_storeE, w_zero, w_succ, ↓s_alloc, ↓x_idxA, ↓x_idxS, x_idxAE, x_idxSE, x_addrE, x_idx, x_lenS, ↓s_len, ↓x_buildS, x_buildE, ↓x_P0, ↓x_P1, x_fill0, x_filli, x_fills, x_fillb, c_int, List.length_cons, List.length_nil, List.cons_append, List.drop_succ_cons, List.drop_zero, List.drop_nil, List.nil_append, Int.reduceAdd, Int.reduceToNat, Int.reduceLT, Int.reduceLE, Nat.reduceAdd, Nat.reduceMul, Nat.reduceLeDiff, Int.reduceEq, Int.reduceSub, Int.cast_ofNat_Int, s_resc, s_consR, m_load4, m_store4, s_res0, ↓s_skip, ↓s_ops, ↓s_dops, ↓s_seq, ↓s_cond, ↓s_block, ↓s_exit, ↓s_ret, ↓s_scope, ↓s_nil, ↓s_op, ↓s_opg, ↓s_wanted', ↓s_wantV, s_wantV, s_wantV0, beq_true, beq_false, ↓s_bindS, s_bindS, ↓s_bindE, s_bindE, s_bindE_ret, s_bindE_exit, s_bindE_iteN, s_norm, ↓s_condV, s_condV, s_block_ret, s_block_normal, s_block_exit, s_block_iteN, ↓s_getp, ↓s_getp0, ↓s_get, s_get0, ↓s_con, ↓s_fn, ↓s_os0, ↓s_os1, ↓s_list0, ↓s_list1, ↓s_mov, ↓s_pick, ↓s_pickE, s_pickE, ↓s_bin, ↓s_un, ↓s_minmax, ↓s_call, ↓s_callv, ↓s_callV, ↓s_ext, s_same, b_eql, b_neq, b_lss, b_leq, b_gtr, b_geq, b_add, b_sub, b_mul, b_eqlb, b_neqb, b_fnil, b_fnil', b_fnil2, b_fnil2', u_neg, u_not, m_two, s_end, s_end', s_end_iteN, s_res0, s_res1, s_tup1, s_tup2, ↓iteN_true, ↓iteN_false, iteN_true, iteN_false, Nat.zero_add, List.nil_append, List.append_nil, Nat.reduceEqDiff, reduceIte, decide_true, decide_false, Bool.not_true, Bool.not_false, List.getElem?_cons_zero, List.getElem?_cons_succ, Bool.false_eq_true, if_true, if_false, beq_self_eq_true]
          exact fz _ (by (simp only [s_getp, s_getp0, Nat.reduceEqDiff, decide_false, decide_true, iteN_false, iteN_true, eL]; try rfl)) (by (simp only [s_getp, s_getp0, Nat.reduceEqDiff, decide_false, decide_true, iteN_false, iteN_true, eL]; try rfl)) (by (simp only [s_getp, s_getp0, Nat.reduceEqDiff, decide_false, decide_true, iteN_false, iteN_true, eL]; try rfl)) (by (simp only [s_getp, s_getp0, Nat.reduceEqDiff, decide_false, decide_true, iteN_false, iteN_true, eL]; try rfl)) (by (simp only [s_getp, s_getp0, Nat.reduceEqDiff, decide_false, decide_true, iteN_false, iteN_true, eL]; try rfl)) (by (simp only [s_getp, s_getp0, Nat.reduceEqDiff, decide_false, decide_true, iteN_false, iteN_true, eL]; try rfl)) p2 f12 sb2 (fun hne q z q' z' e1 e2 => by have := blt hne _ _ e1; have := nw1.ge _ _ e2; omega)
        · have ck3 : decide (kind = 3) = false := decide_eq_false k3
          rw [if_neg k3]
          obtain ⟨s1, s2, g2⟩ := same h1 a0 (.refl _ _ _)
          have fz := fun T => fin T h1 a0 [] none (some 0) 0 0
          obtain ⟨m, em⟩ : ∃ m, l.length = m := ⟨_, rfl⟩
          rw [em] at eA r1 gA g1 g2 s1 s2 fz ⊢
          simp only [List.length_nil, List.append_nil] at fz ⊢
          replace r1 : callX E X (M + 39) (.fn k_purserref01_Twin) [.slice b m none 1] hA = some (.slice a1 m c1 z1, h1) := r1
          clear fin same
          generalize M + 39 = K at *
          simp (config := {maxSteps := 2000000}) (disch := first | omega | (simp only [List.length_cons, List.length_nil, List.length_append, List.length_drop]; omega)) only [ca, eA, gA, r1, g1, s1, s2, ck0, ck1, ck2, ck3, b_sneq, ↓ns_b2s, ↓s_box, ↓s_len, x_lenS, ↓b_xor32, ↓b_and32, ↓b_or32, ↓u_not32, b_xor32, b_and32, b_or32, u_not32, w32ad, ↓x_conv, x_convV, ↓x_fieldAddr, x_fieldV, ↓s_nilchk, x_nilchk, Nat.zero_add, Nat.add_zero, Nat.mul_one, ↓l_loop, ↓l_succ, ↓l_normal, l_normal, l_exit, l_ret, l_iteN, ↓h_put_get, ↓h_new_get, ↓h_del_get, h_next_put, h_next_new, h_next_del, Nat.add_assoc, Nat.add_eq_left, Nat.left_eq_add, Nat.add_left_cancel_iff, ↓s_load, m_load, ↓m_load1, m_load1, ↓m_st, m_stE, m_storeI, m_storeE, w_zero, w_succ, ↓s_alloc, ↓x_idxA, ↓x_idxS, x_idxAE, x_idxSE, x_addrE, x_idx, x_lenS, ↓s_len, ↓x_buildS, x_buildE, ↓x_P0, ↓x_P1, x_fill0, x_filli, x_fills, x_fillb, c_int, List.length_cons, List.length_nil, List.cons_append, List.drop_succ_cons, List.drop_zero, List.drop_nil, List.nil_append, Int.reduceAdd, Int.reduceToNat, Int.reduceLT, Int.reduceLE, Nat.reduceAdd, Nat.reduceMul, Nat.reduceLeDiff, Int.reduceEq, Int.reduceSub, Int.cast_ofNat_Int, s_resc, s_consR, m_load4, m_store4, s_res0, ↓s_skip, ↓s_ops, ↓s_dops, ↓s_seq, ↓s_cond, ↓s_block, ↓s_exit, ↓s_ret, ↓s_scope, ↓s_nil, ↓s_op, ↓s_opg, ↓s_wanted', ↓s_wantV, s_wantV, s_wantV0, beq_true, beq_false, ↓s_bindS, s_bindS, ↓s_bindE, s_bindE, s_bindE_ret, s_bindE_exit, s_bindE_iteN, s_norm, ↓s_condV, s_condV, s_block_ret, s_block_normal, s_block_exit, s_block_iteN, ↓s_getp, ↓s_getp0, ↓s_get, s_get0, ↓s_con, ↓s_fn, ↓s_os0, ↓s_os1, ↓s_list0, ↓s_list1, ↓s_mov, ↓s_pick, ↓s_pickE, s_pickE, ↓s_bin, ↓s_un, ↓s_minmax, ↓s_call, ↓s_callv, ↓s_callV, ↓s_ext, s_same, b_eql, b_neq, b_lss, b_leq, b_gtr, b_geq, b_add, b_sub, b_mul, b_eqlb, b_neqb, b_fnil, b_fnil', b_fnil2, b_fnil2', u_neg, u_not, m_two, s_end, s_end', s_end_iteN, s_res0, s_res1, s_tup1, s_tup2, ↓iteN_true, ↓iteN_false, iteN_true, iteN_false, Nat.zero_add, List.nil_append, List.append_nil, Nat.reduceEqDiff, reduceIte, decide_true, decide_false, Bool.not_true, Bool.not_false, List.getElem?_cons_zero, List.getElem?_cons_succ, Bool.false_eq_true, if_true, if_false, beq_self_eq_true]
          exact fz _ (by (simp only [s_getp, s_getp0, Nat.reduceEqDiff, decide_false, decide_true, iteN_false, iteN_true, eL]; try rfl)) (by (simp only [s_getp, s_getp0, Nat.reduceEqDiff, decide_false, decide_true, iteN_false, iteN_true, eL]; try rfl)) (by (simp only [s_getp, s_getp0, Nat.reduceEqDiff, decide_false, decide_true, iteN_false, iteN_true, eL]; try rfl)) (by (simp only [s_getp, s_getp0, Nat.reduceEqDiff, decide_false, decide_true, iteN_false, iteN_true, eL]; try rfl)) (by (simp only [s_getp, s_getp0, Nat.reduceEqDiff, decide_false, decide_true, iteN_false, iteN_true, eL]; try rfl)) (by (simp only [s_getp, s_getp0, Nat.reduceEqDiff, decide_false, decide_true, iteN_false, iteN_true, eL]; try rfl)) pe1 (.refl _ _ _) (.inl rfl) (fun hne => absurd rfl hne)
end Go.Eng
namespace Go.Eng
open Go
variable {E : Nat → Option Fn} {X : Orc}
set_option linter.unusedSimpArgs false
set_option linter.unusedVariables false

structure owII (T0 : Tr V) (q len : Nat) (md : Md) (h0 : H) (i : Nat) (T : Tr V) (h : H) : Prop where
  il : i ≤ len
  ts : evO T (.t 11) = evO T0 (.t 11)
  tn : evO T (.t 48) = .int .i64 (len : Int)
  ti : evO T (.t 49) = .int .i64 (i : Int)
  k1 : evO T (.t 1) = evO T0 (.t 1)
  k5 : evO T (.t 5) = evO T0 (.t 5)
  k6 : evO T (.t 6) = evO T0 (.t 6)
  k12 : evO T (.t 12) = evO T0 (.t 12)
  g : ∃ cur, h.get q = some (.cells (ofI .u8 cur) md) ∧ cur.length = len
  eq : Eqx q h0 h
/-- every byte of a slice is one greater behind it: nothing else is another one -/
theorem owI_go (Q : Orc) (m : Nat) (T0 : Tr V) (h0 : H) (w : List Nat) (hw : w.length ≤ 1000000) (hm : w.length < m) (a : Option (Nat × Nat)) (c : Option Nat) (e : Nat) (wb : Wb h0 w a c e) (ts : evO T0 (.t 11) = .slice a w.length c e) (tn : evO T0 (.t 48) = .int .i64 (w.length : Int)) (ti : evO T0 (.t 49) = .int .i64 0) :
    ∃ T' h', loopN (evC Q 77 m none L_purserlaw01_OctetWrites_1) m ⟨T0, [], h0⟩ = some (.exit 2, ⟨T', [], h'⟩) ∧ (h'.next = h0.next ∧ ∀ j, a ≠ some (j, 0) → h'.get j = h0.get j) ∧ evO T' (.t 1) = evO T0 (.t 1) ∧ evO T' (.t 5) = evO T0 (.t 5) ∧ evO T' (.t 6) = evO T0 (.t 6) ∧ evO T' (.t 12) = evO T0 (.t 12) := by
  rcases wb with ⟨rfl, rfl, rfl, rfl⟩ | ⟨hp, q, md, rfl, rfl, rfl, g, hmd, hq⟩
  · obtain ⟨m, rfl⟩ : ∃ k, m = k + 1 := ⟨m - 1, by omega⟩
    rw [l_succ]
    have c0 : decide ((0 : Int) < ((0 : Nat) : Int)) = false := rfl
    have c1 : decide ((0 : Int) < 0) = false := rfl
    rw [List.length_nil] at tn
    refine ⟨_, h0, by
      simp (config := {maxSteps := 2000000}) (disch := first | omega | (simp only [List.length_cons, List.length_nil, List.length_append, List.length_drop]; omega)) only [L_purserlaw01_OctetWrites_1, tn, ti, c0, c1, ↓b_xor32, ↓b_and32, ↓b_or32, ↓u_not32, b_xor32, b_and32, b_or32, u_not32, w32ad, ↓x_conv, x_convV, ↓x_fieldAddr, x_fieldV, ↓s_nilchk, x_nilchk, Nat.zero_add, Nat.add_zero, Nat.mul_one, ↓l_loop, ↓l_succ, ↓l_normal, l_normal, l_exit, l_ret, l_iteN, ↓h_put_get, ↓h_new_get, ↓h_del_get, h_next_put, h_next_new, h_next_del, Nat.add_assoc, Nat.add_eq_left, Nat.left_eq_add, Nat.add_left_cancel_iff, ↓s_load, m_load, ↓m_load1, m_load1, ↓m_st, m_stE, m_storeI, m_storeE, w_zero, w_succ, ↓s_alloc, ↓x_idxA, ↓x_idxS, x_idxAE, x_idxSE, x_addrE, x_idx, x_lenS, ↓s_len, ↓x_buildS, x_buildE, ↓x_P0, ↓x_P1, x_fill0, x_filli, x_fills, x_fillb, c_int, List.length_cons, List.length_nil, List.cons_append, List.drop_succ_cons, List.drop_zero, List.drop_nil, List.nil_append, Int.reduceAdd, Int.reduceToNat, Int.reduceLT, Int.reduceLE, Nat.reduceAdd, Nat.reduceMul, Nat.reduceLeDiff, Int.reduceEq, Int.reduceSub, Int.cast_ofNat_Int, s_resc, s_consR, m_load4, m_store4, s_res0, ↓s_skip, ↓s_ops, ↓s_dops, ↓s_seq, ↓s_cond, ↓s_block, ↓s_exit, ↓s_ret, ↓s_scope, ↓s_nil, ↓s_op, ↓s_opg, ↓s_wanted', ↓s_wantV, s_wantV, s_wantV0, beq_true, beq_false, ↓s_bindS, s_bindS, ↓s_bindE, s_bindE, s_bindE_ret, s_bindE_exit, s_bindE_iteN, s_norm, ↓s_condV, s_condV, s_block_ret, s_block_normal, s_block_exit, s_block_iteN, ↓s_getp, ↓s_getp0, ↓s_get, s_get0, ↓s_con, ↓s_fn, ↓s_os0, ↓s_os1, ↓s_list0, ↓s_list1, ↓s_mov, ↓s_pick, ↓s_pickE, s_pickE, ↓s_bin, ↓s_un, ↓s_minmax, ↓s_call, ↓s_callv, ↓s_callV, ↓s_ext, s_same, b_eql, b_neq, b_lss, b_leq, b_gtr, b_geq, b_add, b_sub, b_mul, b_eqlb, b_neqb, b_fnil, b_fnil', b_fnil2, b_fnil2', u_neg, u_not, m_two, s_end, s_end', s_end_iteN, s_res0, s_res1, s_tup1, s_tup2, ↓iteN_true, ↓iteN_false, iteN_true, iteN_false, Nat.zero_add, List.nil_append, List.append_nil, Nat.reduceEqDiff, reduceIte, decide_true, decide_false, Bool.not_true, Bool.not_false, List.getElem?_cons_zero, List.getElem?_cons_succ, Bool.false_eq_true, if_true, if_false, beq_self_eq_true]
      exact rfl, ⟨rfl, fun _ _ => rfl⟩, by (simp only [s_getp, s_getp0, Nat.reduceEqDiff, decide_false, decide_true, iteN_false, iteN_true]), by (simp only [s_getp, s_getp0, Nat.reduceEqDiff, decide_false, decide_true, iteN_false, iteN_true]), by (simp only [s_getp, s_getp0, Nat.reduceEqDiff, decide_false, decide_true, iteN_false, iteN_true]), by (simp only [s_getp, s_getp0, Nat.reduceEqDiff, decide_false, decide_true, iteN_false, iteN_true])⟩
  · obtain ⟨T', h', r, J⟩ := loop_go (f := evC Q 77 m none L_purserlaw01_OctetWrites_1) (owII T0 q w.length md h0) w.length (.exit 2) (by intro h; cases h) (owII T0 q w.length md h0 w.length) (fun i T h hi I => by
      obtain ⟨_, t1, t2, t3, k1, k5, k6, k12, ⟨cur, gq, lc⟩, eq⟩ := I
      have t1' := t1.trans ts
      have c0 : decide ((i : Int) < (w.length : Int)) = true := decide_eq_true (by omega)
      have wi : wr .i64 ((i : Int) + 1) = ((i + 1 : Nat) : Int) := by rw [wr_i64 (by omega)]; omega
      have ix : idx (i : Int) w.length = some i := idxn hi
      have cg : (ofI .u8 cur)[i]? = some (.int .u8 (cur.getD i 0 : Nat)) := ofI_get _ _ _ (by omega)
      have w8 : wr .u8 (((cur.getD i 0 : Nat) : Int) + 1) = (((cur.getD i 0 + 1) % 256 : Nat) : Int) := w8n (cur.getD i 0 + 1)
      generalize cur.getD i 0 = y at *
      generalize (y + 1) % 256 = y' at *
      have ste := fun (h : H) (v : V) => stAny .u8 cur [v] md hmd h q i (by simp only [List.length_cons, List.length_nil]; omega)
      have su := wr1I .u8 cur i y' (by omega)
      have i1 : i + 1 ≤ w.length := hi
      have ls : (cur.set i y').length = w.length := by rw [List.length_set, lc]
      obtain ⟨n, en⟩ : ∃ n, w.length = n := ⟨_, rfl⟩
      rw [en] at t1' t2 c0 ix
      refine ⟨_, _, by
        simp (config := {maxSteps := 2000000}) (disch := first | omega | (simp only [List.length_cons, List.length_nil, List.length_append, List.length_drop]; omega)) only [L_purserlaw01_OctetWrites_1, t1', t2, t3, gq, cg, c0, wi, ix, w8, ste, su, ↓b_xor32, ↓b_and32, ↓b_or32, ↓u_not32, b_xor32, b_and32, b_or32, u_not32, w32ad, ↓x_conv, x_convV, ↓x_fieldAddr, x_fieldV, ↓s_nilchk, x_nilchk, Nat.zero_add, Nat.add_zero, Nat.mul_one, ↓l_loop, ↓l_succ, ↓l_normal, l_normal, l_exit, l_ret, l_iteN, ↓h_put_get, ↓h_new_get, ↓h_del_get, h_next_put, h_next_new, h_next_del, Nat.add_assoc, Nat.add_eq_left, Nat.left_eq_add, Nat.add_left_cancel_iff, ↓s_load, m_load, ↓m_load1, m_load1, ↓m_st, m_stE, m_storeI, w_zero, w_succ, ↓s_alloc, ↓x_idxA, ↓x_idxS, x_idxAE, x_idxSE, x_addrE, x_idx, x_lenS, ↓s_len, ↓x_buildS, x_buildE, ↓x_P0, ↓x_P1, x_fill0, x_filli, x_fills, x_fillb, c_int, List.length_cons, List.length_nil, List.cons_append, List.drop_succ_cons, List.drop_zero, List.drop_nil, List.nil_append, Int.reduceAdd, Int.reduceToNat, Int.reduceLT, Int.reduceLE, Nat.reduceAdd, Nat.reduceMul, Nat.reduceLeDiff, Int.reduceEq, Int.reduceSub, Int.cast_ofNat_Int, s_resc, s_consR, m_load4, m_store4, s_res0, ↓s_skip, ↓s_ops, ↓s_dops, ↓s_seq, ↓s_cond, ↓s_block, ↓s_exit, ↓s_ret, ↓s_scope, ↓s_nil, ↓s_op, ↓s_opg, ↓s_wanted', ↓s_wantV, s_wantV, s_wantV0, beq_true, beq_false, ↓s_bindS, s_bindS, ↓s_bindE, s_bindE, s_bindE_ret, s_bindE_exit, s_bindE_iteN, s_norm, ↓s_condV, s_condV, s_block_ret, s_block_normal, s_block_exit, s_block_iteN, ↓s_getp, ↓s_getp0, ↓s_get, s_get0, ↓s_con, ↓s_fn, ↓s_os0, ↓s_os1, ↓s_list0, ↓s_list1, ↓s_mov, ↓s_pick, ↓s_pickE, s_pickE, ↓s_bin, ↓s_un, ↓s_minmax, ↓s_call, ↓s_callv, ↓s_callV, ↓s_ext, s_same, b_eql, b_neq, b_lss, b_leq, b_gtr, b_geq, b_add, b_sub, b_mul, b_eqlb, b_neqb, b_fnil, b_fnil', b_fnil2, b_fnil2', u_neg, u_not, m_two, s_end, s_end', s_end_iteN, s_res0, s_res1, s_tup1, s_tup2, ↓iteN_true, ↓iteN_false, iteN_true, iteN_false, Nat.zero_add, List.nil_append, List.append_nil, Nat.reduceEqDiff, reduceIte, decide_true, decide_false, Bool.not_true, Bool.not_false, List.getElem?_cons_zero, List.getElem?_cons_succ, Bool.false_eq_true, if_true, if_false, beq_self_eq_true]
        exact rfl, ⟨i1, Eq.trans (by (simp only [s_getp, s_getp0, Nat.reduceEqDiff, decide_false, decide_true, iteN_false, iteN_true])) t1, by rw [en]; exact Eq.trans (by (simp only [s_getp, s_getp0, Nat.reduceEqDiff, decide_false, decide_true, iteN_false, iteN_true])) t2, (by (simp only [s_getp, s_getp0, Nat.reduceEqDiff, decide_false, decide_true, iteN_false, iteN_true, t3]; try rfl)), Eq.trans (by (simp only [s_getp, s_getp0, Nat.reduceEqDiff, decide_false, decide_true, iteN_false, iteN_true])) k1, Eq.trans (by (simp only [s_getp, s_getp0, Nat.reduceEqDiff, decide_false, decide_true, iteN_false, iteN_true])) k5, Eq.trans (by (simp only [s_getp, s_getp0, Nat.reduceEqDiff, decide_false, decide_true, iteN_false, iteN_true])) k6, Eq.trans (by (simp only [s_getp, s_getp0, Nat.reduceEqDiff, decide_false, decide_true, iteN_false, iteN_true])) k12, ⟨cur.set i y', h_put_same _ _ _, ls⟩, eq.put _⟩⟩) (fun T h I => by
      obtain ⟨il, t1, t2, t3, k1, k5, k6, k12, gq, eq⟩ := I
      have c0 : decide ((w.length : Int) < (w.length : Int)) = false := decide_eq_false (by omega)
      refine ⟨_, _, by
        simp (config := {maxSteps := 2000000}) (disch := first | omega | (simp only [List.length_cons, List.length_nil, List.length_append, List.length_drop]; omega)) only [L_purserlaw01_OctetWrites_1, t2, t3, c0, ↓b_xor32, ↓b_and32, ↓b_or32, ↓u_not32, b_xor32, b_and32, b_or32, u_not32, w32ad, ↓x_conv, x_convV, ↓x_fieldAddr, x_fieldV, ↓s_nilchk, x_nilchk, Nat.zero_add, Nat.add_zero, Nat.mul_one, ↓l_loop, ↓l_succ, ↓l_normal, l_normal, l_exit, l_ret, l_iteN, ↓h_put_get, ↓h_new_get, ↓h_del_get, h_next_put, h_next_new, h_next_del, Nat.add_assoc, Nat.add_eq_left, Nat.left_eq_add, Nat.add_left_cancel_iff, ↓s_load, m_load, ↓m_load1, m_load1, ↓m_st, m_stE, m_storeI, m_storeE, w_zero, w_succ, ↓s_alloc, ↓x_idxA, ↓x_idxS, x_idxAE, x_idxSE, x_addrE, x_idx, x_lenS, ↓s_len, ↓x_buildS, x_buildE, ↓x_P0, ↓x_P1, x_fill0, x_filli, x_fills, x_fillb, c_int, List.length_cons, List.length_nil, List.cons_append, List.drop_succ_cons, List.drop_zero, List.drop_nil, List.nil_append, Int.reduceAdd, Int.reduceToNat, Int.reduceLT, Int.reduceLE, Nat.reduceAdd, Nat.reduceMul, Nat.reduceLeDiff, Int.reduceEq, Int.reduceSub, Int.cast_ofNat_Int, s_resc, s_consR, m_load4, m_store4, s_res0, ↓s_skip, ↓s_ops, ↓s_dops, ↓s_seq, ↓s_cond, ↓s_block, ↓s_exit, ↓s_ret, ↓s_scope, ↓s_nil, ↓s_op, ↓s_opg, ↓s_wanted', ↓s_wantV, s_wantV, s_wantV0, beq_true, beq_false, ↓s_bindS, s_bindS, ↓s_bindE, s_bindE, s_bindE_ret, s_bindE_exit, s_bindE_iteN, s_norm, ↓s_condV, s_condV, s_block_ret, s_block_normal, s_block_exit, s_block_iteN, ↓s_getp, ↓s_getp0, ↓s_get, s_get0, ↓s_con, ↓s_fn, ↓s_os0, ↓s_os1, ↓s_list0, ↓s_list1, ↓s_mov, ↓s_pick, ↓s_pickE, s_pickE, ↓s_bin, ↓s_un, ↓s_minmax, ↓s_call, ↓s_callv, ↓s_callV, ↓s_ext, s_same, b_eql, b_neq, b_lss, b_leq, b_gtr, b_geq, b_add, b_sub, b_mul, b_eqlb, b_neqb, b_fnil, b_fnil', b_fnil2, b_fnil2', u_neg, u_not, m_two, s_end, s_end', s_end_iteN, s_res0, s_res1, s_tup1, s_tup2, ↓iteN_true, ↓iteN_false, iteN_true, iteN_false, Nat.zero_add, List.nil_append, List.append_nil, Nat.reduceEqDiff, reduceIte, decide_true, decide_false, Bool.not_true, Bool.not_false, List.getElem?_cons_zero, List.getElem?_cons_succ, Bool.false_eq_true, if_true, if_false, beq_self_eq_true]
        exact rfl, ⟨il, Eq.trans (by (simp only [s_getp, s_getp0, Nat.reduceEqDiff, decide_false, decide_true, iteN_false, iteN_true])) t1, Eq.trans (by (simp only [s_getp, s_getp0, Nat.reduceEqDiff, decide_false, decide_true, iteN_false, iteN_true])) t2, Eq.trans (by (simp only [s_getp, s_getp0, Nat.reduceEqDiff, decide_false, decide_true, iteN_false, iteN_true])) t3, Eq.trans (by (simp only [s_getp, s_getp0, Nat.reduceEqDiff, decide_false, decide_true, iteN_false, iteN_true])) k1, Eq.trans (by (simp only [s_getp, s_getp0, Nat.reduceEqDiff, decide_false, decide_true, iteN_false, iteN_true])) k5, Eq.trans (by (simp only [s_getp, s_getp0, Nat.reduceEqDiff, decide_false, decide_true, iteN_false, iteN_true])) k6, Eq.trans (by (simp only [s_getp, s_getp0, Nat.reduceEqDiff, decide_false, decide_true, iteN_false, iteN_true])) k12, gq, eq⟩⟩) w.length 0 (by omega) m (by omega) T0 h0 ⟨by omega, rfl, tn, ti, rfl, rfl, rfl, rfl, ⟨w, g, rfl⟩, .refl _ _⟩
    exact ⟨T', h', r, ⟨J.eq.1, fun j hj => J.eq.2 j (fun e => hj (by rw [e]))⟩, J.k1, J.k5, J.k6, J.k12⟩

def wW (ops : List OpP) : List Nat := (ops.map opW).flatten
theorem wW_take (ops : List OpP) (i : Nat) (o : OpP) (ho : ops[i]? = some o) : wW (ops.take (i + 1)) = wW (ops.take i) ++ opW o := by
  unfold wW
  rw [List.take_add_one, ho, List.map_append, List.flatten_append]
  show _ ++ (List.map opW [o]).flatten = _
  simp
theorem opW_le (o : OpP) : (opW o).length ≤ 9 + o.l.length := by
  have := opB_le o
  unfold opB at this
  unfold opW
  split
  · rename_i h; rw [if_pos h] at this; exact this
  · rename_i h0
    rw [if_neg h0] at this
    split
    · rename_i h; rw [if_pos h] at this; exact this
    · rename_i h1
      rw [if_neg h1] at this
      split
      · rename_i h; rw [if_pos h] at this; exact this
      · split
        · omega
        · simp
theorem opW_byt (o : OpP) (ok : o.ok) : byt (opW o) = true := by
  have := opB_byt o ok
  unfold opB at this
  unfold opW
  split
  · rename_i h; rw [if_pos h] at this; exact this
  · rename_i h0
    rw [if_neg h0] at this
    split
    · rename_i h; rw [if_pos h] at this; exact this
    · rename_i h1
      rw [if_neg h1] at this
      split
      · rename_i h; rw [if_pos h] at this; exact this
      · split
        · exact ok.bl
        · rfl
theorem wW_le (ops : List OpP) : (wW ops).length ≤ 9 * ops.length + gs ops := by
  induction ops with
  | nil => simp [wW, gs]
  | cons o r ih =>
    have : wW (o :: r) = opW o ++ wW r := rfl
    rw [this, List.length_append]
    have := opW_le o
    simp only [gs, List.length_cons]; omega
theorem wW_byt (ops : List OpP) (h : ∀ o ∈ ops, o.ok) : byt (wW ops) = true := by
  induction ops with
  | nil => rfl
  | cons o r ih => exact byt_app (opW_byt o (h o (List.mem_cons_self ..))) (ih (fun x hx => h x (List.mem_cons_of_mem _ hx)))
structure OW0 (hin : H) (pn n : Nat) (a : Option (Nat × Nat)) (ops : List OpP) (i : Nat) (T : Tr V) (h : H) : Prop where
  il : i ≤ ops.length
  t0 : evO T (.t 0) = .slice a ops.length none 4
  t1 : evO T (.t 1) = .int .u64 (n : Int)
  t5 : evO T (.t 5) = .ptr (some (pn, 0))
  t17 : evO T (.t 17) = .int .i64 (ops.length : Int)
  t18 : evO T (.t 18) = .int .i64 (i : Int)
  st : ∃ ap aw c e, evO T (.t 6) = .slice aw (wW (ops.take i)).length c e ∧ PenH pn (wW (ops.take i)) ap h ∧ Wb h (wW (ops.take i)) aw c e ∧ (∀ q o, ap = some (q, o) → pn < q) ∧ ∀ q o, aw = some (q, o) → pn < q ∧ ap ≠ some (q, 0)
  kp : Kp hin h
theorem ow0_step (e : EnWr E) (x : NoWr X) (M m pn n : Nat) (hM : 100100 < M) (ops : List OpP) (ok : ∀ o ∈ ops, o.ok) (hl : ops.length ≤ 100) (hg : gs ops ≤ 100000) (a : Option (Nat × Nat)) (hin : H) (oh : OpsH hin a ops) (hpn : pn = hin.next) :
    ∀ i T h, i < ops.length → OW0 hin pn n a ops i T h → ∃ T' h', evC (callX E X (M + 40)) 77 m none L_purserlaw01_OctetWrites_0 ⟨T, [], h⟩ = some (.normal, ⟨T', [], h'⟩) ∧ OW0 hin pn n a ops (i + 1) T' h' := by
  intro i T h hi ⟨_, t0, t1, t5, t17, t18, ⟨ap, aw, c, ez, t6, pe, wb, hap, haw⟩, kp⟩
  have c0 : decide ((i : Int) < (ops.length : Int)) = true := decide_eq_true (by omega)
  have wi : wr .i64 ((i : Int) + 1) = ((i + 1 : Nat) : Int) := by rw [wr_i64 (by omega)]; omega
  have ix : idx (i : Int) ops.length = some i := idxn hi
  obtain ⟨o, ho⟩ : ∃ o, ops[i]? = some o := ⟨_, List.getElem?_eq_getElem hi⟩
  have om := List.mem_of_getElem? ho
  obtain ⟨k, md, vs, b, rfl, k1, g, lv, cs, _, sb⟩ := oh.at i o ho
  have g' : h.get k = some (.cells vs md) := by rw [kp.2 _ k1, g]
  have ld : loadE (some (.cells vs md)) (some 4) (i * 4) = some (.agg (opC o b)) := by rw [m_loadN, readN_of _ _ _ (by omega), cs]
  have wle := wW_le (ops.take i)
  have g4 := gs_take_le ops i
  have tl : (ops.take i).length ≤ 100 := by rw [List.length_take]; omega
  have ol := opW_le o
  have ogl := gs_mem ops o om
  have po : PartOk pn ap h (b, none, 1, o.l) := ⟨sb.mono kp, fun hne q z eb => by
    rcases sb with s | ⟨bi, off, vs, m, e1, e2, e3, _⟩
    · exact absurd s hne
    · rw [e1] at eb; cases eb
      exact ⟨by omega, fun e => by have := hap _ _ e; omega⟩⟩
  obtain ⟨h1, a1, ab, cb, eb, r1, p1, f1, s1⟩ := write_go e x M pn hM o (ok o om) (by omega) b (wW (ops.take i)) (by omega) ap h pe po
  have ws := wW_take ops i o ho
  rw [← ws] at p1
  have hpl := pe.lt
  have wb1 := wb.mono f1.nx (fun q hq ea => f1.fr q hq (by have := (haw _ _ ea).1; omega) (haw _ _ ea).2)
  have sc := s1.cellz cb
  obtain ⟨aw2, c2, e2, h2, apd, wb2, n2, f2, o2⟩ := ap_wb h1 (wW (ops.take i)) (opW o) aw c ez wb1 (by omega)
  rw [← ws] at apd wb2
  have k01 : Kp hin h1 := ⟨Nat.le_trans kp.1 f1.nx, fun j hj => by rw [f1.fr j (Nat.lt_of_lt_of_le hj kp.1) (by omega) (fun e => by have := hap _ _ e; omega), kp.2 _ hj]⟩
  have ha1 : ∀ q z, a1 = some (q, z) → pn < q := fun q z ea => by
    rcases f1.ow with e' | ⟨q', e', hq⟩
    · rw [e'] at ea; exact hap q z ea
    · rw [e'] at ea; cases ea; omega
  have haw1 : ∀ q z, aw = some (q, z) → a1 ≠ some (q, 0) := fun q z eq => f1.ne (wb.lt eq) (haw q z eq).2
  have p2 : PenH pn (wW (ops.take (i + 1))) a1 h2 := p1.mono n2 (f2 _ p1.lt (fun ea => by have := (haw _ _ ea).1; omega)) (fun q hq ea => f2 q hq (fun e => haw1 q 0 e ea))
  have k02 : Kp hin h2 := ⟨Nat.le_trans k01.1 n2, fun j hj => by rw [f2 j (Nat.lt_of_lt_of_le hj k01.1) (fun ea => by have := (haw _ _ ea).1; omega), k01.2 _ hj]⟩
  have haw2 : ∀ q z, aw2 = some (q, z) → pn < q ∧ a1 ≠ some (q, 0) := fun q z ea => by
    rcases o2 with o2 | o2
    · rw [o2] at ea; exact ⟨(haw _ _ ea).1, haw1 _ _ ea⟩
    · rw [o2] at ea; cases ea
      have := p1.lt
      exact ⟨by omega, fun e => by have := p1.alt e; omega⟩
  have r3 := len_go e.ln x.ln (M + 39) pn _ a1 h2 p2
  have i1 : i + 1 ≤ ops.length := hi
  obtain ⟨L, eL⟩ : ∃ L, ops.length = L := ⟨_, rfl⟩
  rw [eL] at t0 t17 c0 ix
  obtain ⟨W1, eW1⟩ : ∃ L, (wW (ops.take i)).length = L := ⟨_, rfl⟩
  obtain ⟨W2, eW2⟩ : ∃ L, (wW (ops.take (i + 1))).length = L := ⟨_, rfl⟩
  obtain ⟨W3, eW3⟩ : ∃ L, (opW o).length = L := ⟨_, rfl⟩
  rw [eW1] at t6 apd
  rw [eW2] at apd r3
  rw [eW3] at r1 sc apd
  have ce : ∀ z : Nat, decide ((z : Int) = (z : Int)) = true := fun z => decide_eq_true rfl
  have ce1 := ce (opF o)
  have ce2 := ce W2
  generalize opF o = F at *
  generalize opC o b = C at *
  obtain ⟨B, eB⟩ : ∃ B, ofI .u8 (opW o) = B := ⟨_, rfl⟩
  rw [eB] at sc apd
  replace r3 : callX E X (M + 40) (.fn k_octet_Pen_Len) [.ptr (some (pn, 0))] h2 = some (.int .i64 (W2 : Int), h2) := r3
  refine ⟨_, h2, by
    simp (config := {maxSteps := 2000000}) (disch := first | omega | (simp only [List.length_cons, List.length_nil, List.length_append, List.length_drop]; omega)) only [L_purserlaw01_OctetWrites_0, t0, t5, t6, t17, t18, g', ld, r1, sc, apd, r3, ce1, ce2, c0, wi, ix, ↓s_append, ↓s_len, x_lenS, ↓b_xor32, ↓b_and32, ↓b_or32, ↓u_not32, b_xor32, b_and32, b_or32, u_not32, w32ad, ↓x_conv, x_convV, ↓x_fieldAddr, x_fieldV, ↓s_nilchk, x_nilchk, Nat.zero_add, Nat.add_zero, Nat.mul_one, ↓l_loop, ↓l_succ, ↓l_normal, l_normal, l_exit, l_ret, l_iteN, ↓h_put_get, ↓h_new_get, ↓h_del_get, h_next_put, h_next_new, h_next_del, Nat.add_assoc, Nat.add_eq_left, Nat.left_eq_add, Nat.add_left_cancel_iff, ↓s_load, m_load, ↓m_load1, m_load1, ↓m_st, m_stE, m_storeI, m_storeE, w_zero, w_succ, ↓s_alloc, ↓x_idxA, ↓x_idxS, x_idxAE, x_idxSE, x_addrE, x_idx, x_lenS, ↓s_len, ↓x_buildS, x_buildE, ↓x_P0, ↓x_P1, x_fill0, x_filli, x_fills, x_fillb, c_int, List.length_cons, List.length_nil, List.cons_append, List.drop_succ_cons, List.drop_zero, List.drop_nil, List.nil_append, Int.reduceAdd, Int.reduceToNat, Int.reduceLT, Int.reduceLE, Nat.reduceAdd, Nat.reduceMul, Nat.reduceLeDiff, Int.reduceEq, Int.reduceSub, Int.cast_ofNat_Int, s_resc, s_consR, m_load4, m_store4, s_res0, ↓s_skip, ↓s_ops, ↓s_dops, ↓s_seq, ↓s_cond, ↓s_block, ↓s_exit, ↓s_ret, ↓s_scope, ↓s_nil, ↓s_op, ↓s_opg, ↓s_wanted', ↓s_wantV, s_wantV, s_wantV0, beq_true, beq_false, ↓s_bindS, s_bindS, ↓s_bindE, s_bindE, s_bindE_ret, s_bindE_exit, s_bindE_iteN, s_norm, ↓s_condV, s_condV, s_block_ret, s_block_normal, s_block_exit, s_block_iteN, ↓s_getp, ↓s_getp0, ↓s_get, s_get0, ↓s_con, ↓s_fn, ↓s_os0, ↓s_os1, ↓s_list0, ↓s_list1, ↓s_mov, ↓s_pick, ↓s_pickE, s_pickE, ↓s_bin, ↓s_un, ↓s_minmax, ↓s_call, ↓s_callv, ↓s_callV, ↓s_ext, s_same, b_eql, b_neq, b_lss, b_leq, b_gtr, b_geq, b_add, b_sub, b_mul, b_eqlb, b_neqb, b_fnil, b_fnil', b_fnil2, b_fnil2', u_neg, u_not, m_two, s_end, s_end', s_end_iteN, s_res0, s_res1, s_tup1, s_tup2, ↓iteN_true, ↓iteN_false, iteN_true, iteN_false, Nat.zero_add, List.nil_append, List.append_nil, Nat.reduceEqDiff, reduceIte, decide_true, decide_false, Bool.not_true, Bool.not_false, List.getElem?_cons_zero, List.getElem?_cons_succ, Bool.false_eq_true, if_true, if_false, beq_self_eq_true]
    exact rfl, ⟨i1, by rw [eL]; exact (by (simp only [s_getp, s_getp0, Nat.reduceEqDiff, decide_false, decide_true, iteN_false, iteN_true, t0]; try rfl)), (by (simp only [s_getp, s_getp0, Nat.reduceEqDiff, decide_false, decide_true, iteN_false, iteN_true, t1]; try rfl)), (by (simp only [s_getp, s_getp0, Nat.reduceEqDiff, decide_false, decide_true, iteN_false, iteN_true, t5]; try rfl)), by rw [eL]; exact (by (simp only [s_getp, s_getp0, Nat.reduceEqDiff, decide_false, decide_true, iteN_false, iteN_true, t17]; try rfl)), (by (simp only [s_getp, s_getp0, Nat.reduceEqDiff, decide_false, decide_true, iteN_false, iteN_true, t18]; try rfl)), ⟨a1, aw2, c2, e2, by rw [eW2]; exact (by (simp only [s_getp, s_getp0, Nat.reduceEqDiff, decide_false, decide_true, iteN_false, iteN_true, t6]; try rfl)), p2, wb2, ha1, haw2⟩, k02⟩⟩
noncomputable def nX : Orc := noX
theorem no_wid : NoWid noX := ⟨fun _ _ => rfl, fun _ _ => rfl, fun _ _ => rfl, fun _ _ _ => rfl⟩
theorem no_put : NoPut noX := ⟨fun _ _ => rfl, no_wid⟩
theorem no_rf : NoRf noX := ⟨fun _ _ => rfl, fun _ _ => rfl, fun _ _ => rfl, fun _ _ => rfl, fun _ _ => rfl⟩
theorem no_wr : NoWr noX := ⟨⟨fun _ _ => rfl, fun _ _ => rfl, no_put⟩, ⟨fun _ _ => rfl, fun _ _ => rfl, fun _ _ => rfl, no_put⟩, fun _ _ => rfl, fun _ _ => rfl, fun _ _ => rfl, fun _ _ => rfl, no_rf, fun _ _ => rfl, fun _ _ => rfl⟩
set_option maxRecDepth 100000 in
set_option maxHeartbeats 4000000 in
theorem law_OctetWrites (e : EnWr E) (el : E k_purserlaw01_OctetWrites = some f_purserlaw01_OctetWrites) (N : Nat) (hN : 110000 < N) (ops : List OpP) (ok : ∀ o ∈ ops, o.ok) (B : Nat) (hB : B ≤ 140737488351232) (hlB : ops.length ≤ B) (hsB : ∀ o ∈ ops, o.l.length ≤ B) (n : Nat) (hn : n < 18446744073709551616) (a : Option (Nat × Nat)) (h : H) (oh : OpsH h a ops) :
    ∃ h2, callX E noX (N + ops.length + 201) (.fn k_purserlaw01_OctetWrites) [.slice a ops.length none 4, .int .u64 (n : Int)] h = some (.bool true, h2) := by
  rw [x_cfn el _ _ (Nat.le_of_ble_eq_true rfl) rfl]
  have x : NoWr noX := no_wr
  have gr := great_go (X := noX) e.gr x.gr (N + 174) a ops B hB hlB hsB h oh
  rw [show N + 174 + ops.length + 26 = N + ops.length + 200 by omega] at gr
  generalize hF : N + ops.length = F at *
  have hF2 : 110000 < F ∧ ops.length ≤ F := by omega
  cases hgr : greatV ops with
  | true =>
    rw [hgr] at gr
    obtain ⟨L, eL⟩ : ∃ L, ops.length = L := ⟨_, rfl⟩
    rw [eL] at gr ⊢
    simp (config := {maxSteps := 2000000}) (disch := first | omega | rfl | (simp only [ofI_len, List.length_append, List.length_take, List.length_drop, List.length_cons, List.length_nil, List.length_replicate, List.length_set]; done) | (simp only [ofI_len, List.length_append, List.length_take, List.length_drop, List.length_cons, List.length_nil, List.length_replicate, List.length_set]; omega)) only [gr, ↓b_xor32, ↓b_and32, ↓b_or32, ↓u_not32, b_xor32, b_and32, b_or32, u_not32, w32ad, ↓x_conv, x_convV, ↓x_fieldAddr, x_fieldV, ↓s_nilchk, x_nilchk, Nat.zero_add, Nat.add_zero, Nat.mul_one, ↓l_loop, ↓l_succ, ↓l_normal, l_normal, l_exit, l_ret, l_iteN, ↓h_put_get, ↓h_new_get, ↓h_del_get, h_next_put, h_next_new, h_next_del, Nat.add_assoc, Nat.add_eq_left, Nat.left_eq_add, Nat.add_left_cancel_iff, ↓s_load, m_load, ↓m_load1, m_load1, ↓m_st, m_stE, m_storeI, m_storeE, ↓s_alloc, ↓x_idxA, ↓x_idxS, x_idxAE, x_idxSE, x_addrE, x_idx, x_lenS, ↓s_len, ↓x_buildS, x_buildE, ↓x_P0, ↓x_P1, x_fill0, x_filli, x_fills, x_fillb, c_int, List.length_cons, List.length_nil, List.cons_append, List.drop_succ_cons, List.drop_zero, List.drop_nil, List.nil_append, Int.reduceAdd, Int.reduceToNat, Int.reduceLT, Int.reduceLE, Nat.reduceAdd, Nat.reduceMul, Nat.reduceLeDiff, Int.reduceEq, Int.reduceSub, Int.cast_ofNat_Int, s_resc, s_consR, m_load4, m_store4, s_res0, ↓s_skip, ↓s_ops, ↓s_dops, ↓s_seq, ↓s_cond, ↓s_block, ↓s_exit, ↓s_ret, ↓s_scope, ↓s_nil, ↓s_op, ↓s_opg, ↓s_wanted', ↓s_wantV, s_wantV, s_wantV0, beq_true, beq_false, ↓s_bindS, s_bindS, ↓s_bindE, s_bindE, s_bindE_ret, s_bindE_exit, s_bindE_iteN, s_norm, ↓s_condV, s_condV, s_block_ret, s_block_normal, s_block_exit, s_block_iteN, ↓s_getp, ↓s_getp0, ↓s_get, s_get0, ↓s_con, ↓s_fn, ↓s_os0, ↓s_os1, ↓s_list0, ↓s_list1, ↓s_mov, ↓s_pick, ↓s_pickE, s_pickE, ↓s_bin, ↓s_un, ↓s_minmax, ↓s_call, ↓s_callv, ↓s_callV, ↓s_ext, s_same, b_eql, b_neq, b_lss, b_leq, b_gtr, b_geq, b_add, b_sub, b_mul, b_eqlb, b_neqb, b_fnil, b_fnil', b_fnil2, b_fnil2', u_neg, u_not, m_two, s_end, s_end', s_end_iteN, s_res0, s_res1, s_tup1, s_tup2, ↓iteN_true, ↓iteN_false, iteN_true, iteN_false, Nat.zero_add, List.nil_append, List.append_nil, Nat.reduceEqDiff, reduceIte, decide_true, decide_false, Bool.not_true, Bool.not_false, List.getElem?_cons_zero, List.getElem?_cons_succ, Bool.false_eq_true, if_true, if_false, beq_self_eq_true]
    exact ⟨_, rfl⟩
  | false =>
  rw [hgr] at gr
  unfold greatV at hgr
  rw [Bool.or_eq_false_iff] at hgr
  have hl : ops.length ≤ 100 := by have := of_decide_eq_false hgr.1; omega
  have hg : gs ops ≤ 100000 := by have := of_decide_eq_false hgr.2; omega
  clear hgr
  obtain ⟨hQ, eQ⟩ : ∃ hQ, h.new (.cells [.slice none 0 (some 0) 0] .rw) = hQ := ⟨_, rfl⟩
  have kQ : Kp h hQ := by rw [← eQ]; exact Kp.new _ _
  have gQ : hQ.get h.next = some (.cells [.slice none 0 (some 0) 0] .rw) := by rw [← eQ]; exact h_new_same _ _
  have nQ : hQ.next = h.next + 1 := by rw [← eQ]; rfl
  have fin0 : ∀ T, OW0 h h.next n a ops 0 T hQ → ∃ h2, fnEnd [.tmp 4] (bindE (blockE 0 (loopN (evC (callX E noX (F + 200)) 77 (F + 200) none L_purserlaw01_OctetWrites_0) (F + 200) ⟨T, [], hQ⟩)) (evC (callX E noX (F + 200)) 77 (F + 200) none R_purserlaw01_OctetWrites_1)) = some (.bool true, h2) := by
    intro T I
    obtain ⟨T1, h1, rr, J⟩ := loop_go (f := evC (callX E noX (F + 200)) 77 (F + 200) none L_purserlaw01_OctetWrites_0) (OW0 h h.next n a ops) ops.length (.exit 0) (by intro h; cases h) (OW0 h h.next n a ops ops.length) (ow0_step e x (F + 160) (F + 200) h.next n (by omega) ops ok hl hg a h oh rfl) (fun T h' I => by
      obtain ⟨il, t0, t1, t5, t17, t18, ⟨ap, aw, c, ez, t6, st⟩, kp⟩ := I
      have c0 : decide ((ops.length : Int) < (ops.length : Int)) = false := decide_eq_false (by omega)
      refine ⟨_, _, by
        simp (config := {maxSteps := 2000000}) (disch := first | omega | (simp only [List.length_cons, List.length_nil, List.length_append, List.length_drop]; omega)) only [L_purserlaw01_OctetWrites_0, t17, t18, c0, ↓b_xor32, ↓b_and32, ↓b_or32, ↓u_not32, b_xor32, b_and32, b_or32, u_not32, w32ad, ↓x_conv, x_convV, ↓x_fieldAddr, x_fieldV, ↓s_nilchk, x_nilchk, Nat.zero_add, Nat.add_zero, Nat.mul_one, ↓l_loop, ↓l_succ, ↓l_normal, l_normal, l_exit, l_ret, l_iteN, ↓h_put_get, ↓h_new_get, ↓h_del_get, h_next_put, h_next_new, h_next_del, Nat.add_assoc, Nat.add_eq_left, Nat.left_eq_add, Nat.add_left_cancel_iff, ↓s_load, m_load, ↓m_load1, m_load1, ↓m_st, m_stE, m_storeI, m_storeE, w_zero, w_succ, ↓s_alloc, ↓x_idxA, ↓x_idxS, x_idxAE, x_idxSE, x_addrE, x_idx, x_lenS, ↓s_len, ↓x_buildS, x_buildE, ↓x_P0, ↓x_P1, x_fill0, x_filli, x_fills, x_fillb, c_int, List.length_cons, List.length_nil, List.cons_append, List.drop_succ_cons, List.drop_zero, List.drop_nil, List.nil_append, Int.reduceAdd, Int.reduceToNat, Int.reduceLT, Int.reduceLE, Nat.reduceAdd, Nat.reduceMul, Nat.reduceLeDiff, Int.reduceEq, Int.reduceSub, Int.cast_ofNat_Int, s_resc, s_consR, m_load4, m_store4, s_res0, ↓s_skip, ↓s_ops, ↓s_dops, ↓s_seq, ↓s_cond, ↓s_block, ↓s_exit, ↓s_ret, ↓s_scope, ↓s_nil, ↓s_op, ↓s_opg, ↓s_wanted', ↓s_wantV, s_wantV, s_wantV0, beq_true, beq_false, ↓s_bindS, s_bindS, ↓s_bindE, s_bindE, s_bindE_ret, s_bindE_exit, s_bindE_iteN, s_norm, ↓s_condV, s_condV, s_block_ret, s_block_normal, s_block_exit, s_block_iteN, ↓s_getp, ↓s_getp0, ↓s_get, s_get0, ↓s_con, ↓s_fn, ↓s_os0, ↓s_os1, ↓s_list0, ↓s_list1, ↓s_mov, ↓s_pick, ↓s_pickE, s_pickE, ↓s_bin, ↓s_un, ↓s_minmax, ↓s_call, ↓s_callv, ↓s_callV, ↓s_ext, s_same, b_eql, b_neq, b_lss, b_leq, b_gtr, b_geq, b_add, b_sub, b_mul, b_eqlb, b_neqb, b_fnil, b_fnil', b_fnil2, b_fnil2', u_neg, u_not, m_two, s_end, s_end', s_end_iteN, s_res0, s_res1, s_tup1, s_tup2, ↓iteN_true, ↓iteN_false, iteN_true, iteN_false, Nat.zero_add, List.nil_append, List.append_nil, Nat.reduceEqDiff, reduceIte, decide_true, decide_false, Bool.not_true, Bool.not_false, List.getElem?_cons_zero, List.getElem?_cons_succ, Bool.false_eq_true, if_true, if_false, beq_self_eq_true]
        exact rfl, ⟨il, (by (simp only [s_getp, s_getp0, Nat.reduceEqDiff, decide_false, decide_true, iteN_false, iteN_true, t0]; try rfl)), (by (simp only [s_getp, s_getp0, Nat.reduceEqDiff, decide_false, decide_true, iteN_false, iteN_true, t1]; try rfl)), (by (simp only [s_getp, s_getp0, Nat.reduceEqDiff, decide_false, decide_true, iteN_false, iteN_true, t5]; try rfl)), (by (simp only [s_getp, s_getp0, Nat.reduceEqDiff, decide_false, decide_true, iteN_false, iteN_true, t17]; try rfl)), (by (simp only [s_getp, s_getp0, Nat.reduceEqDiff, decide_false, decide_true, iteN_false, iteN_true, t18]; try rfl)), ⟨ap, aw, c, ez, (by (simp only [s_getp, s_getp0, Nat.reduceEqDiff, decide_false, decide_true, iteN_false, iteN_true, t6]; try rfl)), st⟩, kp⟩⟩) ops.length 0 (by omega) (F + 200) (by omega) T hQ I
    rw [rr]
    obtain ⟨il, t0, t1, t5, t17, t18, ⟨ap, aw, c, ez, t6, pe, wb, hap, haw⟩, kp⟩ := J
    rw [List.take_length] at t6 pe wb
    have hwd := wW_le ops
    have bw := wW_byt ops ok
    generalize wW ops = W at *
    obtain ⟨a2, c2, e2, h2, r2, nw⟩ := allv_go (X := noX) e.ep.al x.al (F + 199) h.next W (by omega) ap h1 pe
    have wb2 := wb.kp nw.kp
    have st1 := str_src nw.wb.src bw c2
    have st2 := str_src wb2.src bw c
    have n2 := nw.kp.1
    have fin1 : ∀ T, evO T (.t 1) = .int .u64 (n : Int) → evO T (.t 5) = .ptr (some (h.next, 0)) → evO T (.t 6) = .slice aw W.length c ez → evO T (.t 12) = .bool true → evO T (.t 11) = .slice a2 W.length c2 e2 → evO T (.t 48) = .int .i64 (W.length : Int) → evO T (.t 49) = .int .i64 0 →
        ∃ h2', fnEnd [.tmp 4] (bindE (blockE 2 (loopN (evC (callX E noX (F + 200)) 77 (F + 200) none L_purserlaw01_OctetWrites_1) (F + 200) ⟨T, [], h2⟩)) (evC (callX E noX (F + 200)) 77 (F + 200) none R_purserlaw01_OctetWrites_0)) = some (.bool true, h2') := by
      intro T u1 u5 u6 u12 u11 u48 u49
      obtain ⟨T2, h3, rr, ⟨nx3, f3⟩, k1, k5, k6, k12⟩ := owI_go (callX E noX (F + 200)) (F + 200) T h2 W (by omega) (by omega) a2 c2 e2 nw.wb u11 u48 u49
      rw [rr]
      have v1 := k1.trans u1
      have v5 := k5.trans u5
      have v6 := k6.trans u6
      have v12 := k12.trans u12
      have pe3 : PenH h.next W ap h3 := (pe.kp nw.kp).mono (by omega) (f3 _ (fun ea => by have := nw.ge _ _ ea; have := pe.lt; omega)) (fun q hq ea => f3 q (fun e1 => by have := nw.ge _ _ e1; have := pe.alt ea; omega))
      have wb3 : Wb h3 W aw c ez := wb2.mono (by omega) (fun q hq ea => f3 q (fun e1 => by have := nw.ge _ _ e1; have := wb.lt ea; omega))
      obtain ⟨a4, c4, e4, h4, r4, nw4⟩ := allv_go (X := noX) e.ep.al x.al (F + 199) h.next W (by omega) ap h3 pe3
      obtain ⟨h5, r5, k5'⟩ := compactn_go e.ep.si.cp e.ep.fi.pt.wi x.si.cp x.si.pt.wi (F + 196) n (by omega) hn h4
      obtain ⟨h6, a6, c6, e6, r6, k6', _, _⟩ := rsize_go e.rf x.rf (F + 179) n hn h5
      have s1 := str_src nw4.wb.src bw c4
      have s1' := str_src (nw4.wb.kp k5').src bw c4
      have s0 := str_src wb3.src bw c
      have s2 := str_src (wb3.kp nw4.kp).src bw c
      have s3 := str_src ((wb3.kp nw4.kp).kp k5').src bw c
      have s4 := str_src (((wb3.kp nw4.kp).kp k5').kp k6').src bw c
      rw [sizV_len] at r6
      have ce : decide ((cplV n : Int) = (cplV n : Int)) = true := decide_eq_true rfl
      generalize cplV n = z at *
      obtain ⟨wl, ewl⟩ : ∃ d, W.length = d := ⟨_, rfl⟩
      rw [ewl] at v6 r4 s0 s1 s1' s2 s3 s4
      replace r5 : callX E noX (F + 200) (.fn k_octet_Compact) [.int .u64 (n : Int)] h4 = some (.int .i64 (z : Nat), h5) := r5
      replace r6 : callX E noX (F + 200) (.fn k_purserref01_Size) [.int .u64 (n : Int)] h5 = some (.slice a6 z c6 e6, h6) := r6
      simp (config := {maxSteps := 2000000}) (disch := first | omega | rfl | (simp only [ofI_len, List.length_append, List.length_take, List.length_drop, List.length_cons, List.length_nil, List.length_replicate, List.length_set]; done) | (simp only [ofI_len, List.length_append, List.length_take, List.length_drop, List.length_cons, List.length_nil, List.length_replicate, List.length_set]; omega)) only [R_purserlaw01_OctetWrites_0, v1, v5, v6, v12, r4, r5, r6, s0, s1, s1', s2, s3, s4, ce, vbeq_str, b_seq, ↓ns_b2s, ↓s_len, x_lenS, ↓b_xor32, ↓b_and32, ↓b_or32, ↓u_not32, b_xor32, b_and32, b_or32, u_not32, w32ad, ↓x_conv, x_convV, ↓x_fieldAddr, x_fieldV, ↓s_nilchk, x_nilchk, Nat.zero_add, Nat.add_zero, Nat.mul_one, ↓s_evD, ↓s_dnil, ↓s_dL, ↓s_dLg, ↓s_dR, ↓s_dRg, ↓s_dRj, ↓s_dRjg, ↓s_dB, ↓s_dBg, ↓s_dAlloc, ↓s_bindD, s_bindD, s_finD, s_finDx, s_addP0, s_addP1, s_addB, s_lookP, ↓s_bump0, ↓s_bump_get, s_bump_next, s_ok0, ↓s_ok1, s_okR0, ↓s_okR1, ↓s_okE, s_okE, s_okE1, s_nth0, s_nthS, Nat.add_zero, Bool.and_self, Bool.and_true, Bool.true_and, ↓l_loop, ↓l_succ, ↓l_normal, l_normal, l_exit, l_ret, l_iteN, ↓h_put_get, ↓h_new_get, ↓h_del_get, h_next_put, h_next_new, h_next_del, Nat.add_assoc, Nat.add_eq_left, Nat.left_eq_add, Nat.add_left_cancel_iff, ↓s_load, m_load, ↓m_load1, m_load1, ↓m_st, m_stE, m_storeI, m_storeE, w_zero, w_succ, ↓s_alloc, ↓x_idxA, ↓x_idxS, x_idxAE, x_idxSE, x_addrE, x_idx, x_lenS, ↓s_len, ↓x_buildS, x_buildE, ↓x_P0, ↓x_P1, x_fill0, x_filli, x_fills, x_fillb, c_int, List.length_cons, List.length_nil, List.cons_append, List.drop_succ_cons, List.drop_zero, List.drop_nil, List.nil_append, Int.reduceAdd, Int.reduceToNat, Int.reduceLT, Int.reduceLE, Nat.reduceAdd, Nat.reduceMul, Nat.reduceLeDiff, Int.reduceEq, Int.reduceSub, Int.cast_ofNat_Int, s_resc, s_consR, m_load4, m_store4, s_res0, ↓s_skip, ↓s_ops, ↓s_dops, ↓s_seq, ↓s_cond, ↓s_block, ↓s_exit, ↓s_ret, ↓s_scope, ↓s_nil, ↓s_op, ↓s_opg, ↓s_wanted', ↓s_wantV, s_wantV, s_wantV0, beq_true, beq_false, ↓s_bindS, s_bindS, ↓s_bindE, s_bindE, s_bindE_ret, s_bindE_exit, s_bindE_iteN, s_norm, ↓s_condV, s_condV, s_block_ret, s_block_normal, s_block_exit, s_block_iteN, ↓s_getp, ↓s_getp0, ↓s_get, s_get0, ↓s_con, ↓s_fn, ↓s_os0, ↓s_os1, ↓s_list0, ↓s_list1, ↓s_mov, ↓s_pick, ↓s_pickE, s_pickE, ↓s_bin, ↓s_un, ↓s_minmax, ↓s_call, ↓s_callv, ↓s_callV, ↓s_ext, s_same, b_eql, b_neq, b_lss, b_leq, b_gtr, b_geq, b_add, b_sub, b_mul, b_eqlb, b_neqb, b_fnil, b_fnil', b_fnil2, b_fnil2', u_neg, u_not, m_two, s_end, s_end', s_end_iteN, s_res0, s_res1, s_tup1, s_tup2, ↓iteN_true, ↓iteN_false, iteN_true, iteN_false, Nat.zero_add, List.nil_append, List.append_nil, Nat.reduceEqDiff, reduceIte, decide_true, decide_false, Bool.not_true, Bool.not_false, List.getElem?_cons_zero, List.getElem?_cons_succ, Bool.false_eq_true, if_true, if_false, beq_self_eq_true]
      exact ⟨_, rfl⟩
    obtain ⟨R, eR⟩ : ∃ R, R_purserlaw01_OctetWrites_0 = R := ⟨_, rfl⟩
    obtain ⟨Lo, eL⟩ : ∃ R, L_purserlaw01_OctetWrites_1 = R := ⟨_, rfl⟩
    rw [eR, eL] at fin1
    unfold R_purserlaw01_OctetWrites_1
    rw [eR, eL]
    obtain ⟨wl, ewl⟩ : ∃ d, W.length = d := ⟨_, rfl⟩
    rw [ewl] at t6 r2 st1 st2
    simp (config := {maxSteps := 2000000}) (disch := first | omega | rfl | (simp only [ofI_len, List.length_append, List.length_take, List.length_drop, List.length_cons, List.length_nil, List.length_replicate, List.length_set]; done) | (simp only [ofI_len, List.length_append, List.length_take, List.length_drop, List.length_cons, List.length_nil, List.length_replicate, List.length_set]; omega)) only [t5, t6, r2, st1, st2, b_seq, vbeq_str, ↓ns_b2s, ↓s_len, x_lenS, ↓b_xor32, ↓b_and32, ↓b_or32, ↓u_not32, b_xor32, b_and32, b_or32, u_not32, w32ad, ↓x_conv, x_convV, ↓x_fieldAddr, x_fieldV, ↓s_nilchk, x_nilchk, Nat.zero_add, Nat.add_zero, Nat.mul_one, ↓l_loop, ↓l_succ, ↓l_normal, l_normal, l_exit, l_ret, l_iteN, ↓h_put_get, ↓h_new_get, ↓h_del_get, h_next_put, h_next_new, h_next_del, Nat.add_assoc, Nat.add_eq_left, Nat.left_eq_add, Nat.add_left_cancel_iff, ↓s_load, m_load, ↓m_load1, m_load1, ↓m_st, m_stE, m_storeI, m_storeE, w_zero, w_succ, ↓s_alloc, ↓x_idxA, ↓x_idxS, x_idxAE, x_idxSE, x_addrE, x_idx, x_lenS, ↓s_len, ↓x_buildS, x_buildE, ↓x_P0, ↓x_P1, x_fill0, x_filli, x_fills, x_fillb, c_int, List.length_cons, List.length_nil, List.cons_append, List.drop_succ_cons, List.drop_zero, List.drop_nil, List.nil_append, Int.reduceAdd, Int.reduceToNat, Int.reduceLT, Int.reduceLE, Nat.reduceAdd, Nat.reduceMul, Nat.reduceLeDiff, Int.reduceEq, Int.reduceSub, Int.cast_ofNat_Int, s_resc, s_consR, m_load4, m_store4, s_res0, ↓s_skip, ↓s_ops, ↓s_dops, ↓s_seq, ↓s_cond, ↓s_block, ↓s_exit, ↓s_ret, ↓s_scope, ↓s_nil, ↓s_op, ↓s_opg, ↓s_wanted', ↓s_wantV, s_wantV, s_wantV0, beq_true, beq_false, ↓s_bindS, s_bindS, ↓s_bindE, s_bindE, s_bindE_ret, s_bindE_exit, s_bindE_iteN, s_norm, ↓s_condV, s_condV, s_block_ret, s_block_normal, s_block_exit, s_block_iteN, ↓s_getp, ↓s_getp0, ↓s_get, s_get0, ↓s_con, ↓s_fn, ↓s_os0, ↓s_os1, ↓s_list0, ↓s_list1, ↓s_mov, ↓s_pick, ↓s_pickE, s_pickE, ↓s_bin, ↓s_un, ↓s_minmax, ↓s_call, ↓s_callv, ↓s_callV, ↓s_ext, s_same, b_eql, b_neq, b_lss, b_leq, b_gtr, b_geq, b_add, b_sub, b_mul, b_eqlb, b_neqb, b_fnil, b_fnil', b_fnil2, b_fnil2', u_neg, u_not, m_two, s_end, s_end', s_end_iteN, s_res0, s_res1, s_tup1, s_tup2, ↓iteN_true, ↓iteN_false, iteN_true, iteN_false, Nat.zero_add, List.nil_append, List.append_nil, Nat.reduceEqDiff, reduceIte, decide_true, decide_false, Bool.not_true, Bool.not_false, List.getElem?_cons_zero, List.getElem?_cons_succ, Bool.false_eq_true, if_true, if_false, beq_self_eq_true]
    exact fin1 _ (by (simp only [s_getp, s_getp0, Nat.reduceEqDiff, decide_false, decide_true, iteN_false, iteN_true, t1]; try rfl)) (by (simp only [s_getp, s_getp0, Nat.reduceEqDiff, decide_false, decide_true, iteN_false, iteN_true, t5]; try rfl)) (by rw [ewl]; exact (by (simp only [s_getp, s_getp0, Nat.reduceEqDiff, decide_false, decide_true, iteN_false, iteN_true, t6]; try rfl))) (by (simp only [s_getp, s_getp0, Nat.reduceEqDiff, decide_false, decide_true, iteN_false, iteN_true, t5]; try rfl)) (by rw [ewl]; exact (by (simp only [s_getp, s_getp0, Nat.reduceEqDiff, decide_false, decide_true, iteN_false, iteN_true, t6]; try rfl))) (by rw [ewl]; exact (by (simp only [s_getp, s_getp0, Nat.reduceEqDiff, decide_false, decide_true, iteN_false, iteN_true, t6]; try rfl))) (by (simp only [s_getp, s_getp0, Nat.reduceEqDiff, decide_false, decide_true, iteN_false, iteN_true, t6]; try rfl))
  obtain ⟨R, eR⟩ : ∃ R, R_purserlaw01_OctetWrites_1 = R := ⟨_, rfl⟩
  obtain ⟨Lo, eL⟩ : ∃ R, L_purserlaw01_OctetWrites_0 = R := ⟨_, rfl⟩
  rw [eR, eL] at fin0
  rw [eR, eL]
  obtain ⟨L, eOL⟩ : ∃ L, ops.length = L := ⟨_, rfl⟩
  rw [eOL] at gr ⊢
  simp (config := {maxSteps := 2000000}) (disch := first | omega | rfl | (simp only [ofI_len, List.length_append, List.length_take, List.length_drop, List.length_cons, List.length_nil, List.length_replicate, List.length_set]; done) | (simp only [ofI_len, List.length_append, List.length_take, List.length_drop, List.length_cons, List.length_nil, List.length_replicate, List.length_set]; omega)) only [gr, eQ, ↓s_len, x_lenS, ↓b_xor32, ↓b_and32, ↓b_or32, ↓u_not32, b_xor32, b_and32, b_or32, u_not32, w32ad, ↓x_conv, x_convV, ↓x_fieldAddr, x_fieldV, ↓s_nilchk, x_nilchk, Nat.zero_add, Nat.add_zero, Nat.mul_one, ↓l_loop, ↓l_succ, ↓l_normal, l_normal, l_exit, l_ret, l_iteN, ↓h_put_get, ↓h_new_get, ↓h_del_get, h_next_put, h_next_new, h_next_del, Nat.add_assoc, Nat.add_eq_left, Nat.left_eq_add, Nat.add_left_cancel_iff, ↓s_load, m_load, ↓m_load1, m_load1, ↓m_st, m_stE, m_storeI, m_storeE, w_zero, w_succ, ↓s_alloc, ↓x_idxA, ↓x_idxS, x_idxAE, x_idxSE, x_addrE, x_idx, x_lenS, ↓s_len, ↓x_buildS, x_buildE, ↓x_P0, ↓x_P1, x_fill0, x_filli, x_fills, x_fillb, c_int, List.length_cons, List.length_nil, List.cons_append, List.drop_succ_cons, List.drop_zero, List.drop_nil, List.nil_append, Int.reduceAdd, Int.reduceToNat, Int.reduceLT, Int.reduceLE, Nat.reduceAdd, Nat.reduceMul, Nat.reduceLeDiff, Int.reduceEq, Int.reduceSub, Int.cast_ofNat_Int, s_resc, s_consR, m_load4, m_store4, s_res0, ↓s_skip, ↓s_ops, ↓s_dops, ↓s_seq, ↓s_cond, ↓s_block, ↓s_exit, ↓s_ret, ↓s_scope, ↓s_nil, ↓s_op, ↓s_opg, ↓s_wanted', ↓s_wantV, s_wantV, s_wantV0, beq_true, beq_false, ↓s_bindS, s_bindS, ↓s_bindE, s_bindE, s_bindE_ret, s_bindE_exit, s_bindE_iteN, s_norm, ↓s_condV, s_condV, s_block_ret, s_block_normal, s_block_exit, s_block_iteN, ↓s_getp, ↓s_getp0, ↓s_get, s_get0, ↓s_con, ↓s_fn, ↓s_os0, ↓s_os1, ↓s_list0, ↓s_list1, ↓s_mov, ↓s_pick, ↓s_pickE, s_pickE, ↓s_bin, ↓s_un, ↓s_minmax, ↓s_call, ↓s_callv, ↓s_callV, ↓s_ext, s_same, b_eql, b_neq, b_lss, b_leq, b_gtr, b_geq, b_add, b_sub, b_mul, b_eqlb, b_neqb, b_fnil, b_fnil', b_fnil2, b_fnil2', u_neg, u_not, m_two, s_end, s_end', s_end_iteN, s_res0, s_res1, s_tup1, s_tup2, ↓iteN_true, ↓iteN_false, iteN_true, iteN_false, Nat.zero_add, List.nil_append, List.append_nil, Nat.reduceEqDiff, reduceIte, decide_true, decide_false, Bool.not_true, Bool.not_false, List.getElem?_cons_zero, List.getElem?_cons_succ, Bool.false_eq_true, if_true, if_false, beq_self_eq_true]
  exact fin0 _ ⟨by omega, by rw [eOL]; exact (by (simp only [s_getp, s_getp0, Nat.reduceEqDiff, decide_false, decide_true, iteN_false, iteN_true, eL]; try rfl)), (by (simp only [s_getp, s_getp0, Nat.reduceEqDiff, decide_false, decide_true, iteN_false, iteN_true, eL]; try rfl)), (by (simp only [s_getp, s_getp0, Nat.reduceEqDiff, decide_false, decide_true, iteN_false, iteN_true, eL]; try rfl)), by rw [eOL]; exact (by (simp only [s_getp, s_getp0, Nat.reduceEqDiff, decide_false, decide_true, iteN_false, iteN_true, eL]; try rfl)), (by (simp only [s_getp, s_getp0, Nat.reduceEqDiff, decide_false, decide_true, iteN_false, iteN_true, eL]; try rfl)), ⟨none, none, some 0, 0, (by (simp only [s_getp, s_getp0, Nat.reduceEqDiff, decide_false, decide_true, iteN_false, iteN_true, eL]; try rfl)), .new _ _ (by omega) gQ, .nil _, (fun _ _ e => by cases e), (fun _ _ e => by cases e)⟩, kQ⟩
end Go.Eng
