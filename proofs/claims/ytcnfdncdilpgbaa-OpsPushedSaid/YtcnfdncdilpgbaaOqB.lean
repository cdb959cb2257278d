/- What functions of the program come to: own work. -/
import Derived.Test.YtcnfdncdilpgbaaOqA
namespace Go.Eng
open Go
variable {E : Nat → Option Fn} {X : Orc}
set_option linter.unusedSimpArgs false
set_option linter.unusedVariables false
/-- a row of operations that can be read -/
def RowS (h : H) (ops : List Oq) (a : Option (Nat × Nat)) (e : Nat) : Prop := ops = [] ∨ ∃ q off vs md, a = some (q, off) ∧ e = 2 ∧ q < h.next ∧ h.get q = some (.cells vs md) ∧ off + ops.length * 2 ≤ vs.length ∧ ∀ i o, ops[i]? = some o → ∃ b cb eb, (vs.drop (off + i * 2)).take 2 = [.int .u8 (o.code : Int), .slice b o.l.length cb eb] ∧ SrcH h b eb o.l
theorem RowS.mono {h h' : H} {ops : List Oq} {a : Option (Nat × Nat)} {e : Nat} (r : RowS h ops a e) (k : Kp h h') : RowS h' ops a e := by
  rcases r with r | ⟨q, off, vs, md, e1, e2, hq, g, hl, at_⟩
  · exact .inl r
  · exact .inr ⟨q, off, vs, md, e1, e2, Nat.lt_of_lt_of_le hq k.1, by rw [k.2 _ hq, g], hl, fun i o ho => by
      obtain ⟨b, cb, eb, e3, s⟩ := at_ i o ho
      exact ⟨b, cb, eb, e3, s.mono k⟩⟩
theorem RowF.row {lo : Nat} {h : H} {dn : List Oq} {a : Option (Nat × Nat)} {c : Option Nat} {e : Nat} (r : RowF lo h dn a c e) : RowS h dn a e := by
  rcases r with ⟨r, _⟩ | ⟨h1, q, md, ps, e1, e2, e3, g, al, hm, hq, hl⟩
  · exact .inl r
  · refine .inr ⟨q, 0, _, md, e1, e3, hq, g, by rw [flat_len (k := 2) (al_len2 al), al.len]; omega, fun i o ho => ?_⟩
    obtain ⟨p, hp, b, cb, eb, rfl, s, _⟩ := al.get i o ho
    exact ⟨b, cb, eb, by rw [Nat.zero_add]; exact flat_get (al_len2 al) i _ hp, s⟩
theorem RowS.take {h : H} {ops : List Oq} {a : Option (Nat × Nat)} {e : Nat} (r : RowS h ops a e) (n : Nat) : RowS h (ops.take n) a e := by
  rcases r with r | ⟨q, off, vs, md, e1, e2, hq, g, hl, at_⟩
  · left; rw [r, List.take_nil]
  · refine .inr ⟨q, off, vs, md, e1, e2, hq, g, by rw [List.length_take]; omega, fun i o ho => at_ i o ?_⟩
    rw [List.getElem?_take] at ho
    by_cases hi : i < n
    · rw [if_pos hi] at ho; exact ho
    · rw [if_neg hi] at ho; cases ho
theorem RowS.drop {h : H} {ops : List Oq} {a : Option (Nat × Nat)} {e : Nat} (r : RowS h ops a e) (n : Nat) : RowS h (ops.drop n) (upA a (n * 2)) e := by
  rcases r with r | ⟨q, off, vs, md, e1, e2, hq, g, hl, at_⟩
  · left; rw [r, List.drop_nil]
  · by_cases hn : n ≤ ops.length
    · refine .inr ⟨q, off + n * 2, vs, md, by rw [e1]; rfl, e2, hq, g, by rw [List.length_drop]; omega, fun i o ho => ?_⟩
      rw [List.getElem?_drop] at ho
      obtain ⟨b, cb, eb, e3, s⟩ := at_ _ o ho
      exact ⟨b, cb, eb, by rw [show off + n * 2 + i * 2 = off + (n + i) * 2 by omega]; exact e3, s⟩
    · left; exact List.drop_eq_nil_of_le (by omega)
theorem Nw.ap {h0 h : H} {w : List Nat} {a : Option (Nat × Nat)} {c : Option Nat} {e : Nat} (n : Nw h0 h w a c e) (l : List Nat) (hl : w.length + l.length ≤ 1000000) : ∃ a' c' e' h', appendC h 1 1 (.slice a w.length c e) (some (l.length, ofI .u8 l)) = some (.slice a' (w ++ l).length c' e', h') ∧ Nw h0 h' (w ++ l) a' c' e' ∧ h.next ≤ h'.next ∧ (∀ i, i < h.next → a ≠ some (i, 0) → h'.get i = h.get i) ∧ (a' = a ∨ a' = some (h.next, 0)) := by
  obtain ⟨a', c', e', h', r, wb, nx, fr, ow⟩ := ap_wb h w l a c e n.wb hl
  have k := n.kp.1
  refine ⟨a', c', e', h', r, ⟨⟨by omega, fun i hi => by rw [fr i (by omega) (fun e => by have := n.ge _ _ e; omega), n.kp.2 _ hi]⟩, wb, fun q z e => ?_⟩, nx, fr, ow⟩
  rcases ow with o | o
  · exact n.ge q z (by rw [← o]; exact e)
  · rw [o] at e; cases e; exact k
theorem Nw.more {h0 h h' : H} {w : List Nat} {a : Option (Nat × Nat)} {c : Option Nat} {e : Nat} (n : Nw h0 h w a c e) (k : Kp h h') : Nw h0 h' w a c e := ⟨n.kp.trans k, n.wb.kp k, n.ge⟩
theorem lnB_take (c n k : Nat) (hk : k < cnQ c) : (lnB c n).take (k + 1) = (lnB c n).take k ++ [n / 2 ^ (8 * k) % 256] := by
  unfold cnQ at hk
  unfold lnB
  by_cases c7 : c = 77
  · rw [if_pos c7] at hk ⊢
    match k, hk with
    | 0, _ => simp
    | 1, _ => simp
  · rw [if_neg c7] at hk ⊢
    by_cases c6 : c = 76
    · rw [if_pos c6] at hk ⊢
      match k, hk with
      | 0, _ => simp
    · rw [if_neg c6] at hk; omega
theorem shrI (n k : Nat) (hk : k ≤ 1) (e : EqK) (h : H) : binV .shr e h (.int .i64 (n : Int)) (.int .i64 ((8 * k : Nat) : Int)) = some (.int .i64 ((n / 2 ^ (8 * k) : Nat) : Int)) := by
  have e1 : binV .shr e h (.int .i64 (n : Int)) (.int .i64 ((8 * k : Nat) : Int)) = some (.int .i64 ((n / 2 ^ (bif Nat.ble (8 * k) 64 then 8 * k else 64) : Nat) : Int)) := rfl
  rw [e1, cond_ble, if_pos (by omega)]
structure JK (v : V) (n i pb : Nat) (o : Oq) (b : Option (Nat × Nat)) (cb : Option Nat) (eb : Nat) (W : List Nat) (h0 h1 : H) (k : Nat) (T : Tr V) (h : H) : Prop where
  il : k ≤ cnQ o.code
  t8 : evO T (.t 8) = v
  t9 : evO T (.t 9) = .int .i64 (n : Int)
  t10 : evO T (.t 10) = .int .i64 (i : Int)
  t6 : evO T (.t 6) = .ptr (some (pb, 0))
  t24 : evO T (.t 24) = .int .i64 (cnQ o.code : Nat)
  t25 : evO T (.t 25) = .int .i64 (k : Int)
  st : ∃ a c e, evO T (.t 4) = .slice a (W ++ (lnB o.code o.l.length).take k).length c e ∧ Nw h0 h (W ++ (lnB o.code o.l.length).take k) a c e ∧ a ≠ some (pb, 0)
  gx : h.get pb = some (.cells [.int .u8 (o.code : Int), .slice b o.l.length cb eb] .rw)
  lt : pb < h.next
theorem jk_step (Q : Orc) (m n i pb : Nat) (v : V) (o : Oq) (ho : o.l.length < 9223372036854775807) (b : Option (Nat × Nat)) (cb : Option Nat) (eb : Nat) (W : List Nat) (hW : W.length ≤ 900000) (h0 h1 : H) :
    ∀ k T h, k < cnQ o.code → JK v n i pb o b cb eb W h0 h1 k T h → ∃ T' h', evC Q 45 m none L_ops_Join_0 ⟨T, [], h⟩ = some (.normal, ⟨T', [], h'⟩) ∧ JK v n i pb o b cb eb W h0 h1 (k + 1) T' h' := by
  intro k T h hk ⟨_, t8, t9, t10, t6, t24, t25, ⟨a, c, e, t4, nw, na⟩, gx, lt⟩
  have cl := cnQ_le o.code
  have c0 : decide ((k : Int) < (cnQ o.code : Int)) = true := decide_eq_true (by omega)
  have wi : wr .i64 ((k : Int) + 1) = ((k + 1 : Nat) : Int) := by rw [wr_i64 (by omega)]; omega
  have w8 : wr .i64 (8 * (k : Int)) = ((8 * k : Nat) : Int) := by rw [wr_i64 (by omega)]; omega
  have sh := shrI o.l.length k (by omega)
  have wb : wr .u8 ((o.l.length / 2 ^ (8 * k) : Nat) : Int) = ((o.l.length / 2 ^ (8 * k) % 256 : Nat) : Int) := w8n _
  have ll := lnB_len o.code o.l.length
  obtain ⟨y, ey⟩ : ∃ y, o.l.length / 2 ^ (8 * k) % 256 = y := ⟨_, rfl⟩
  have tk := lnB_take o.code o.l.length k hk
  rw [ey] at wb tk
  have hl : (W ++ (lnB o.code o.l.length).take k).length ≤ 900002 := by rw [List.length_append, List.length_take, ll]; omega
  obtain ⟨h2, e2⟩ : ∃ h2, h.new (.cells [.int .u8 (y : Int)] .rw) = h2 := ⟨_, rfl⟩
  have k2 : Kp h h2 := by rw [← e2]; exact Kp.new _ _
  have sc : srcCells h2 1 (.slice (some (h.next, 0)) 1 (some 1) 1) = some (1, ofI .u8 [y]) := by rw [← e2]; exact src1 h y
  obtain ⟨a', c', e', h3, ap, nw3, n3, f3, o3⟩ := (nw.more k2).ap [y] (by simp; omega)
  rw [List.append_assoc, ← tk] at ap nw3
  replace ap : appendC h2 1 1 (.slice a (W ++ (lnB o.code o.l.length).take k).length c e) (some (1, ofI .u8 [y])) = _ := ap
  have gx3 : h3.get pb = some (.cells [.int .u8 (o.code : Int), .slice b o.l.length cb eb] .rw) := by rw [f3 _ (Nat.lt_of_lt_of_le lt k2.1) na, k2.2 _ lt, gx]
  have na3 : a' ≠ some (pb, 0) := by
    rcases o3 with o3 | o3
    · rw [o3]; exact na
    · rw [o3]; intro h; cases h; have := k2.1; omega
  have lt3 : pb < h3.next := by have := k2.1; omega
  have k1 : k + 1 ≤ cnQ o.code := hk
  obtain ⟨N1, eN1⟩ : ∃ n, (W ++ (lnB o.code o.l.length).take k).length = n := ⟨_, rfl⟩
  obtain ⟨N2, eN2⟩ : ∃ n, (W ++ (lnB o.code o.l.length).take (k + 1)).length = n := ⟨_, rfl⟩
  rw [eN1] at t4 ap
  rw [eN2] at ap
  obtain ⟨ol, eol⟩ : ∃ n, o.l.length = n := ⟨_, rfl⟩
  have gxo := gx
  rw [eol] at gxo sh wb
  obtain ⟨z, ez⟩ : ∃ z, ol / 2 ^ (8 * k) = z := ⟨_, rfl⟩
  rw [ez] at sh wb
  obtain ⟨k8, ek8⟩ : ∃ z, 8 * k = z := ⟨_, rfl⟩
  rw [ek8] at sh w8
  exact ⟨_, _, by
    simp (config := {maxSteps := 2000000}) (disch := first | omega | (simp only [List.length_cons, List.length_nil, List.length_append, List.length_drop]; omega)) only [L_ops_Join_0, t4, t6, t8, t9, t10, t24, t25, gxo, c0, wi, w8, sh, wb, e2, sc, ap, ↓s_append, ↓s_len, x_lenS, ↓b_xor32, ↓b_and32, ↓b_or32, ↓u_not32, b_xor32, b_and32, b_or32, u_not32, w32ad, ↓x_conv, x_convV, ↓x_fieldAddr, x_fieldV, ↓s_nilchk, x_nilchk, Nat.zero_add, Nat.add_zero, Nat.mul_one, ↓l_loop, ↓l_succ, ↓l_normal, l_normal, l_exit, l_ret, l_iteN, ↓h_put_get, ↓h_new_get, ↓h_del_get, h_next_put, h_next_new, h_next_del, Nat.add_assoc, Nat.add_eq_left, Nat.left_eq_add, Nat.add_left_cancel_iff, ↓s_load, m_load, ↓m_load1, m_load1, ↓m_st, m_stE, m_storeI, m_storeE, w_zero, w_succ, ↓s_alloc, ↓x_idxA, ↓x_idxS, x_idxAE, x_idxSE, x_addrE, x_idx, x_lenS, ↓s_len, ↓x_buildS, x_buildE, ↓x_P0, ↓x_P1, x_fill0, x_filli, x_fills, x_fillb, c_int, List.length_cons, List.length_nil, List.cons_append, List.drop_succ_cons, List.drop_zero, List.drop_nil, List.nil_append, Int.reduceAdd, Int.reduceToNat, Int.reduceLT, Int.reduceLE, Nat.reduceAdd, Nat.reduceMul, Nat.reduceLeDiff, Int.reduceEq, Int.reduceSub, Int.cast_ofNat_Int, s_resc, s_consR, m_load4, m_store4, s_res0, ↓s_skip, ↓s_ops, ↓s_dops, ↓s_seq, ↓s_cond, ↓s_block, ↓s_exit, ↓s_ret, ↓s_scope, ↓s_nil, ↓s_op, ↓s_opg, ↓s_wanted', ↓s_wantV, s_wantV, s_wantV0, beq_true, beq_false, ↓s_bindS, s_bindS, ↓s_bindE, s_bindE, s_bindE_ret, s_bindE_exit, s_bindE_iteN, s_norm, ↓s_condV, s_condV, s_block_ret, s_block_normal, s_block_exit, s_block_iteN, ↓s_getp, ↓s_getp0, ↓s_get, s_get0, ↓s_con, ↓s_fn, ↓s_os0, ↓s_os1, ↓s_list0, ↓s_list1, ↓s_mov, ↓s_pick, ↓s_pickE, s_pickE, ↓s_bin, ↓s_un, ↓s_minmax, ↓s_call, ↓s_callv, ↓s_callV, ↓s_ext, s_same, b_eql, b_neq, b_lss, b_leq, b_gtr, b_geq, b_add, b_sub, b_mul, b_eqlb, b_neqb, b_fnil, b_fnil', b_fnil2, b_fnil2', u_neg, u_not, m_two, s_end, s_end', s_end_iteN, s_res0, s_res1, s_tup1, s_tup2, ↓iteN_true, ↓iteN_false, iteN_true, iteN_false, Nat.zero_add, List.nil_append, List.append_nil, Nat.reduceEqDiff, reduceIte, decide_true, decide_false, Bool.not_true, Bool.not_false, List.getElem?_cons_zero, List.getElem?_cons_succ, Bool.false_eq_true, if_true, if_false, beq_self_eq_true]
    exact rfl, ⟨k1, (by (simp only [s_getp, s_getp0, Nat.reduceEqDiff, decide_false, decide_true, iteN_false, iteN_true, t8]; try rfl)), (by (simp only [s_getp, s_getp0, Nat.reduceEqDiff, decide_false, decide_true, iteN_false, iteN_true, t9]; try rfl)), (by (simp only [s_getp, s_getp0, Nat.reduceEqDiff, decide_false, decide_true, iteN_false, iteN_true, t10]; try rfl)), (by (simp only [s_getp, s_getp0, Nat.reduceEqDiff, decide_false, decide_true, iteN_false, iteN_true, t6]; try rfl)), (by (simp only [s_getp, s_getp0, Nat.reduceEqDiff, decide_false, decide_true, iteN_false, iteN_true, t24]; try rfl)), (by (simp only [s_getp, s_getp0, Nat.reduceEqDiff, decide_false, decide_true, iteN_false, iteN_true, t25]; try rfl)), ⟨a', c', e', by rw [eN2]; exact (by (simp only [s_getp, s_getp0, Nat.reduceEqDiff, decide_false, decide_true, iteN_false, iteN_true, t8]; try rfl)), nw3, na3⟩, gx3, lt3⟩⟩
end Go.Eng
namespace Go.Eng
open Go
variable {E : Nat → Option Fn} {X : Orc}
set_option linter.unusedSimpArgs false
set_option linter.unusedVariables false
theorem wB_succ (ops : List Oq) (i : Nat) (o : Oq) (h : ops[i]? = some o) : wB (ops.take (i + 1)) = wB (ops.take i) ++ oB o := by
  rw [List.take_add_one, h, wB_app]
  show _ ++ wB [o] = _
  rw [wB_one]
theorem gq_mem (ops : List Oq) (o : Oq) (h : o ∈ ops) : o.l.length ≤ gq ops := by
  induction ops with
  | nil => cases h
  | cons a r ih =>
    simp only [gq]
    rcases List.mem_cons.1 h with rfl | h
    · omega
    · have := ih h; omega
theorem wB_take_le (ops : List Oq) (i : Nat) : (wB (ops.take i)).length ≤ (wB ops).length := by
  have : wB ops = wB (ops.take i) ++ wB (ops.drop i) := by rw [← wB_app, List.take_append_drop]
  rw [this, List.length_append]; omega
structure JI (v : V) (ops : List Oq) (h0 : H) (i : Nat) (T : Tr V) (h : H) : Prop where
  il : i ≤ ops.length
  t8 : evO T (.t 8) = v
  t9 : evO T (.t 9) = .int .i64 (ops.length : Int)
  t10 : evO T (.t 10) = .int .i64 (i : Int)
  st : ∃ a c e, evO T (.t 4) = .slice a (wB (ops.take i)).length c e ∧ Nw h0 h (wB (ops.take i)) a c e
theorem row_at {h : H} {ops : List Oq} {a : Option (Nat × Nat)} {e : Nat} (r : RowS h ops a e) (i : Nat) (o : Oq) (ho : ops[i]? = some o) : ∃ q off vs md b cb eb, a = some (q, off) ∧ e = 2 ∧ q < h.next ∧ h.get q = some (.cells vs md) ∧ loadE (some (.cells vs md)) (some 2) (off + i * 2) = some (.agg [.int .u8 (o.code : Int), .slice b o.l.length cb eb]) ∧ SrcH h b eb o.l ∧ vs[off + i * 2 + 1]? = some (.slice b o.l.length cb eb) := by
  rcases r with r | ⟨q, off, vs, md, e1, e2, hq, g, hl, at_⟩
  · rw [r] at ho; simp at ho
  · obtain ⟨b, cb, eb, e3, s⟩ := at_ i o ho
    have hi : i < ops.length := (List.getElem?_eq_some_iff.1 ho).1
    refine ⟨q, off, vs, md, b, cb, eb, e1, e2, hq, g, by rw [m_loadN, readN_of _ _ _ (by omega), e3], s, ?_⟩
    have : ((vs.drop (off + i * 2)).take 2)[1]? = some (.slice b o.l.length cb eb) := by rw [e3]; rfl
    rw [List.getElem?_take_of_lt (by omega), List.getElem?_drop] at this
    exact this
theorem ji_step (e : EnOp E) (x : NoOp X) (M m : Nat) (hm : 3 < m) (ops : List Oq) (hl : ops.length ≤ 1000000) (hw : (wB ops).length ≤ 800000) (hc : ∀ o ∈ ops, o.code < 256) (a : Option (Nat × Nat)) (c : Option Nat) (ez : Nat) (h0 : H) (row : RowS h0 ops a ez) :
    ∀ i T h, i < ops.length → (∀ o, ops[i]? = some o → okO o = true) → JI (.slice a ops.length c ez) ops h0 i T h → ∃ T' h', evC (callX E X (M + 1)) 45 m none L_ops_Join_1 ⟨T, [], h⟩ = some (.normal, ⟨T', [], h'⟩) ∧ JI (.slice a ops.length c ez) ops h0 (i + 1) T' h' := by
  intro i T0 h hi hv ⟨_, t8, t9, t10, ⟨aw, cw, ew, t4, nw⟩⟩
  have c0 : decide ((i : Int) < (ops.length : Int)) = true := decide_eq_true (by omega)
  have wi : wr .i64 ((i : Int) + 1) = ((i + 1 : Nat) : Int) := by rw [wr_i64 (by omega)]; omega
  have ix : idx (i : Int) ops.length = some i := idxn hi
  obtain ⟨o, ho⟩ : ∃ o, ops[i]? = some o := ⟨_, List.getElem?_eq_getElem hi⟩
  have hcode := hc o (List.mem_of_getElem? ho)
  have vo := hv o ho
  obtain ⟨q, off, vs, md, b, cb, eb, rfl, rfl, hq, gq', ld, sb, _⟩ := row_at row i o ho
  have gv : h.get q = some (.cells vs md) := by rw [nw.kp.2 _ hq, gq']
  have ws := wB_succ ops i o ho
  have wl := wB_take_le ops (i + 1)
  have lw := congrArg List.length ws
  rw [List.length_append, oB_len] at lw
  obtain ⟨h1, eh1⟩ : ∃ h1, (h.new (.cells [.int .u8 0, .slice none 0 (some 0) 0] .rw)).put h.next (.cells [.int .u8 (o.code : Int), .slice b o.l.length cb eb] .rw) = h1 := ⟨_, rfl⟩
  have k1 : Kp h h1 := by rw [← eh1]; (repeat (first | exact Kp.refl _ | refine Kp.put ?_ _ (by first | omega | (simp only [h_next_put, h_next_new, h_next_del]; omega)) | refine Kp.del ?_ (by first | omega | (simp only [h_next_put, h_next_new, h_next_del]; omega)) | refine Kp.trans ?_ (Kp.new _ _)))
  have n1 : h1.next = h.next + 1 := by rw [← eh1]; rfl
  have g1 : h1.get h.next = some (.cells [.int .u8 (o.code : Int), .slice b o.l.length cb eb] .rw) := by rw [← eh1]; exact h_put_same _ _ _
  obtain ⟨h2, rv, k2⟩ := valid_go e x M o hcode (by omega) b cb eb h1
  rw [vo] at rv
  have g2 : h2.get h.next = some (.cells [.int .u8 (o.code : Int), .slice b o.l.length cb eb] .rw) := by rw [k2.2 _ (by omega), g1]
  obtain ⟨h3, eh3⟩ : ∃ h3, h2.new (.cells [.int .u8 (o.code : Int)] .rw) = h3 := ⟨_, rfl⟩
  have k3 : Kp h2 h3 := by rw [← eh3]; exact Kp.new _ _
  have sc3 : srcCells h3 1 (.slice (some (h2.next, 0)) 1 (some 1) 1) = some (1, ofI .u8 [o.code]) := by rw [← eh3]; exact src1 h2 o.code
  have kk2 := k2.1
  have kk3 := k3.1
  have na : aw ≠ some (h.next, 0) := fun ea => absurd (nw.wb.lt ea) (Nat.lt_irrefl _)
  obtain ⟨a4, c4, e4, h4, ap4, nw4, n4, f4, o4⟩ := (((nw.more k1).more k2).more k3).ap [o.code] (by simp; omega)
  replace ap4 : appendC h3 1 1 (.slice aw (wB (ops.take i)).length cw ew) (some (1, ofI .u8 [o.code])) = _ := ap4
  have g4 : h4.get h.next = some (.cells [.int .u8 (o.code : Int), .slice b o.l.length cb eb] .rw) := by rw [f4 _ (by omega) na, k3.2 _ (by omega), g2]
  have na4 : a4 ≠ some (h.next, 0) := by
    rcases o4 with o4 | o4
    · rw [o4]; exact na
    · rw [o4]; intro hx; have := (Prod.mk.inj (Option.some.inj hx)).1; omega
  have rc := fun h => counted_go e x M o.code h
  have i1 : i + 1 ≤ ops.length := hi
  have fin : ∀ T, JK (.slice (some (q, off)) ops.length c 2) ops.length i h.next o b cb eb (wB (ops.take i) ++ [o.code]) h0 h4 0 T h4 → ∃ T' h', bindE (blockE 1 (bindE (blockE 2 (loopN (evC (callX E X (M + 1)) 45 m none L_ops_Join_0) m ⟨T, [], h4⟩)) (evC (callX E X (M + 1)) 45 m none R_ops_Join_0))) (evC (callX E X (M + 1)) 45 m none R_ops_Join_1) = some (.normal, ⟨T', [], h'⟩) ∧ JI (.slice (some (q, off)) ops.length c 2) ops h0 (i + 1) T' h' := by
    intro T I
    obtain ⟨T5, h5, rr, J⟩ := loop_go (f := evC (callX E X (M + 1)) 45 m none L_ops_Join_0) (JK (.slice (some (q, off)) ops.length c 2) ops.length i h.next o b cb eb (wB (ops.take i) ++ [o.code]) h0 h4) (cnQ o.code) (.exit 2) (by intro h; cases h) (JK (.slice (some (q, off)) ops.length c 2) ops.length i h.next o b cb eb (wB (ops.take i) ++ [o.code]) h0 h4 (cnQ o.code)) (jk_step _ m ops.length i h.next _ o (by omega) b cb eb _ (by rw [List.length_append]; simp; omega) h0 h4) (fun T h' I => by
      obtain ⟨il, t8, t9, t10, t6, t24, t25, ⟨a, c, e, t4, st⟩, gx, lt⟩ := I
      have c0 : decide (((cnQ o.code : Nat) : Int) < ((cnQ o.code : Nat) : Int)) = false := decide_eq_false (by omega)
      obtain ⟨N1, eN1⟩ : ∃ n, (wB (ops.take i) ++ [o.code] ++ (lnB o.code o.l.length).take (cnQ o.code)).length = n := ⟨_, rfl⟩
      rw [eN1] at t4
      exact ⟨_, _, by
        simp (config := {maxSteps := 2000000}) (disch := first | omega | (simp only [List.length_cons, List.length_nil, List.length_append, List.length_drop]; omega)) only [L_ops_Join_0, t24, t25, c0, ↓b_xor32, ↓b_and32, ↓b_or32, ↓u_not32, b_xor32, b_and32, b_or32, u_not32, w32ad, ↓x_conv, x_convV, ↓x_fieldAddr, x_fieldV, ↓s_nilchk, x_nilchk, Nat.zero_add, Nat.add_zero, Nat.mul_one, ↓l_loop, ↓l_succ, ↓l_normal, l_normal, l_exit, l_ret, l_iteN, ↓h_put_get, ↓h_new_get, ↓h_del_get, h_next_put, h_next_new, h_next_del, Nat.add_assoc, Nat.add_eq_left, Nat.left_eq_add, Nat.add_left_cancel_iff, ↓s_load, m_load, ↓m_load1, m_load1, ↓m_st, m_stE, m_storeI, m_storeE, w_zero, w_succ, ↓s_alloc, ↓x_idxA, ↓x_idxS, x_idxAE, x_idxSE, x_addrE, x_idx, x_lenS, ↓s_len, ↓x_buildS, x_buildE, ↓x_P0, ↓x_P1, x_fill0, x_filli, x_fills, x_fillb, c_int, List.length_cons, List.length_nil, List.cons_append, List.drop_succ_cons, List.drop_zero, List.drop_nil, List.nil_append, Int.reduceAdd, Int.reduceToNat, Int.reduceLT, Int.reduceLE, Nat.reduceAdd, Nat.reduceMul, Nat.reduceLeDiff, Int.reduceEq, Int.reduceSub, Int.cast_ofNat_Int, s_resc, s_consR, m_load4, m_store4, s_res0, ↓s_skip, ↓s_ops, ↓s_dops, ↓s_seq, ↓s_cond, ↓s_block, ↓s_exit, ↓s_ret, ↓s_scope, ↓s_nil, ↓s_op, ↓s_opg, ↓s_wanted', ↓s_wantV, s_wantV, s_wantV0, beq_true, beq_false, ↓s_bindS, s_bindS, ↓s_bindE, s_bindE, s_bindE_ret, s_bindE_exit, s_bindE_iteN, s_norm, ↓s_condV, s_condV, s_block_ret, s_block_normal, s_block_exit, s_block_iteN, ↓s_getp, ↓s_getp0, ↓s_get, s_get0, ↓s_con, ↓s_fn, ↓s_os0, ↓s_os1, ↓s_list0, ↓s_list1, ↓s_mov, ↓s_pick, ↓s_pickE, s_pickE, ↓s_bin, ↓s_un, ↓s_minmax, ↓s_call, ↓s_callv, ↓s_callV, ↓s_ext, s_same, b_eql, b_neq, b_lss, b_leq, b_gtr, b_geq, b_add, b_sub, b_mul, b_eqlb, b_neqb, b_fnil, b_fnil', b_fnil2, b_fnil2', u_neg, u_not, m_two, s_end, s_end', s_end_iteN, s_res0, s_res1, s_tup1, s_tup2, ↓iteN_true, ↓iteN_false, iteN_true, iteN_false, Nat.zero_add, List.nil_append, List.append_nil, Nat.reduceEqDiff, reduceIte, decide_true, decide_false, Bool.not_true, Bool.not_false, List.getElem?_cons_zero, List.getElem?_cons_succ, Bool.false_eq_true, if_true, if_false, beq_self_eq_true]
        exact rfl, ⟨il, (by (simp only [s_getp, s_getp0, Nat.reduceEqDiff, decide_false, decide_true, iteN_false, iteN_true, t8]; try rfl)), (by (simp only [s_getp, s_getp0, Nat.reduceEqDiff, decide_false, decide_true, iteN_false, iteN_true, t9]; try rfl)), (by (simp only [s_getp, s_getp0, Nat.reduceEqDiff, decide_false, decide_true, iteN_false, iteN_true, t10]; try rfl)), (by (simp only [s_getp, s_getp0, Nat.reduceEqDiff, decide_false, decide_true, iteN_false, iteN_true, t6]; try rfl)), (by (simp only [s_getp, s_getp0, Nat.reduceEqDiff, decide_false, decide_true, iteN_false, iteN_true, t24]; try rfl)), (by (simp only [s_getp, s_getp0, Nat.reduceEqDiff, decide_false, decide_true, iteN_false, iteN_true, t25]; try rfl)), ⟨a, c, e, by rw [eN1]; exact (by (simp only [s_getp, s_getp0, Nat.reduceEqDiff, decide_false, decide_true, iteN_false, iteN_true, t4]; try rfl)), st⟩, gx, lt⟩⟩) (cnQ o.code) 0 (by omega) m (by have := cnQ_le o.code; omega) T h4 I
    rw [rr]
    obtain ⟨_, t8, t9, t10, t6, t24, t25, ⟨a6, c6, e6, t4, nw6, na6⟩, gx, lt⟩ := J
    rw [show (lnB o.code o.l.length).take (cnQ o.code) = lnB o.code o.l.length from List.take_of_length_le (by rw [lnB_len]; exact Nat.le_refl _)] at t4 nw6
    have sc := (sb.mono nw6.kp).cellz cb
    have wsx : wB (ops.take i) ++ [o.code] ++ lnB o.code o.l.length ++ o.l = wB (ops.take (i + 1)) := by
      rw [ws]; unfold oB; simp
    have lx := congrArg List.length wsx
    rw [List.length_append] at lx
    obtain ⟨a7, c7, e7, h7, ap7, nw7, n7, f7, o7⟩ := nw6.ap o.l (by omega)
    rw [wsx] at ap7 nw7
    obtain ⟨N1, eN1⟩ : ∃ n, (wB (ops.take i) ++ [o.code] ++ lnB o.code o.l.length).length = n := ⟨_, rfl⟩
    obtain ⟨N2, eN2⟩ : ∃ n, (wB (ops.take (i + 1))).length = n := ⟨_, rfl⟩
    rw [eN1] at t4 ap7
    rw [eN2] at ap7
    obtain ⟨ol, eol⟩ : ∃ n, o.l.length = n := ⟨_, rfl⟩
    rw [eol] at sc gx ap7
    obtain ⟨on, eon⟩ : ∃ n, ops.length = n := ⟨_, rfl⟩
    rw [eon] at t8 t9
    exact ⟨_, h7, by
      simp (config := {maxSteps := 2000000}) (disch := first | omega | (simp only [List.length_cons, List.length_nil, List.length_append, List.length_drop]; omega)) only [R_ops_Join_0, R_ops_Join_1, t4, t6, t8, t9, t10, gx, sc, ap7, wi, ↓s_append, ↓s_len, x_lenS, ↓b_xor32, ↓b_and32, ↓b_or32, ↓u_not32, b_xor32, b_and32, b_or32, u_not32, w32ad, ↓x_conv, x_convV, ↓x_fieldAddr, x_fieldV, ↓s_nilchk, x_nilchk, Nat.zero_add, Nat.add_zero, Nat.mul_one, ↓l_loop, ↓l_succ, ↓l_normal, l_normal, l_exit, l_ret, l_iteN, ↓h_put_get, ↓h_new_get, ↓h_del_get, h_next_put, h_next_new, h_next_del, Nat.add_assoc, Nat.add_eq_left, Nat.left_eq_add, Nat.add_left_cancel_iff, ↓s_load, m_load, ↓m_load1, m_load1, ↓m_st, m_stE, m_storeI, m_storeE, w_zero, w_succ, ↓s_alloc, ↓x_idxA, ↓x_idxS, x_idxAE, x_idxSE, x_addrE, x_idx, x_lenS, ↓s_len, ↓x_buildS, x_buildE, ↓x_P0, ↓x_P1, x_fill0, x_filli, x_fills, x_fillb, c_int, List.length_cons, List.length_nil, List.cons_append, List.drop_succ_cons, List.drop_zero, List.drop_nil, List.nil_append, Int.reduceAdd, Int.reduceToNat, Int.reduceLT, Int.reduceLE, Nat.reduceAdd, Nat.reduceMul, Nat.reduceLeDiff, Int.reduceEq, Int.reduceSub, Int.cast_ofNat_Int, s_resc, s_consR, m_load4, m_store4, s_res0, ↓s_skip, ↓s_ops, ↓s_dops, ↓s_seq, ↓s_cond, ↓s_block, ↓s_exit, ↓s_ret, ↓s_scope, ↓s_nil, ↓s_op, ↓s_opg, ↓s_wanted', ↓s_wantV, s_wantV, s_wantV0, beq_true, beq_false, ↓s_bindS, s_bindS, ↓s_bindE, s_bindE, s_bindE_ret, s_bindE_exit, s_bindE_iteN, s_norm, ↓s_condV, s_condV, s_block_ret, s_block_normal, s_block_exit, s_block_iteN, ↓s_getp, ↓s_getp0, ↓s_get, s_get0, ↓s_con, ↓s_fn, ↓s_os0, ↓s_os1, ↓s_list0, ↓s_list1, ↓s_mov, ↓s_pick, ↓s_pickE, s_pickE, ↓s_bin, ↓s_un, ↓s_minmax, ↓s_call, ↓s_callv, ↓s_callV, ↓s_ext, s_same, b_eql, b_neq, b_lss, b_leq, b_gtr, b_geq, b_add, b_sub, b_mul, b_eqlb, b_neqb, b_fnil, b_fnil', b_fnil2, b_fnil2', u_neg, u_not, m_two, s_end, s_end', s_end_iteN, s_res0, s_res1, s_tup1, s_tup2, ↓iteN_true, ↓iteN_false, iteN_true, iteN_false, Nat.zero_add, List.nil_append, List.append_nil, Nat.reduceEqDiff, reduceIte, decide_true, decide_false, Bool.not_true, Bool.not_false, List.getElem?_cons_zero, List.getElem?_cons_succ, Bool.false_eq_true, if_true, if_false, beq_self_eq_true]
      exact rfl, ⟨i1, by rw [eon]; exact (by (simp only [s_getp, s_getp0, Nat.reduceEqDiff, decide_false, decide_true, iteN_false, iteN_true, t8]; try rfl)), by rw [eon]; exact (by (simp only [s_getp, s_getp0, Nat.reduceEqDiff, decide_false, decide_true, iteN_false, iteN_true, t9]; try rfl)), (by (simp only [s_getp, s_getp0, Nat.reduceEqDiff, decide_false, decide_true, iteN_false, iteN_true, t10]; try rfl)), ⟨a7, c7, e7, by rw [eN2]; exact (by (simp only [s_getp, s_getp0, Nat.reduceEqDiff, decide_false, decide_true, iteN_false, iteN_true, t4]; try rfl)), nw7⟩⟩⟩
  obtain ⟨R0, eR0⟩ : ∃ R, R_ops_Join_0 = R := ⟨_, rfl⟩
  obtain ⟨R1, eR1⟩ : ∃ R, R_ops_Join_1 = R := ⟨_, rfl⟩
  obtain ⟨Lo, eL⟩ : ∃ R, L_ops_Join_0 = R := ⟨_, rfl⟩
  obtain ⟨on, eon⟩ : ∃ n, ops.length = n := ⟨_, rfl⟩
  obtain ⟨ol, eol⟩ : ∃ n, o.l.length = n := ⟨_, rfl⟩
  obtain ⟨N1, eN1⟩ : ∃ n, (wB (ops.take i)).length = n := ⟨_, rfl⟩
  obtain ⟨N2, eN2⟩ : ∃ n, (wB (ops.take i) ++ [o.code]).length = n := ⟨_, rfl⟩
  obtain ⟨T, I, ec⟩ : ∃ T, JK (.slice (some (q, off)) ops.length c 2) ops.length i h.next o b cb eb (wB (ops.take i) ++ [o.code]) h0 h4 0 T h4 ∧ evC (callX E X (M + 1)) 45 m none L_ops_Join_1 ⟨T0, [], h⟩ = bindE (blockE 1 (bindE (blockE 2 (loopN (evC (callX E X (M + 1)) 45 m none Lo) m ⟨T, [], h4⟩)) (evC (callX E X (M + 1)) 45 m none R0))) (evC (callX E X (M + 1)) 45 m none R1) := by
    rw [eon] at t8 t9 c0 ix
    rw [eN1] at t4 ap4
    rw [eN2] at ap4
    have g2o := g2
    have g4o := g4
    have g1o := g1
    rw [eol] at g2o g4o g1o rv ld eh1
    refine ⟨_, ?_, by
      unfold L_ops_Join_1
      rw [eR0, eR1, eL]
      simp (config := {maxSteps := 2000000}) (disch := first | omega | (simp only [List.length_cons, List.length_nil, List.length_append, List.length_drop]; omega)) only [t4, t8, t9, t10, gv, ld, eh1, g1o, rv, g2o, eh3, sc3, ap4, g4o, rc, c0, ix, st2, st2r, ld2, ↓s_append, ↓s_len, x_lenS, ↓b_xor32, ↓b_and32, ↓b_or32, ↓u_not32, b_xor32, b_and32, b_or32, u_not32, w32ad, ↓x_conv, x_convV, ↓x_fieldAddr, x_fieldV, ↓s_nilchk, x_nilchk, Nat.zero_add, Nat.add_zero, Nat.mul_one, ↓s_evD, ↓s_dnil, ↓s_dL, ↓s_dLg, ↓s_dR, ↓s_dRg, ↓s_dRj, ↓s_dRjg, ↓s_dB, ↓s_dBg, ↓s_dAlloc, ↓s_bindD, s_bindD, s_finD, s_finDx, s_addP0, s_addP1, s_addB, s_lookP, ↓s_bump0, ↓s_bump_get, s_bump_next, s_ok0, ↓s_ok1, s_okR0, ↓s_okR1, ↓s_okE, s_okE, s_okE1, s_nth0, s_nthS, Nat.add_zero, Bool.and_self, Bool.and_true, Bool.true_and, ↓l_loop, ↓l_succ, ↓l_normal, l_normal, l_exit, l_ret, l_iteN, ↓h_put_get, ↓h_new_get, ↓h_del_get, h_next_put, h_next_new, h_next_del, Nat.add_assoc, Nat.add_eq_left, Nat.left_eq_add, Nat.add_left_cancel_iff, ↓s_load, m_load, ↓m_load1, m_load1, ↓m_st, m_stE, m_storeI, m_storeE, w_zero, w_succ, ↓s_alloc, ↓x_idxA, ↓x_idxS, x_idxAE, x_idxSE, x_addrE, x_idx, x_lenS, ↓s_len, ↓x_buildS, x_buildE, ↓x_P0, ↓x_P1, x_fill0, x_filli, x_fills, x_fillb, c_int, List.length_cons, List.length_nil, List.cons_append, List.drop_succ_cons, List.drop_zero, List.drop_nil, List.nil_append, Int.reduceAdd, Int.reduceToNat, Int.reduceLT, Int.reduceLE, Nat.reduceAdd, Nat.reduceMul, Nat.reduceLeDiff, Int.reduceEq, Int.reduceSub, Int.cast_ofNat_Int, s_resc, s_consR, m_load4, m_store4, s_res0, ↓s_skip, ↓s_ops, ↓s_dops, ↓s_seq, ↓s_cond, ↓s_block, ↓s_exit, ↓s_ret, ↓s_scope, ↓s_nil, ↓s_op, ↓s_opg, ↓s_wanted', ↓s_wantV, s_wantV, s_wantV0, beq_true, beq_false, ↓s_bindS, s_bindS, ↓s_bindE, s_bindE, s_bindE_ret, s_bindE_exit, s_bindE_iteN, s_norm, ↓s_condV, s_condV, s_block_ret, s_block_normal, s_block_exit, s_block_iteN, ↓s_getp, ↓s_getp0, ↓s_get, s_get0, ↓s_con, ↓s_fn, ↓s_os0, ↓s_os1, ↓s_list0, ↓s_list1, ↓s_mov, ↓s_pick, ↓s_pickE, s_pickE, ↓s_bin, ↓s_un, ↓s_minmax, ↓s_call, ↓s_callv, ↓s_callV, ↓s_ext, s_same, b_eql, b_neq, b_lss, b_leq, b_gtr, b_geq, b_add, b_sub, b_mul, b_eqlb, b_neqb, b_fnil, b_fnil', b_fnil2, b_fnil2', u_neg, u_not, m_two, s_end, s_end', s_end_iteN, s_res0, s_res1, s_tup1, s_tup2, ↓iteN_true, ↓iteN_false, iteN_true, iteN_false, Nat.zero_add, List.nil_append, List.append_nil, Nat.reduceEqDiff, reduceIte, decide_true, decide_false, Bool.not_true, Bool.not_false, List.getElem?_cons_zero, List.getElem?_cons_succ, Bool.false_eq_true, if_true, if_false, beq_self_eq_true]
      exact rfl⟩
    exact ⟨Nat.zero_le _, by rw [eon]; exact (by (simp only [s_getp, s_getp0, Nat.reduceEqDiff, decide_false, decide_true, iteN_false, iteN_true, t8]; try rfl)), by rw [eon]; exact (by (simp only [s_getp, s_getp0, Nat.reduceEqDiff, decide_false, decide_true, iteN_false, iteN_true, t9]; try rfl)), (by (simp only [s_getp, s_getp0, Nat.reduceEqDiff, decide_false, decide_true, iteN_false, iteN_true, t10]; try rfl)), (by (simp only [s_getp, s_getp0, Nat.reduceEqDiff, decide_false, decide_true, iteN_false, iteN_true, t8]; try rfl)), (by (simp only [s_getp, s_getp0, Nat.reduceEqDiff, decide_false, decide_true, iteN_false, iteN_true, t8]; try rfl)), (by (simp only [s_getp, s_getp0, Nat.reduceEqDiff, decide_false, decide_true, iteN_false, iteN_true, t8]; try rfl)), ⟨a4, c4, e4, by rw [List.take_zero, List.append_nil, eN2]; exact (by (simp only [s_getp, s_getp0, Nat.reduceEqDiff, decide_false, decide_true, iteN_false, iteN_true, t8]; try rfl)), by rw [List.take_zero, List.append_nil]; exact nw4, na4⟩, g4, by omega⟩
  rw [ec, ← eR0, ← eR1, ← eL]
  exact fin T I
end Go.Eng
namespace Go.Eng
open Go
variable {E : Nat → Option Fn} {X : Orc}
set_option linter.unusedSimpArgs false
set_option linter.unusedVariables false
theorem ji_bad (e : EnOp E) (x : NoOp X) (M m : Nat) (ops : List Oq) (hl : ops.length ≤ 1000000) (hw : (wB ops).length ≤ 800000) (hc : ∀ o ∈ ops, o.code < 256) (a : Option (Nat × Nat)) (c : Option Nat) (ez : Nat) (h0 : H) (row : RowS h0 ops a ez) (i : Nat) (o : Oq) (ho : ops[i]? = some o) (vo : okO o = false) (T : Tr V) (h : H) (I : JI (.slice a ops.length c ez) ops h0 i T h) :
    ∃ T' h', evC (callX E X (M + 1)) 45 m none L_ops_Join_1 ⟨T, [], h⟩ = some (.ret, ⟨T', [], h'⟩) ∧ evO T' (.t 2) = .slice none 0 (some 0) 0 ∧ evO T' (.t 3) = .int .i64 100 ∧ Kp h0 h' := by
  have hi : i < ops.length := (List.getElem?_eq_some_iff.1 ho).1
  obtain ⟨_, t8, t9, t10, ⟨aw, cw, ew, t4, nw⟩⟩ := I
  have c0 : decide ((i : Int) < (ops.length : Int)) = true := decide_eq_true (by omega)
  have ix : idx (i : Int) ops.length = some i := idxn hi
  have hcode := hc o (List.mem_of_getElem? ho)
  obtain ⟨q, off, vs, md, b, cb, eb, rfl, rfl, hq, gq', ld, sb, _⟩ := row_at row i o ho
  have gv : h.get q = some (.cells vs md) := by rw [nw.kp.2 _ hq, gq']
  have ol0 : o.l.length < 9223372036854775807 := by
    have h1 : (oB o).length ≤ (wB ops).length := by
      have := wB_succ ops i o ho
      have h2 := wB_take_le ops (i + 1)
      rw [this, List.length_append] at h2; omega
    rw [oB_len] at h1; omega
  obtain ⟨h1, eh1⟩ : ∃ h1, (h.new (.cells [.int .u8 0, .slice none 0 (some 0) 0] .rw)).put h.next (.cells [.int .u8 (o.code : Int), .slice b o.l.length cb eb] .rw) = h1 := ⟨_, rfl⟩
  have k1 : Kp h h1 := by rw [← eh1]; (repeat (first | exact Kp.refl _ | refine Kp.put ?_ _ (by first | omega | (simp only [h_next_put, h_next_new, h_next_del]; omega)) | refine Kp.del ?_ (by first | omega | (simp only [h_next_put, h_next_new, h_next_del]; omega)) | refine Kp.trans ?_ (Kp.new _ _)))
  have g1 : h1.get h.next = some (.cells [.int .u8 (o.code : Int), .slice b o.l.length cb eb] .rw) := by rw [← eh1]; exact h_put_same _ _ _
  obtain ⟨h2, rv, k2⟩ := valid_go e x M o hcode ol0 b cb eb h1
  rw [vo] at rv
  obtain ⟨on, eon⟩ : ∃ n, ops.length = n := ⟨_, rfl⟩
  obtain ⟨ol, eol⟩ : ∃ n, o.l.length = n := ⟨_, rfl⟩
  rw [eon] at t8 t9 c0 ix
  rw [eol] at g1 rv ld eh1
  exact ⟨_, h2, by
    simp (config := {maxSteps := 2000000}) (disch := first | omega | (simp only [List.length_cons, List.length_nil, List.length_append, List.length_drop]; omega)) only [L_ops_Join_1, t4, t8, t9, t10, gv, ld, eh1, g1, rv, c0, ix, st2, st2r, ld2, ↓s_append, ↓s_len, x_lenS, ↓b_xor32, ↓b_and32, ↓b_or32, ↓u_not32, b_xor32, b_and32, b_or32, u_not32, w32ad, ↓x_conv, x_convV, ↓x_fieldAddr, x_fieldV, ↓s_nilchk, x_nilchk, Nat.zero_add, Nat.add_zero, Nat.mul_one, ↓s_evD, ↓s_dnil, ↓s_dL, ↓s_dLg, ↓s_dR, ↓s_dRg, ↓s_dRj, ↓s_dRjg, ↓s_dB, ↓s_dBg, ↓s_dAlloc, ↓s_bindD, s_bindD, s_finD, s_finDx, s_addP0, s_addP1, s_addB, s_lookP, ↓s_bump0, ↓s_bump_get, s_bump_next, s_ok0, ↓s_ok1, s_okR0, ↓s_okR1, ↓s_okE, s_okE, s_okE1, s_nth0, s_nthS, Nat.add_zero, Bool.and_self, Bool.and_true, Bool.true_and, ↓l_loop, ↓l_succ, ↓l_normal, l_normal, l_exit, l_ret, l_iteN, ↓h_put_get, ↓h_new_get, ↓h_del_get, h_next_put, h_next_new, h_next_del, Nat.add_assoc, Nat.add_eq_left, Nat.left_eq_add, Nat.add_left_cancel_iff, ↓s_load, m_load, ↓m_load1, m_load1, ↓m_st, m_stE, m_storeI, m_storeE, w_zero, w_succ, ↓s_alloc, ↓x_idxA, ↓x_idxS, x_idxAE, x_idxSE, x_addrE, x_idx, x_lenS, ↓s_len, ↓x_buildS, x_buildE, ↓x_P0, ↓x_P1, x_fill0, x_filli, x_fills, x_fillb, c_int, List.length_cons, List.length_nil, List.cons_append, List.drop_succ_cons, List.drop_zero, List.drop_nil, List.nil_append, Int.reduceAdd, Int.reduceToNat, Int.reduceLT, Int.reduceLE, Nat.reduceAdd, Nat.reduceMul, Nat.reduceLeDiff, Int.reduceEq, Int.reduceSub, Int.cast_ofNat_Int, s_resc, s_consR, m_load4, m_store4, s_res0, ↓s_skip, ↓s_ops, ↓s_dops, ↓s_seq, ↓s_cond, ↓s_block, ↓s_exit, ↓s_ret, ↓s_scope, ↓s_nil, ↓s_op, ↓s_opg, ↓s_wanted', ↓s_wantV, s_wantV, s_wantV0, beq_true, beq_false, ↓s_bindS, s_bindS, ↓s_bindE, s_bindE, s_bindE_ret, s_bindE_exit, s_bindE_iteN, s_norm, ↓s_condV, s_condV, s_block_ret, s_block_normal, s_block_exit, s_block_iteN, ↓s_getp, ↓s_getp0, ↓s_get, s_get0, ↓s_con, ↓s_fn, ↓s_os0, ↓s_os1, ↓s_list0, ↓s_list1, ↓s_mov, ↓s_pick, ↓s_pickE, s_pickE, ↓s_bin, ↓s_un, ↓s_minmax, ↓s_call, ↓s_callv, ↓s_callV, ↓s_ext, s_same, b_eql, b_neq, b_lss, b_leq, b_gtr, b_geq, b_add, b_sub, b_mul, b_eqlb, b_neqb, b_fnil, b_fnil', b_fnil2, b_fnil2', u_neg, u_not, m_two, s_end, s_end', s_end_iteN, s_res0, s_res1, s_tup1, s_tup2, ↓iteN_true, ↓iteN_false, iteN_true, iteN_false, Nat.zero_add, List.nil_append, List.append_nil, Nat.reduceEqDiff, reduceIte, decide_true, decide_false, Bool.not_true, Bool.not_false, List.getElem?_cons_zero, List.getElem?_cons_succ, Bool.false_eq_true, if_true, if_false, beq_self_eq_true]
    exact rfl, (by (simp only [s_getp, s_getp0, Nat.reduceEqDiff, decide_false, decide_true, iteN_false, iteN_true, t8]; try rfl)), (by (simp only [s_getp, s_getp0, Nat.reduceEqDiff, decide_false, decide_true, iteN_false, iteN_true, t8]; try rfl)), nw.kp.trans (k1.trans k2)⟩
theorem ok_or (ops : List Oq) : (∀ o ∈ ops, okO o = true) ∨ ∃ (j : Nat) (o : Oq), ops[j]? = some o ∧ okO o = false ∧ ∀ (i : Nat) (o' : Oq), i < j → ops[i]? = some o' → okO o' = true := by
  induction ops with
  | nil => exact .inl (fun o ho => by cases ho)
  | cons a r ih =>
    cases ha : okO a with
    | false => exact .inr ⟨0, a, rfl, ha, fun i o' hi => by omega⟩
    | true =>
      rcases ih with ih | ⟨j, o, h1, h2, h3⟩
      · exact .inl (fun o ho => by rcases List.mem_cons.1 ho with rfl | ho; exact ha; exact ih o ho)
      · refine .inr ⟨j + 1, o, by simpa using h1, h2, fun i o' hi ho => ?_⟩
        cases i with
        | zero => simp at ho; subst ho; exact ha
        | succ i => simp at ho; exact h3 i o' (by omega) ho
def joR (ops : List Oq) : List Nat × Nat := if ops.all okO = true then (wB ops, 0) else ([], 100)
theorem join_go (e : EnOp E) (x : NoOp X) (M : Nat) (ops : List Oq) (hl : ops.length ≤ 1000000) (hM : ops.length < M) (hM3 : 3 < M) (hw : (wB ops).length ≤ 800000) (hc : ∀ o ∈ ops, o.code < 256) (a : Option (Nat × Nat)) (c : Option Nat) (ez : Nat) (h : H) (row : RowS h ops a ez) :
    ∃ h' a2 c2 e2, callX E X (M + 2) (.fn k_ops_Join) [.slice a ops.length c ez] h = some (.tup [.slice a2 (joR ops).1.length c2 e2, .int .i64 ((joR ops).2 : Int)], h') ∧ Nw h h' (joR ops).1 a2 c2 e2 := by
  rw [x_cfn e.jo _ _ (Nat.le_of_ble_eq_true rfl) (x.jo _ _)]
  have fin : ∀ T, JI (.slice a ops.length c ez) ops h 0 T h → ∃ h' a2 c2 e2, fnEnd [.tmp 2, .tmp 3] (bindE (blockE 0 (loopN (evC (callX E X (M + 1)) 45 (M + 1) none L_ops_Join_1) (M + 1) ⟨T, [], h⟩)) (evC (callX E X (M + 1)) 45 (M + 1) none R_ops_Join_2)) = some (.tup [.slice a2 (joR ops).1.length c2 e2, .int .i64 ((joR ops).2 : Int)], h') ∧ Nw h h' (joR ops).1 a2 c2 e2 := by
    intro T I
    unfold joR
    rcases ok_or ops with ok | ⟨j, o, ho, vo, hb⟩
    · rw [if_pos (List.all_eq_true.2 ok)]
      obtain ⟨T', h', rr, J⟩ := loop_go (f := evC (callX E X (M + 1)) 45 (M + 1) none L_ops_Join_1) (JI (.slice a ops.length c ez) ops h) ops.length (.exit 0) (by intro h; cases h) (JI (.slice a ops.length c ez) ops h ops.length) (fun i T h' hi I => ji_step e x M (M + 1) (by omega) ops hl hw hc a c ez h row i T h' hi (fun o ho => ok o (List.mem_of_getElem? ho)) I) (fun T h' I => by
        obtain ⟨il, t8, t9, t10, ⟨aw, cw, ew, t4, nw⟩⟩ := I
        have c0 : decide ((ops.length : Int) < (ops.length : Int)) = false := decide_eq_false (by omega)
        obtain ⟨N1, eN1⟩ : ∃ n, (wB (ops.take ops.length)).length = n := ⟨_, rfl⟩
        rw [eN1] at t4
        exact ⟨_, _, by
          simp (config := {maxSteps := 2000000}) (disch := first | omega | (simp only [List.length_cons, List.length_nil, List.length_append, List.length_drop]; omega)) only [L_ops_Join_1, t9, t10, c0, ↓b_xor32, ↓b_and32, ↓b_or32, ↓u_not32, b_xor32, b_and32, b_or32, u_not32, w32ad, ↓x_conv, x_convV, ↓x_fieldAddr, x_fieldV, ↓s_nilchk, x_nilchk, Nat.zero_add, Nat.add_zero, Nat.mul_one, ↓l_loop, ↓l_succ, ↓l_normal, l_normal, l_exit, l_ret, l_iteN, ↓h_put_get, ↓h_new_get, ↓h_del_get, h_next_put, h_next_new, h_next_del, Nat.add_assoc, Nat.add_eq_left, Nat.left_eq_add, Nat.add_left_cancel_iff, ↓s_load, m_load, ↓m_load1, m_load1, ↓m_st, m_stE, m_storeI, m_storeE, w_zero, w_succ, ↓s_alloc, ↓x_idxA, ↓x_idxS, x_idxAE, x_idxSE, x_addrE, x_idx, x_lenS, ↓s_len, ↓x_buildS, x_buildE, ↓x_P0, ↓x_P1, x_fill0, x_filli, x_fills, x_fillb, c_int, List.length_cons, List.length_nil, List.cons_append, List.drop_succ_cons, List.drop_zero, List.drop_nil, List.nil_append, Int.reduceAdd, Int.reduceToNat, Int.reduceLT, Int.reduceLE, Nat.reduceAdd, Nat.reduceMul, Nat.reduceLeDiff, Int.reduceEq, Int.reduceSub, Int.cast_ofNat_Int, s_resc, s_consR, m_load4, m_store4, s_res0, ↓s_skip, ↓s_ops, ↓s_dops, ↓s_seq, ↓s_cond, ↓s_block, ↓s_exit, ↓s_ret, ↓s_scope, ↓s_nil, ↓s_op, ↓s_opg, ↓s_wanted', ↓s_wantV, s_wantV, s_wantV0, beq_true, beq_false, ↓s_bindS, s_bindS, ↓s_bindE, s_bindE, s_bindE_ret, s_bindE_exit, s_bindE_iteN, s_norm, ↓s_condV, s_condV, s_block_ret, s_block_normal, s_block_exit, s_block_iteN, ↓s_getp, ↓s_getp0, ↓s_get, s_get0, ↓s_con, ↓s_fn, ↓s_os0, ↓s_os1, ↓s_list0, ↓s_list1, ↓s_mov, ↓s_pick, ↓s_pickE, s_pickE, ↓s_bin, ↓s_un, ↓s_minmax, ↓s_call, ↓s_callv, ↓s_callV, ↓s_ext, s_same, b_eql, b_neq, b_lss, b_leq, b_gtr, b_geq, b_add, b_sub, b_mul, b_eqlb, b_neqb, b_fnil, b_fnil', b_fnil2, b_fnil2', u_neg, u_not, m_two, s_end, s_end', s_end_iteN, s_res0, s_res1, s_tup1, s_tup2, ↓iteN_true, ↓iteN_false, iteN_true, iteN_false, Nat.zero_add, List.nil_append, List.append_nil, Nat.reduceEqDiff, reduceIte, decide_true, decide_false, Bool.not_true, Bool.not_false, List.getElem?_cons_zero, List.getElem?_cons_succ, Bool.false_eq_true, if_true, if_false, beq_self_eq_true]
          exact rfl, ⟨il, (by (simp only [s_getp, s_getp0, Nat.reduceEqDiff, decide_false, decide_true, iteN_false, iteN_true, t8]; try rfl)), (by (simp only [s_getp, s_getp0, Nat.reduceEqDiff, decide_false, decide_true, iteN_false, iteN_true, t9]; try rfl)), (by (simp only [s_getp, s_getp0, Nat.reduceEqDiff, decide_false, decide_true, iteN_false, iteN_true, t10]; try rfl)), ⟨aw, cw, ew, by rw [eN1]; exact (by (simp only [s_getp, s_getp0, Nat.reduceEqDiff, decide_false, decide_true, iteN_false, iteN_true, t4]; try rfl)), nw⟩⟩⟩) ops.length 0 (by omega) (M + 1) (by omega) T h I
      rw [rr]
      obtain ⟨_, t8, t9, t10, ⟨aw, cw, ew, t4, nw⟩⟩ := J
      rw [List.take_length] at t4 nw
      refine ⟨h', aw, cw, ew, ?_, nw⟩
      simp only
      obtain ⟨N1, eN1⟩ : ∃ n, (wB ops).length = n := ⟨_, rfl⟩
      rw [eN1] at t4 ⊢
      simp (config := {maxSteps := 2000000}) (disch := first | omega | (simp only [List.length_cons, List.length_nil, List.length_append, List.length_drop]; omega)) only [R_ops_Join_2, t4, ↓b_xor32, ↓b_and32, ↓b_or32, ↓u_not32, b_xor32, b_and32, b_or32, u_not32, w32ad, ↓x_conv, x_convV, ↓x_fieldAddr, x_fieldV, ↓s_nilchk, x_nilchk, Nat.zero_add, Nat.add_zero, Nat.mul_one, ↓l_loop, ↓l_succ, ↓l_normal, l_normal, l_exit, l_ret, l_iteN, ↓h_put_get, ↓h_new_get, ↓h_del_get, h_next_put, h_next_new, h_next_del, Nat.add_assoc, Nat.add_eq_left, Nat.left_eq_add, Nat.add_left_cancel_iff, ↓s_load, m_load, ↓m_load1, m_load1, ↓m_st, m_stE, m_storeI, m_storeE, w_zero, w_succ, ↓s_alloc, ↓x_idxA, ↓x_idxS, x_idxAE, x_idxSE, x_addrE, x_idx, x_lenS, ↓s_len, ↓x_buildS, x_buildE, ↓x_P0, ↓x_P1, x_fill0, x_filli, x_fills, x_fillb, c_int, List.length_cons, List.length_nil, List.cons_append, List.drop_succ_cons, List.drop_zero, List.drop_nil, List.nil_append, Int.reduceAdd, Int.reduceToNat, Int.reduceLT, Int.reduceLE, Nat.reduceAdd, Nat.reduceMul, Nat.reduceLeDiff, Int.reduceEq, Int.reduceSub, Int.cast_ofNat_Int, s_resc, s_consR, m_load4, m_store4, s_res0, ↓s_skip, ↓s_ops, ↓s_dops, ↓s_seq, ↓s_cond, ↓s_block, ↓s_exit, ↓s_ret, ↓s_scope, ↓s_nil, ↓s_op, ↓s_opg, ↓s_wanted', ↓s_wantV, s_wantV, s_wantV0, beq_true, beq_false, ↓s_bindS, s_bindS, ↓s_bindE, s_bindE, s_bindE_ret, s_bindE_exit, s_bindE_iteN, s_norm, ↓s_condV, s_condV, s_block_ret, s_block_normal, s_block_exit, s_block_iteN, ↓s_getp, ↓s_getp0, ↓s_get, s_get0, ↓s_con, ↓s_fn, ↓s_os0, ↓s_os1, ↓s_list0, ↓s_list1, ↓s_mov, ↓s_pick, ↓s_pickE, s_pickE, ↓s_bin, ↓s_un, ↓s_minmax, ↓s_call, ↓s_callv, ↓s_callV, ↓s_ext, s_same, b_eql, b_neq, b_lss, b_leq, b_gtr, b_geq, b_add, b_sub, b_mul, b_eqlb, b_neqb, b_fnil, b_fnil', b_fnil2, b_fnil2', u_neg, u_not, m_two, s_end, s_end', s_end_iteN, s_res0, s_res1, s_tup1, s_tup2, ↓iteN_true, ↓iteN_false, iteN_true, iteN_false, Nat.zero_add, List.nil_append, List.append_nil, Nat.reduceEqDiff, reduceIte, decide_true, decide_false, Bool.not_true, Bool.not_false, List.getElem?_cons_zero, List.getElem?_cons_succ, Bool.false_eq_true, if_true, if_false, beq_self_eq_true]
      try rfl
    · rw [if_neg (fun h => by have := List.all_eq_true.1 h o (List.mem_of_getElem? ho); rw [vo] at this; cases this)]
      have hj : j < ops.length := (List.getElem?_eq_some_iff.1 ho).1
      obtain ⟨T', h', rr, t2, t3, k⟩ := loop_go (f := evC (callX E X (M + 1)) 45 (M + 1) none L_ops_Join_1) (JI (.slice a ops.length c ez) ops h) j .ret (by intro h; cases h) (fun T' h' => evO T' (.t 2) = .slice none 0 (some 0) 0 ∧ evO T' (.t 3) = .int .i64 100 ∧ Kp h h') (fun i T h' hi I => ji_step e x M (M + 1) (by omega) ops hl hw hc a c ez h row i T h' (by omega) (fun o' ho' => hb i o' hi ho') I) (fun T h' I => ji_bad e x M (M + 1) ops hl hw hc a c ez h row j o ho vo T h' I) j 0 (by omega) (M + 1) (by omega) T h I
      rw [rr]
      refine ⟨h', none, some 0, 0, ?_, ⟨k, .nil _, fun _ _ e => by cases e⟩⟩
      simp (config := {maxSteps := 2000000}) (disch := first | omega | (simp only [List.length_cons, List.length_nil, List.length_append, List.length_drop]; omega)) only [t2, t3, ↓b_xor32, ↓b_and32, ↓b_or32, ↓u_not32, b_xor32, b_and32, b_or32, u_not32, w32ad, ↓x_conv, x_convV, ↓x_fieldAddr, x_fieldV, ↓s_nilchk, x_nilchk, Nat.zero_add, Nat.add_zero, Nat.mul_one, ↓l_loop, ↓l_succ, ↓l_normal, l_normal, l_exit, l_ret, l_iteN, ↓h_put_get, ↓h_new_get, ↓h_del_get, h_next_put, h_next_new, h_next_del, Nat.add_assoc, Nat.add_eq_left, Nat.left_eq_add, Nat.add_left_cancel_iff, ↓s_load, m_load, ↓m_load1, m_load1, ↓m_st, m_stE, m_storeI, m_storeE, w_zero, w_succ, ↓s_alloc, ↓x_idxA, ↓x_idxS, x_idxAE, x_idxSE, x_addrE, x_idx, x_lenS, ↓s_len, ↓x_buildS, x_buildE, ↓x_P0, ↓x_P1, x_fill0, x_filli, x_fills, x_fillb, c_int, List.length_cons, List.length_nil, List.cons_append, List.drop_succ_cons, List.drop_zero, List.drop_nil, List.nil_append, Int.reduceAdd, Int.reduceToNat, Int.reduceLT, Int.reduceLE, Nat.reduceAdd, Nat.reduceMul, Nat.reduceLeDiff, Int.reduceEq, Int.reduceSub, Int.cast_ofNat_Int, s_resc, s_consR, m_load4, m_store4, s_res0, ↓s_skip, ↓s_ops, ↓s_dops, ↓s_seq, ↓s_cond, ↓s_block, ↓s_exit, ↓s_ret, ↓s_scope, ↓s_nil, ↓s_op, ↓s_opg, ↓s_wanted', ↓s_wantV, s_wantV, s_wantV0, beq_true, beq_false, ↓s_bindS, s_bindS, ↓s_bindE, s_bindE, s_bindE_ret, s_bindE_exit, s_bindE_iteN, s_norm, ↓s_condV, s_condV, s_block_ret, s_block_normal, s_block_exit, s_block_iteN, ↓s_getp, ↓s_getp0, ↓s_get, s_get0, ↓s_con, ↓s_fn, ↓s_os0, ↓s_os1, ↓s_list0, ↓s_list1, ↓s_mov, ↓s_pick, ↓s_pickE, s_pickE, ↓s_bin, ↓s_un, ↓s_minmax, ↓s_call, ↓s_callv, ↓s_callV, ↓s_ext, s_same, b_eql, b_neq, b_lss, b_leq, b_gtr, b_geq, b_add, b_sub, b_mul, b_eqlb, b_neqb, b_fnil, b_fnil', b_fnil2, b_fnil2', u_neg, u_not, m_two, s_end, s_end', s_end_iteN, s_res0, s_res1, s_tup1, s_tup2, ↓iteN_true, ↓iteN_false, iteN_true, iteN_false, Nat.zero_add, List.nil_append, List.append_nil, Nat.reduceEqDiff, reduceIte, decide_true, decide_false, Bool.not_true, Bool.not_false, List.getElem?_cons_zero, List.getElem?_cons_succ, Bool.false_eq_true, if_true, if_false, beq_self_eq_true]
      try rfl
  obtain ⟨R, eR⟩ : ∃ R, R_ops_Join_2 = R := ⟨_, rfl⟩
  obtain ⟨Lo, eL⟩ : ∃ R, L_ops_Join_1 = R := ⟨_, rfl⟩
  rw [eR, eL] at fin ⊢
  obtain ⟨on, eon⟩ : ∃ n, ops.length = n := ⟨_, rfl⟩
  rw [eon] at ⊢
  simp (config := {maxSteps := 2000000}) (disch := first | omega | (simp only [List.length_cons, List.length_nil, List.length_append, List.length_drop]; omega)) only [↓s_len, x_lenS, ↓b_xor32, ↓b_and32, ↓b_or32, ↓u_not32, b_xor32, b_and32, b_or32, u_not32, w32ad, ↓x_conv, x_convV, ↓x_fieldAddr, x_fieldV, ↓s_nilchk, x_nilchk, Nat.zero_add, Nat.add_zero, Nat.mul_one, ↓l_loop, ↓l_succ, ↓l_normal, l_normal, l_exit, l_ret, l_iteN, ↓h_put_get, ↓h_new_get, ↓h_del_get, h_next_put, h_next_new, h_next_del, Nat.add_assoc, Nat.add_eq_left, Nat.left_eq_add, Nat.add_left_cancel_iff, ↓s_load, m_load, ↓m_load1, m_load1, ↓m_st, m_stE, m_storeI, m_storeE, w_zero, w_succ, ↓s_alloc, ↓x_idxA, ↓x_idxS, x_idxAE, x_idxSE, x_addrE, x_idx, x_lenS, ↓s_len, ↓x_buildS, x_buildE, ↓x_P0, ↓x_P1, x_fill0, x_filli, x_fills, x_fillb, c_int, List.length_cons, List.length_nil, List.cons_append, List.drop_succ_cons, List.drop_zero, List.drop_nil, List.nil_append, Int.reduceAdd, Int.reduceToNat, Int.reduceLT, Int.reduceLE, Nat.reduceAdd, Nat.reduceMul, Nat.reduceLeDiff, Int.reduceEq, Int.reduceSub, Int.cast_ofNat_Int, s_resc, s_consR, m_load4, m_store4, s_res0, ↓s_skip, ↓s_ops, ↓s_dops, ↓s_seq, ↓s_cond, ↓s_block, ↓s_exit, ↓s_ret, ↓s_scope, ↓s_nil, ↓s_op, ↓s_opg, ↓s_wanted', ↓s_wantV, s_wantV, s_wantV0, beq_true, beq_false, ↓s_bindS, s_bindS, ↓s_bindE, s_bindE, s_bindE_ret, s_bindE_exit, s_bindE_iteN, s_norm, ↓s_condV, s_condV, s_block_ret, s_block_normal, s_block_exit, s_block_iteN, ↓s_getp, ↓s_getp0, ↓s_get, s_get0, ↓s_con, ↓s_fn, ↓s_os0, ↓s_os1, ↓s_list0, ↓s_list1, ↓s_mov, ↓s_pick, ↓s_pickE, s_pickE, ↓s_bin, ↓s_un, ↓s_minmax, ↓s_call, ↓s_callv, ↓s_callV, ↓s_ext, s_same, b_eql, b_neq, b_lss, b_leq, b_gtr, b_geq, b_add, b_sub, b_mul, b_eqlb, b_neqb, b_fnil, b_fnil', b_fnil2, b_fnil2', u_neg, u_not, m_two, s_end, s_end', s_end_iteN, s_res0, s_res1, s_tup1, s_tup2, ↓iteN_true, ↓iteN_false, iteN_true, iteN_false, Nat.zero_add, List.nil_append, List.append_nil, Nat.reduceEqDiff, reduceIte, decide_true, decide_false, Bool.not_true, Bool.not_false, List.getElem?_cons_zero, List.getElem?_cons_succ, Bool.false_eq_true, if_true, if_false, beq_self_eq_true]
  exact fin _ ⟨Nat.zero_le _, by rw [eon]; exact (by (simp only [s_getp, s_getp0, Nat.reduceEqDiff, decide_false, decide_true, iteN_false, iteN_true, eL]; try rfl)), by rw [eon]; exact (by (simp only [s_getp, s_getp0, Nat.reduceEqDiff, decide_false, decide_true, iteN_false, iteN_true, eL]; try rfl)), (by (simp only [s_getp, s_getp0, Nat.reduceEqDiff, decide_false, decide_true, iteN_false, iteN_true, eL]; try rfl)), ⟨none, some 0, 0, by rw [List.take_zero]; exact (by (simp only [s_getp, s_getp0, Nat.reduceEqDiff, decide_false, decide_true, iteN_false, iteN_true, eL]; try rfl)), by rw [List.take_zero]; exact ⟨Kp.refl _, .nil _, fun _ _ e => by cases e⟩⟩⟩
end Go.Eng
namespace Go.Eng
open Go
variable {E : Nat → Option Fn} {X : Orc}
set_option linter.unusedSimpArgs false
set_option linter.unusedVariables false
theorem bequal_go (e : EnOp E) (x : NoOp X) (N : Nat) (l m : List Nat) (bl : byt l = true) (bm : byt m = true) (a b : Option (Nat × Nat)) (c d : Option Nat) (ea eb : Nat) (h : H) (sl : SrcH h a ea l) (sm : SrcH h b eb m) :
    callX E X (N + 1) (.fn k_bytes_Equal) [.slice a l.length c ea, .slice b m.length d eb] h = some (.bool (decide (l = m)), h) := by
  rw [x_cfn e.be _ _ (Nat.le_of_ble_eq_true rfl) (x.be _ _)]
  have s1 := str_src sl bl c
  have s2 := str_src sm bm d
  generalize l.length = n at *
  generalize m.length = k at *
  simp (config := {maxSteps := 2000000}) (disch := first | omega | (simp only [List.length_cons, List.length_nil, List.length_append, List.length_drop]; omega)) only [s1, s2, b_seq, ↓ns_b2s, ↓b_xor32, ↓b_and32, ↓b_or32, ↓u_not32, b_xor32, b_and32, b_or32, u_not32, w32ad, ↓x_conv, x_convV, ↓x_fieldAddr, x_fieldV, ↓s_nilchk, x_nilchk, Nat.zero_add, Nat.add_zero, Nat.mul_one, ↓l_loop, ↓l_succ, ↓l_normal, l_normal, l_exit, l_ret, l_iteN, ↓h_put_get, ↓h_new_get, ↓h_del_get, h_next_put, h_next_new, h_next_del, Nat.add_assoc, Nat.add_eq_left, Nat.left_eq_add, Nat.add_left_cancel_iff, ↓s_load, m_load, ↓m_load1, m_load1, ↓m_st, m_stE, m_storeI, m_storeE, w_zero, w_succ, ↓s_alloc, ↓x_idxA, ↓x_idxS, x_idxAE, x_idxSE, x_addrE, x_idx, x_lenS, ↓s_len, ↓x_buildS, x_buildE, ↓x_P0, ↓x_P1, x_fill0, x_filli, x_fills, x_fillb, c_int, List.length_cons, List.length_nil, List.cons_append, List.drop_succ_cons, List.drop_zero, List.drop_nil, List.nil_append, Int.reduceAdd, Int.reduceToNat, Int.reduceLT, Int.reduceLE, Nat.reduceAdd, Nat.reduceMul, Nat.reduceLeDiff, Int.reduceEq, Int.reduceSub, Int.cast_ofNat_Int, s_resc, s_consR, m_load4, m_store4, s_res0, ↓s_skip, ↓s_ops, ↓s_dops, ↓s_seq, ↓s_cond, ↓s_block, ↓s_exit, ↓s_ret, ↓s_scope, ↓s_nil, ↓s_op, ↓s_opg, ↓s_wanted', ↓s_wantV, s_wantV, s_wantV0, beq_true, beq_false, ↓s_bindS, s_bindS, ↓s_bindE, s_bindE, s_bindE_ret, s_bindE_exit, s_bindE_iteN, s_norm, ↓s_condV, s_condV, s_block_ret, s_block_normal, s_block_exit, s_block_iteN, ↓s_getp, ↓s_getp0, ↓s_get, s_get0, ↓s_con, ↓s_fn, ↓s_os0, ↓s_os1, ↓s_list0, ↓s_list1, ↓s_mov, ↓s_pick, ↓s_pickE, s_pickE, ↓s_bin, ↓s_un, ↓s_minmax, ↓s_call, ↓s_callv, ↓s_callV, ↓s_ext, s_same, b_eql, b_neq, b_lss, b_leq, b_gtr, b_geq, b_add, b_sub, b_mul, b_eqlb, b_neqb, b_fnil, b_fnil', b_fnil2, b_fnil2', u_neg, u_not, m_two, s_end, s_end', s_end_iteN, s_res0, s_res1, s_tup1, s_tup2, ↓iteN_true, ↓iteN_false, iteN_true, iteN_false, Nat.zero_add, List.nil_append, List.append_nil, Nat.reduceEqDiff, reduceIte, decide_true, decide_false, Bool.not_true, Bool.not_false, List.getElem?_cons_zero, List.getElem?_cons_succ, Bool.false_eq_true, if_true, if_false, beq_self_eq_true]
theorem sameOp_go (e : EnOp E) (x : NoOp X) (N : Nat) (o p : Oq) (ok : o.ok) (pk : p.ok) (a b : Option (Nat × Nat)) (c d : Option Nat) (ea eb : Nat) (h : H) (so : SrcH h a ea o.l) (sp : SrcH h b eb p.l) :
    ∃ h', callX E X (N + 2) (.fn k_ops_sameOp) [.agg [.int .u8 (o.code : Int), .slice a o.l.length c ea], .agg [.int .u8 (p.code : Int), .slice b p.l.length d eb]] h = some (.bool (decide (o = p)), h') ∧ Kp h h' := by
  rw [x_cfn e.so _ _ (Nat.le_of_ble_eq_true rfl) (x.so _ _)]
  have ca : ∀ l : List V, (V.agg l).cells = l := fun _ => rfl
  obtain ⟨hA, eA⟩ : ∃ hA, (h.new (.cells [.int .u8 (o.code : Int), .slice a o.l.length c ea] .rw)).new (.cells [.int .u8 (p.code : Int), .slice b p.l.length d eb] .rw) = hA := ⟨_, rfl⟩
  have kA : Kp h hA := by rw [← eA]; (repeat (first | exact Kp.refl _ | refine Kp.put ?_ _ (by first | omega | (simp only [h_next_put, h_next_new, h_next_del]; omega)) | refine Kp.del ?_ (by first | omega | (simp only [h_next_put, h_next_new, h_next_del]; omega)) | refine Kp.trans ?_ (Kp.new _ _)))
  have g1 : hA.get h.next = some (.cells [.int .u8 (o.code : Int), .slice a o.l.length c ea] .rw) := by rw [← eA]; (simp (disch := omega) only [l_loop, l_succ, l_normal, l_normal, l_exit, l_ret, l_iteN, h_put_get, h_new_get, h_del_get, h_next_put, h_next_new, h_next_del, Nat.add_assoc, Nat.add_eq_left, Nat.left_eq_add, Nat.add_left_cancel_iff, s_load, m_load, m_load1, m_load1, m_st, m_stE, m_storeI, m_storeE, w_zero, w_succ, s_alloc, x_idxA, x_idxS, x_idxAE, x_idxSE, x_addrE, x_idx, x_lenS, s_len, x_buildS, x_buildE, x_P0, x_P1, x_fill0, x_filli, x_fills, x_fillb, c_int, List.length_cons, List.length_nil, List.cons_append, List.drop_succ_cons, List.drop_zero, List.drop_nil, List.nil_append, Int.reduceAdd, Int.reduceToNat, Int.reduceLT, Int.reduceLE, Nat.reduceAdd, Nat.reduceMul, Nat.reduceLeDiff, Int.reduceEq, Int.reduceSub, Int.cast_ofNat_Int, s_resc, s_consR, m_load4, m_store4, s_res0, decide_true, decide_false, iteN_true, iteN_false, Nat.reduceEqDiff, Nat.reduceAdd, reduceCtorEq, ]; try rfl)
  have g2 : hA.get (h.next + 1) = some (.cells [.int .u8 (p.code : Int), .slice b p.l.length d eb] .rw) := by rw [← eA]; (simp (disch := omega) only [l_loop, l_succ, l_normal, l_normal, l_exit, l_ret, l_iteN, h_put_get, h_new_get, h_del_get, h_next_put, h_next_new, h_next_del, Nat.add_assoc, Nat.add_eq_left, Nat.left_eq_add, Nat.add_left_cancel_iff, s_load, m_load, m_load1, m_load1, m_st, m_stE, m_storeI, m_storeE, w_zero, w_succ, s_alloc, x_idxA, x_idxS, x_idxAE, x_idxSE, x_addrE, x_idx, x_lenS, s_len, x_buildS, x_buildE, x_P0, x_P1, x_fill0, x_filli, x_fills, x_fillb, c_int, List.length_cons, List.length_nil, List.cons_append, List.drop_succ_cons, List.drop_zero, List.drop_nil, List.nil_append, Int.reduceAdd, Int.reduceToNat, Int.reduceLT, Int.reduceLE, Nat.reduceAdd, Nat.reduceMul, Nat.reduceLeDiff, Int.reduceEq, Int.reduceSub, Int.cast_ofNat_Int, s_resc, s_consR, m_load4, m_store4, s_res0, decide_true, decide_false, iteN_true, iteN_false, Nat.reduceEqDiff, Nat.reduceAdd, reduceCtorEq, ]; try rfl)
  refine ⟨hA, ?_, kA⟩
  have rb := bequal_go e x N o.l p.l ok.bl pk.bl a b c d ea eb hA (so.mono kA) (sp.mono kA)
  have oc := ok.cl
  have pc := pk.cl
  by_cases ec : o.code = p.code
  · have c0 : decide ((o.code : Int) = (p.code : Int)) = true := decide_eq_true (by omega)
    have er : decide (o.l = p.l) = decide (o = p) := by
      rw [decide_eq_decide]
      constructor
      · intro h; cases o; cases p; simp_all
      · intro h; rw [h]
    rw [er] at rb
    generalize o.l.length = n at *
    generalize p.l.length = k at *
    simp (config := {maxSteps := 2000000}) (disch := first | omega | (simp only [List.length_cons, List.length_nil, List.length_append, List.length_drop]; omega)) only [ca, eA, g1, g2, rb, c0, ↓s_box, ↓b_xor32, ↓b_and32, ↓b_or32, ↓u_not32, b_xor32, b_and32, b_or32, u_not32, w32ad, ↓x_conv, x_convV, ↓x_fieldAddr, x_fieldV, ↓s_nilchk, x_nilchk, Nat.zero_add, Nat.add_zero, Nat.mul_one, ↓s_evD, ↓s_dnil, ↓s_dL, ↓s_dLg, ↓s_dR, ↓s_dRg, ↓s_dRj, ↓s_dRjg, ↓s_dB, ↓s_dBg, ↓s_dAlloc, ↓s_bindD, s_bindD, s_finD, s_finDx, s_addP0, s_addP1, s_addB, s_lookP, ↓s_bump0, ↓s_bump_get, s_bump_next, s_ok0, ↓s_ok1, s_okR0, ↓s_okR1, ↓s_okE, s_okE, s_okE1, s_nth0, s_nthS, Nat.add_zero, Bool.and_self, Bool.and_true, Bool.true_and, ↓l_loop, ↓l_succ, ↓l_normal, l_normal, l_exit, l_ret, l_iteN, ↓h_put_get, ↓h_new_get, ↓h_del_get, h_next_put, h_next_new, h_next_del, Nat.add_assoc, Nat.add_eq_left, Nat.left_eq_add, Nat.add_left_cancel_iff, ↓s_load, m_load, ↓m_load1, m_load1, ↓m_st, m_stE, m_storeI, m_storeE, w_zero, w_succ, ↓s_alloc, ↓x_idxA, ↓x_idxS, x_idxAE, x_idxSE, x_addrE, x_idx, x_lenS, ↓s_len, ↓x_buildS, x_buildE, ↓x_P0, ↓x_P1, x_fill0, x_filli, x_fills, x_fillb, c_int, List.length_cons, List.length_nil, List.cons_append, List.drop_succ_cons, List.drop_zero, List.drop_nil, List.nil_append, Int.reduceAdd, Int.reduceToNat, Int.reduceLT, Int.reduceLE, Nat.reduceAdd, Nat.reduceMul, Nat.reduceLeDiff, Int.reduceEq, Int.reduceSub, Int.cast_ofNat_Int, s_resc, s_consR, m_load4, m_store4, s_res0, ↓s_skip, ↓s_ops, ↓s_dops, ↓s_seq, ↓s_cond, ↓s_block, ↓s_exit, ↓s_ret, ↓s_scope, ↓s_nil, ↓s_op, ↓s_opg, ↓s_wanted', ↓s_wantV, s_wantV, s_wantV0, beq_true, beq_false, ↓s_bindS, s_bindS, ↓s_bindE, s_bindE, s_bindE_ret, s_bindE_exit, s_bindE_iteN, s_norm, ↓s_condV, s_condV, s_block_ret, s_block_normal, s_block_exit, s_block_iteN, ↓s_getp, ↓s_getp0, ↓s_get, s_get0, ↓s_con, ↓s_fn, ↓s_os0, ↓s_os1, ↓s_list0, ↓s_list1, ↓s_mov, ↓s_pick, ↓s_pickE, s_pickE, ↓s_bin, ↓s_un, ↓s_minmax, ↓s_call, ↓s_callv, ↓s_callV, ↓s_ext, s_same, b_eql, b_neq, b_lss, b_leq, b_gtr, b_geq, b_add, b_sub, b_mul, b_eqlb, b_neqb, b_fnil, b_fnil', b_fnil2, b_fnil2', u_neg, u_not, m_two, s_end, s_end', s_end_iteN, s_res0, s_res1, s_tup1, s_tup2, ↓iteN_true, ↓iteN_false, iteN_true, iteN_false, Nat.zero_add, List.nil_append, List.append_nil, Nat.reduceEqDiff, reduceIte, decide_true, decide_false, Bool.not_true, Bool.not_false, List.getElem?_cons_zero, List.getElem?_cons_succ, Bool.false_eq_true, if_true, if_false, beq_self_eq_true]
  · have c0 : decide ((o.code : Int) = (p.code : Int)) = false := decide_eq_false (by omega)
    rw [decide_eq_false (fun h => ec (by rw [h]))]
    generalize o.l.length = n at *
    generalize p.l.length = k at *
    simp (config := {maxSteps := 2000000}) (disch := first | omega | (simp only [List.length_cons, List.length_nil, List.length_append, List.length_drop]; omega)) only [ca, eA, g1, g2, c0, ↓s_box, ↓b_xor32, ↓b_and32, ↓b_or32, ↓u_not32, b_xor32, b_and32, b_or32, u_not32, w32ad, ↓x_conv, x_convV, ↓x_fieldAddr, x_fieldV, ↓s_nilchk, x_nilchk, Nat.zero_add, Nat.add_zero, Nat.mul_one, ↓s_evD, ↓s_dnil, ↓s_dL, ↓s_dLg, ↓s_dR, ↓s_dRg, ↓s_dRj, ↓s_dRjg, ↓s_dB, ↓s_dBg, ↓s_dAlloc, ↓s_bindD, s_bindD, s_finD, s_finDx, s_addP0, s_addP1, s_addB, s_lookP, ↓s_bump0, ↓s_bump_get, s_bump_next, s_ok0, ↓s_ok1, s_okR0, ↓s_okR1, ↓s_okE, s_okE, s_okE1, s_nth0, s_nthS, Nat.add_zero, Bool.and_self, Bool.and_true, Bool.true_and, ↓l_loop, ↓l_succ, ↓l_normal, l_normal, l_exit, l_ret, l_iteN, ↓h_put_get, ↓h_new_get, ↓h_del_get, h_next_put, h_next_new, h_next_del, Nat.add_assoc, Nat.add_eq_left, Nat.left_eq_add, Nat.add_left_cancel_iff, ↓s_load, m_load, ↓m_load1, m_load1, ↓m_st, m_stE, m_storeI, m_storeE, w_zero, w_succ, ↓s_alloc, ↓x_idxA, ↓x_idxS, x_idxAE, x_idxSE, x_addrE, x_idx, x_lenS, ↓s_len, ↓x_buildS, x_buildE, ↓x_P0, ↓x_P1, x_fill0, x_filli, x_fills, x_fillb, c_int, List.length_cons, List.length_nil, List.cons_append, List.drop_succ_cons, List.drop_zero, List.drop_nil, List.nil_append, Int.reduceAdd, Int.reduceToNat, Int.reduceLT, Int.reduceLE, Nat.reduceAdd, Nat.reduceMul, Nat.reduceLeDiff, Int.reduceEq, Int.reduceSub, Int.cast_ofNat_Int, s_resc, s_consR, m_load4, m_store4, s_res0, ↓s_skip, ↓s_ops, ↓s_dops, ↓s_seq, ↓s_cond, ↓s_block, ↓s_exit, ↓s_ret, ↓s_scope, ↓s_nil, ↓s_op, ↓s_opg, ↓s_wanted', ↓s_wantV, s_wantV, s_wantV0, beq_true, beq_false, ↓s_bindS, s_bindS, ↓s_bindE, s_bindE, s_bindE_ret, s_bindE_exit, s_bindE_iteN, s_norm, ↓s_condV, s_condV, s_block_ret, s_block_normal, s_block_exit, s_block_iteN, ↓s_getp, ↓s_getp0, ↓s_get, s_get0, ↓s_con, ↓s_fn, ↓s_os0, ↓s_os1, ↓s_list0, ↓s_list1, ↓s_mov, ↓s_pick, ↓s_pickE, s_pickE, ↓s_bin, ↓s_un, ↓s_minmax, ↓s_call, ↓s_callv, ↓s_callV, ↓s_ext, s_same, b_eql, b_neq, b_lss, b_leq, b_gtr, b_geq, b_add, b_sub, b_mul, b_eqlb, b_neqb, b_fnil, b_fnil', b_fnil2, b_fnil2', u_neg, u_not, m_two, s_end, s_end', s_end_iteN, s_res0, s_res1, s_tup1, s_tup2, ↓iteN_true, ↓iteN_false, iteN_true, iteN_false, Nat.zero_add, List.nil_append, List.append_nil, Nat.reduceEqDiff, reduceIte, decide_true, decide_false, Bool.not_true, Bool.not_false, List.getElem?_cons_zero, List.getElem?_cons_succ, Bool.false_eq_true, if_true, if_false, beq_self_eq_true]
structure EqI (va vb : V) (n : Nat) (h0 : H) (i : Nat) (T : Tr V) (h : H) : Prop where
  il : i ≤ n
  t1 : evO T (.t 1) = vb
  t2 : evO T (.t 2) = .fn k_ops_sameOp [] []
  t15 : evO T (.t 15) = va
  t16 : evO T (.t 16) = .int .i64 (n : Int)
  t17 : evO T (.t 17) = .int .i64 (i : Int)
  kp : Kp h0 h
theorem ei_round (e : EnOp E) (x : NoOp X) (M m : Nat) (as bs : List Oq) (hl : as.length = bs.length) (hn : as.length ≤ 1000000) (ok : ∀ o ∈ as, o.ok) (pk : ∀ o ∈ bs, o.ok) (a b : Option (Nat × Nat)) (c d : Option Nat) (ea eb : Nat) (h0 : H) (ra : RowS h0 as a ea) (rb : RowS h0 bs b eb) (i : Nat) (T : Tr V) (h : H) (o p : Oq) (ho : as[i]? = some o) (hp : bs[i]? = some p) (I : EqI (.slice a as.length c ea) (.slice b bs.length d eb) as.length h0 i T h) :
    ∃ T' h', Kp h0 h' ∧ (o = p → evC (callX E X (M + 3)) 32 m none L_slices_EqualFunc_api_Op_api_Op_api_Op_api_Op_0 ⟨T, [], h⟩ = some (.normal, ⟨T', [], h'⟩) ∧ EqI (.slice a as.length c ea) (.slice b bs.length d eb) as.length h0 (i + 1) T' h') ∧ (o ≠ p → evC (callX E X (M + 3)) 32 m none L_slices_EqualFunc_api_Op_api_Op_api_Op_api_Op_0 ⟨T, [], h⟩ = some (.ret, ⟨T', [], h'⟩) ∧ evO T' (.t 6) = .bool false) := by
  have hi : i < as.length := (List.getElem?_eq_some_iff.1 ho).1
  obtain ⟨_, t1, t2, t15, t16, t17, kp⟩ := I
  have c0 : decide ((i : Int) < (as.length : Int)) = true := decide_eq_true (by omega)
  have wi : wr .i64 ((i : Int) + 1) = ((i + 1 : Nat) : Int) := by rw [wr_i64 (by omega)]; omega
  have ix : idx (i : Int) as.length = some i := idxn hi
  have ix2 : idx (i : Int) bs.length = some i := idxn (by omega)
  obtain ⟨q, off, vs, md, b1, cb1, eb1, rfl, rfl, hq, gq', ld, sb, _⟩ := row_at ra i o ho
  obtain ⟨q2, off2, vs2, md2, b2, cb2, eb2, rfl, rfl, hq2, gq2, lo2, sb2, _⟩ := row_at rb i p hp
  obtain ⟨h1, eh1⟩ : ∃ h1, (h.new (.cells [.int .u8 0, .slice none 0 (some 0) 0] .rw)).put h.next (.cells [.int .u8 (o.code : Int), .slice b1 o.l.length cb1 eb1] .rw) = h1 := ⟨_, rfl⟩
  have k1 : Kp h h1 := by rw [← eh1]; (repeat (first | exact Kp.refl _ | refine Kp.put ?_ _ (by first | omega | (simp only [h_next_put, h_next_new, h_next_del]; omega)) | refine Kp.del ?_ (by first | omega | (simp only [h_next_put, h_next_new, h_next_del]; omega)) | refine Kp.trans ?_ (Kp.new _ _)))
  have n1 : h1.next = h.next + 1 := by rw [← eh1]; rfl
  have g1 : h1.get h.next = some (.cells [.int .u8 (o.code : Int), .slice b1 o.l.length cb1 eb1] .rw) := by rw [← eh1]; exact h_put_same _ _ _
  obtain ⟨h2, eh2⟩ : ∃ h2, (h1.new (.cells [.int .u8 0, .slice none 0 (some 0) 0] .rw)).put h1.next (.cells [.int .u8 (p.code : Int), .slice b2 p.l.length cb2 eb2] .rw) = h2 := ⟨_, rfl⟩
  have k2 : Kp h1 h2 := by rw [← eh2]; (repeat (first | exact Kp.refl _ | refine Kp.put ?_ _ (by first | omega | (simp only [h_next_put, h_next_new, h_next_del]; omega)) | refine Kp.del ?_ (by first | omega | (simp only [h_next_put, h_next_new, h_next_del]; omega)) | refine Kp.trans ?_ (Kp.new _ _)))
  have g21 : h2.get h.next = some (.cells [.int .u8 (o.code : Int), .slice b1 o.l.length cb1 eb1] .rw) := by rw [k2.2 _ (by omega), g1]
  have g22 : h2.get h1.next = some (.cells [.int .u8 (p.code : Int), .slice b2 p.l.length cb2 eb2] .rw) := by rw [← eh2]; exact h_put_same _ _ _
  have k02 := kp.trans (k1.trans k2)
  have gva : h.get q = some (.cells vs md) := by rw [kp.2 _ hq, gq']
  have gvb : h1.get q2 = some (.cells vs2 md2) := by rw [(kp.trans k1).2 _ hq2, gq2]
  obtain ⟨h3, rs, k3⟩ := sameOp_go e x (M + 1) o p (ok o (List.mem_of_getElem? ho)) (pk p (List.mem_of_getElem? hp)) b1 b2 cb1 cb2 eb1 eb2 h2 (sb.mono k02) (sb2.mono k02)
  have i1 : i + 1 ≤ as.length := hi
  obtain ⟨n, en⟩ : ∃ n, as.length = n := ⟨_, rfl⟩
  obtain ⟨n2, en2⟩ : ∃ n, bs.length = n := ⟨_, rfl⟩
  obtain ⟨l1, el1⟩ : ∃ n, o.l.length = n := ⟨_, rfl⟩
  obtain ⟨l2, el2⟩ : ∃ n, p.l.length = n := ⟨_, rfl⟩
  rw [en] at t15 t16 c0 ix
  rw [en2] at t1 ix2
  rw [el1] at g21 ld rs eh1
  rw [el2] at g22 lo2 rs eh2
  by_cases eo : o = p
  · rw [decide_eq_true eo] at rs
    obtain ⟨T', r, u1, u2, u15, u16, u17⟩ : ∃ T', evC (callX E X (M + 3)) 32 m none L_slices_EqualFunc_api_Op_api_Op_api_Op_api_Op_0 ⟨T, [], h⟩ = some (.normal, ⟨T', [], h3⟩) ∧ evO T' (.t 1) = .slice (some (q2, off2)) n2 d 2 ∧ evO T' (.t 2) = .fn k_ops_sameOp [] [] ∧ evO T' (.t 15) = .slice (some (q, off)) n c 2 ∧ evO T' (.t 16) = .int .i64 (n : Int) ∧ evO T' (.t 17) = .int .i64 ((i + 1 : Nat) : Int) := by
      exact ⟨_, by
        simp (config := {maxSteps := 2000000}) (disch := first | omega | (simp only [List.length_cons, List.length_nil, List.length_append, List.length_drop]; omega)) only [L_slices_EqualFunc_api_Op_api_Op_api_Op_api_Op_0, t1, t2, t15, t16, t17, gva, gvb, ld, lo2, eh1, eh2, g21, g22, rs, c0, wi, ix, ix2, st2, st2r, ld2, List.nil_append, List.append_nil, ↓b_xor32, ↓b_and32, ↓b_or32, ↓u_not32, b_xor32, b_and32, b_or32, u_not32, w32ad, ↓x_conv, x_convV, ↓x_fieldAddr, x_fieldV, ↓s_nilchk, x_nilchk, Nat.zero_add, Nat.add_zero, Nat.mul_one, ↓s_evD, ↓s_dnil, ↓s_dL, ↓s_dLg, ↓s_dR, ↓s_dRg, ↓s_dRj, ↓s_dRjg, ↓s_dB, ↓s_dBg, ↓s_dAlloc, ↓s_bindD, s_bindD, s_finD, s_finDx, s_addP0, s_addP1, s_addB, s_lookP, ↓s_bump0, ↓s_bump_get, s_bump_next, s_ok0, ↓s_ok1, s_okR0, ↓s_okR1, ↓s_okE, s_okE, s_okE1, s_nth0, s_nthS, Nat.add_zero, Bool.and_self, Bool.and_true, Bool.true_and, ↓l_loop, ↓l_succ, ↓l_normal, l_normal, l_exit, l_ret, l_iteN, ↓h_put_get, ↓h_new_get, ↓h_del_get, h_next_put, h_next_new, h_next_del, Nat.add_assoc, Nat.add_eq_left, Nat.left_eq_add, Nat.add_left_cancel_iff, ↓s_load, m_load, ↓m_load1, m_load1, ↓m_st, m_stE, m_storeI, m_storeE, w_zero, w_succ, ↓s_alloc, ↓x_idxA, ↓x_idxS, x_idxAE, x_idxSE, x_addrE, x_idx, x_lenS, ↓s_len, ↓x_buildS, x_buildE, ↓x_P0, ↓x_P1, x_fill0, x_filli, x_fills, x_fillb, c_int, List.length_cons, List.length_nil, List.cons_append, List.drop_succ_cons, List.drop_zero, List.drop_nil, List.nil_append, Int.reduceAdd, Int.reduceToNat, Int.reduceLT, Int.reduceLE, Nat.reduceAdd, Nat.reduceMul, Nat.reduceLeDiff, Int.reduceEq, Int.reduceSub, Int.cast_ofNat_Int, s_resc, s_consR, m_load4, m_store4, s_res0, ↓s_skip, ↓s_ops, ↓s_dops, ↓s_seq, ↓s_cond, ↓s_block, ↓s_exit, ↓s_ret, ↓s_scope, ↓s_nil, ↓s_op, ↓s_opg, ↓s_wanted', ↓s_wantV, s_wantV, s_wantV0, beq_true, beq_false, ↓s_bindS, s_bindS, ↓s_bindE, s_bindE, s_bindE_ret, s_bindE_exit, s_bindE_iteN, s_norm, ↓s_condV, s_condV, s_block_ret, s_block_normal, s_block_exit, s_block_iteN, ↓s_getp, ↓s_getp0, ↓s_get, s_get0, ↓s_con, ↓s_fn, ↓s_os0, ↓s_os1, ↓s_list0, ↓s_list1, ↓s_mov, ↓s_pick, ↓s_pickE, s_pickE, ↓s_bin, ↓s_un, ↓s_minmax, ↓s_call, ↓s_callv, ↓s_callV, ↓s_ext, s_same, b_eql, b_neq, b_lss, b_leq, b_gtr, b_geq, b_add, b_sub, b_mul, b_eqlb, b_neqb, b_fnil, b_fnil', b_fnil2, b_fnil2', u_neg, u_not, m_two, s_end, s_end', s_end_iteN, s_res0, s_res1, s_tup1, s_tup2, ↓iteN_true, ↓iteN_false, iteN_true, iteN_false, Nat.zero_add, List.nil_append, List.append_nil, Nat.reduceEqDiff, reduceIte, decide_true, decide_false, Bool.not_true, Bool.not_false, List.getElem?_cons_zero, List.getElem?_cons_succ, Bool.false_eq_true, if_true, if_false, beq_self_eq_true]
        exact rfl, (by (simp only [s_getp, s_getp0, Nat.reduceEqDiff, decide_false, decide_true, iteN_false, iteN_true, t1]; try rfl)), (by (simp only [s_getp, s_getp0, Nat.reduceEqDiff, decide_false, decide_true, iteN_false, iteN_true, t2]; try rfl)), (by (simp only [s_getp, s_getp0, Nat.reduceEqDiff, decide_false, decide_true, iteN_false, iteN_true, t15]; try rfl)), (by (simp only [s_getp, s_getp0, Nat.reduceEqDiff, decide_false, decide_true, iteN_false, iteN_true, t16]; try rfl)), (by (simp only [s_getp, s_getp0, Nat.reduceEqDiff, decide_false, decide_true, iteN_false, iteN_true, t17]; try rfl))⟩
    exact ⟨T', h3, k02.trans k3, fun _ => ⟨r, i1, by rw [en2]; exact u1, u2, by rw [en]; exact u15, by rw [en]; exact u16, u17, k02.trans k3⟩, fun h => absurd eo h⟩
  · rw [decide_eq_false eo] at rs
    obtain ⟨T', r, u6⟩ : ∃ T', evC (callX E X (M + 3)) 32 m none L_slices_EqualFunc_api_Op_api_Op_api_Op_api_Op_0 ⟨T, [], h⟩ = some (.ret, ⟨T', [], h3⟩) ∧ evO T' (.t 6) = .bool false := by
      exact ⟨_, by
        simp (config := {maxSteps := 2000000}) (disch := first | omega | (simp only [List.length_cons, List.length_nil, List.length_append, List.length_drop]; omega)) only [L_slices_EqualFunc_api_Op_api_Op_api_Op_api_Op_0, t1, t2, t15, t16, t17, gva, gvb, ld, lo2, eh1, eh2, g21, g22, rs, c0, wi, ix, ix2, st2, st2r, ld2, List.nil_append, List.append_nil, ↓b_xor32, ↓b_and32, ↓b_or32, ↓u_not32, b_xor32, b_and32, b_or32, u_not32, w32ad, ↓x_conv, x_convV, ↓x_fieldAddr, x_fieldV, ↓s_nilchk, x_nilchk, Nat.zero_add, Nat.add_zero, Nat.mul_one, ↓s_evD, ↓s_dnil, ↓s_dL, ↓s_dLg, ↓s_dR, ↓s_dRg, ↓s_dRj, ↓s_dRjg, ↓s_dB, ↓s_dBg, ↓s_dAlloc, ↓s_bindD, s_bindD, s_finD, s_finDx, s_addP0, s_addP1, s_addB, s_lookP, ↓s_bump0, ↓s_bump_get, s_bump_next, s_ok0, ↓s_ok1, s_okR0, ↓s_okR1, ↓s_okE, s_okE, s_okE1, s_nth0, s_nthS, Nat.add_zero, Bool.and_self, Bool.and_true, Bool.true_and, ↓l_loop, ↓l_succ, ↓l_normal, l_normal, l_exit, l_ret, l_iteN, ↓h_put_get, ↓h_new_get, ↓h_del_get, h_next_put, h_next_new, h_next_del, Nat.add_assoc, Nat.add_eq_left, Nat.left_eq_add, Nat.add_left_cancel_iff, ↓s_load, m_load, ↓m_load1, m_load1, ↓m_st, m_stE, m_storeI, m_storeE, w_zero, w_succ, ↓s_alloc, ↓x_idxA, ↓x_idxS, x_idxAE, x_idxSE, x_addrE, x_idx, x_lenS, ↓s_len, ↓x_buildS, x_buildE, ↓x_P0, ↓x_P1, x_fill0, x_filli, x_fills, x_fillb, c_int, List.length_cons, List.length_nil, List.cons_append, List.drop_succ_cons, List.drop_zero, List.drop_nil, List.nil_append, Int.reduceAdd, Int.reduceToNat, Int.reduceLT, Int.reduceLE, Nat.reduceAdd, Nat.reduceMul, Nat.reduceLeDiff, Int.reduceEq, Int.reduceSub, Int.cast_ofNat_Int, s_resc, s_consR, m_load4, m_store4, s_res0, ↓s_skip, ↓s_ops, ↓s_dops, ↓s_seq, ↓s_cond, ↓s_block, ↓s_exit, ↓s_ret, ↓s_scope, ↓s_nil, ↓s_op, ↓s_opg, ↓s_wanted', ↓s_wantV, s_wantV, s_wantV0, beq_true, beq_false, ↓s_bindS, s_bindS, ↓s_bindE, s_bindE, s_bindE_ret, s_bindE_exit, s_bindE_iteN, s_norm, ↓s_condV, s_condV, s_block_ret, s_block_normal, s_block_exit, s_block_iteN, ↓s_getp, ↓s_getp0, ↓s_get, s_get0, ↓s_con, ↓s_fn, ↓s_os0, ↓s_os1, ↓s_list0, ↓s_list1, ↓s_mov, ↓s_pick, ↓s_pickE, s_pickE, ↓s_bin, ↓s_un, ↓s_minmax, ↓s_call, ↓s_callv, ↓s_callV, ↓s_ext, s_same, b_eql, b_neq, b_lss, b_leq, b_gtr, b_geq, b_add, b_sub, b_mul, b_eqlb, b_neqb, b_fnil, b_fnil', b_fnil2, b_fnil2', u_neg, u_not, m_two, s_end, s_end', s_end_iteN, s_res0, s_res1, s_tup1, s_tup2, ↓iteN_true, ↓iteN_false, iteN_true, iteN_false, Nat.zero_add, List.nil_append, List.append_nil, Nat.reduceEqDiff, reduceIte, decide_true, decide_false, Bool.not_true, Bool.not_false, List.getElem?_cons_zero, List.getElem?_cons_succ, Bool.false_eq_true, if_true, if_false, beq_self_eq_true]
        exact rfl, (by (simp only [s_getp, s_getp0, Nat.reduceEqDiff, decide_false, decide_true, iteN_false, iteN_true, t1]; try rfl))⟩
    exact ⟨T', h3, k02.trans k3, fun h => absurd h eo, fun _ => ⟨r, u6⟩⟩
theorem eq_or : ∀ (as bs : List Oq), as.length = bs.length → as = bs ∨ ∃ (j : Nat) (o p : Oq), as[j]? = some o ∧ bs[j]? = some p ∧ o ≠ p ∧ ∀ (i : Nat) (o' p' : Oq), i < j → as[i]? = some o' → bs[i]? = some p' → o' = p' := by
  intro as
  induction as with
  | nil => intro bs h; left; exact (List.length_eq_zero_iff.1 h.symm).symm
  | cons a r ih =>
    intro bs h
    cases bs with
    | nil => cases h
    | cons b s =>
      by_cases ab : a = b
      · rcases ih s (by simpa using h) with e | ⟨j, o, p, h1, h2, h3, h4⟩
        · left; rw [ab, e]
        · refine .inr ⟨j + 1, o, p, by simpa using h1, by simpa using h2, h3, fun i o' p' hi ho hp => ?_⟩
          cases i with
          | zero => simp at ho hp; rw [← ho, ← hp]; exact ab
          | succ i => simp at ho hp; exact h4 i o' p' (by omega) ho hp
      · exact .inr ⟨0, a, b, rfl, rfl, ab, fun i _ _ hi => by omega⟩
theorem same_go (e : EnOp E) (x : NoOp X) (M : Nat) (as bs : List Oq) (hn : as.length ≤ 1000000) (hM : as.length < M) (hbn : bs.length < 9223372036854775807) (ok : ∀ o ∈ as, o.ok) (pk : ∀ o ∈ bs, o.ok) (a b : Option (Nat × Nat)) (c d : Option Nat) (ea eb : Nat) (h : H) (ra : RowS h as a ea) (rb : RowS h bs b eb) :
    ∃ h', callX E X (M + 5) (.fn k_ops_Same) [.slice a as.length c ea, .slice b bs.length d eb] h = some (.bool (decide (as = bs)), h') ∧ Kp h h' := by
  have eqf : ∃ h', callX E X (M + 4) (.fn k_slices_EqualFunc_api_Op_api_Op_api_Op_api_Op) [.slice a as.length c ea, .slice b bs.length d eb, .fn k_ops_sameOp [] []] h = some (.bool (decide (as = bs)), h') ∧ Kp h h' := by
    rw [x_cfn e.ef _ _ (Nat.le_of_ble_eq_true rfl) (x.ef _ _)]
    by_cases hl : as.length = bs.length
    · have fin : ∀ T, EqI (.slice a as.length c ea) (.slice b bs.length d eb) as.length h 0 T h → ∃ h', fnEnd [.tmp 6] (bindE (blockE 0 (loopN (evC (callX E X (M + 3)) 32 (M + 3) none L_slices_EqualFunc_api_Op_api_Op_api_Op_api_Op_0) (M + 3) ⟨T, [], h⟩)) (evC (callX E X (M + 3)) 32 (M + 3) none R_slices_EqualFunc_api_Op_api_Op_api_Op_api_Op_0)) = some (.bool (decide (as = bs)), h') ∧ Kp h h' := by
        intro T I
        have get : ∀ i, i < as.length → ∃ o p, as[i]? = some o ∧ bs[i]? = some p := fun i hi => ⟨_, _, List.getElem?_eq_getElem hi, List.getElem?_eq_getElem (by omega)⟩
        rcases eq_or as bs hl with eab | ⟨j, o, p, h1, h2, h3, h4⟩
        · rw [decide_eq_true eab]
          obtain ⟨T', h', rr, kp⟩ := loop_go (f := evC (callX E X (M + 3)) 32 (M + 3) none L_slices_EqualFunc_api_Op_api_Op_api_Op_api_Op_0) (EqI (.slice a as.length c ea) (.slice b bs.length d eb) as.length h) as.length (.exit 0) (by intro h; cases h) (fun _ h' => Kp h h') (fun i T h' hi I => by
            obtain ⟨o, p, ho, hp⟩ := get i hi
            obtain ⟨T', h2, _, q, _⟩ := ei_round e x M (M + 3) as bs hl hn ok pk a b c d ea eb h ra rb i T h' o p ho hp I
            rw [eab, hp] at ho
            cases ho
            exact ⟨T', h2, q rfl⟩) (fun T h' I => by
            obtain ⟨il, t1, t2, t15, t16, t17, kp⟩ := I
            have c0 : decide ((as.length : Int) < (as.length : Int)) = false := decide_eq_false (by omega)
            exact ⟨_, _, by
              simp (config := {maxSteps := 2000000}) (disch := first | omega | (simp only [List.length_cons, List.length_nil, List.length_append, List.length_drop]; omega)) only [L_slices_EqualFunc_api_Op_api_Op_api_Op_api_Op_0, t16, t17, c0, ↓b_xor32, ↓b_and32, ↓b_or32, ↓u_not32, b_xor32, b_and32, b_or32, u_not32, w32ad, ↓x_conv, x_convV, ↓x_fieldAddr, x_fieldV, ↓s_nilchk, x_nilchk, Nat.zero_add, Nat.add_zero, Nat.mul_one, ↓l_loop, ↓l_succ, ↓l_normal, l_normal, l_exit, l_ret, l_iteN, ↓h_put_get, ↓h_new_get, ↓h_del_get, h_next_put, h_next_new, h_next_del, Nat.add_assoc, Nat.add_eq_left, Nat.left_eq_add, Nat.add_left_cancel_iff, ↓s_load, m_load, ↓m_load1, m_load1, ↓m_st, m_stE, m_storeI, m_storeE, w_zero, w_succ, ↓s_alloc, ↓x_idxA, ↓x_idxS, x_idxAE, x_idxSE, x_addrE, x_idx, x_lenS, ↓s_len, ↓x_buildS, x_buildE, ↓x_P0, ↓x_P1, x_fill0, x_filli, x_fills, x_fillb, c_int, List.length_cons, List.length_nil, List.cons_append, List.drop_succ_cons, List.drop_zero, List.drop_nil, List.nil_append, Int.reduceAdd, Int.reduceToNat, Int.reduceLT, Int.reduceLE, Nat.reduceAdd, Nat.reduceMul, Nat.reduceLeDiff, Int.reduceEq, Int.reduceSub, Int.cast_ofNat_Int, s_resc, s_consR, m_load4, m_store4, s_res0, ↓s_skip, ↓s_ops, ↓s_dops, ↓s_seq, ↓s_cond, ↓s_block, ↓s_exit, ↓s_ret, ↓s_scope, ↓s_nil, ↓s_op, ↓s_opg, ↓s_wanted', ↓s_wantV, s_wantV, s_wantV0, beq_true, beq_false, ↓s_bindS, s_bindS, ↓s_bindE, s_bindE, s_bindE_ret, s_bindE_exit, s_bindE_iteN, s_norm, ↓s_condV, s_condV, s_block_ret, s_block_normal, s_block_exit, s_block_iteN, ↓s_getp, ↓s_getp0, ↓s_get, s_get0, ↓s_con, ↓s_fn, ↓s_os0, ↓s_os1, ↓s_list0, ↓s_list1, ↓s_mov, ↓s_pick, ↓s_pickE, s_pickE, ↓s_bin, ↓s_un, ↓s_minmax, ↓s_call, ↓s_callv, ↓s_callV, ↓s_ext, s_same, b_eql, b_neq, b_lss, b_leq, b_gtr, b_geq, b_add, b_sub, b_mul, b_eqlb, b_neqb, b_fnil, b_fnil', b_fnil2, b_fnil2', u_neg, u_not, m_two, s_end, s_end', s_end_iteN, s_res0, s_res1, s_tup1, s_tup2, ↓iteN_true, ↓iteN_false, iteN_true, iteN_false, Nat.zero_add, List.nil_append, List.append_nil, Nat.reduceEqDiff, reduceIte, decide_true, decide_false, Bool.not_true, Bool.not_false, List.getElem?_cons_zero, List.getElem?_cons_succ, Bool.false_eq_true, if_true, if_false, beq_self_eq_true]
              exact rfl, kp⟩) as.length 0 (by omega) (M + 3) (by omega) T h I
          rw [rr]
          refine ⟨h', ?_, kp⟩
          simp (config := {maxSteps := 2000000}) (disch := first | omega | (simp only [List.length_cons, List.length_nil, List.length_append, List.length_drop]; omega)) only [R_slices_EqualFunc_api_Op_api_Op_api_Op_api_Op_0, ↓b_xor32, ↓b_and32, ↓b_or32, ↓u_not32, b_xor32, b_and32, b_or32, u_not32, w32ad, ↓x_conv, x_convV, ↓x_fieldAddr, x_fieldV, ↓s_nilchk, x_nilchk, Nat.zero_add, Nat.add_zero, Nat.mul_one, ↓l_loop, ↓l_succ, ↓l_normal, l_normal, l_exit, l_ret, l_iteN, ↓h_put_get, ↓h_new_get, ↓h_del_get, h_next_put, h_next_new, h_next_del, Nat.add_assoc, Nat.add_eq_left, Nat.left_eq_add, Nat.add_left_cancel_iff, ↓s_load, m_load, ↓m_load1, m_load1, ↓m_st, m_stE, m_storeI, m_storeE, w_zero, w_succ, ↓s_alloc, ↓x_idxA, ↓x_idxS, x_idxAE, x_idxSE, x_addrE, x_idx, x_lenS, ↓s_len, ↓x_buildS, x_buildE, ↓x_P0, ↓x_P1, x_fill0, x_filli, x_fills, x_fillb, c_int, List.length_cons, List.length_nil, List.cons_append, List.drop_succ_cons, List.drop_zero, List.drop_nil, List.nil_append, Int.reduceAdd, Int.reduceToNat, Int.reduceLT, Int.reduceLE, Nat.reduceAdd, Nat.reduceMul, Nat.reduceLeDiff, Int.reduceEq, Int.reduceSub, Int.cast_ofNat_Int, s_resc, s_consR, m_load4, m_store4, s_res0, ↓s_skip, ↓s_ops, ↓s_dops, ↓s_seq, ↓s_cond, ↓s_block, ↓s_exit, ↓s_ret, ↓s_scope, ↓s_nil, ↓s_op, ↓s_opg, ↓s_wanted', ↓s_wantV, s_wantV, s_wantV0, beq_true, beq_false, ↓s_bindS, s_bindS, ↓s_bindE, s_bindE, s_bindE_ret, s_bindE_exit, s_bindE_iteN, s_norm, ↓s_condV, s_condV, s_block_ret, s_block_normal, s_block_exit, s_block_iteN, ↓s_getp, ↓s_getp0, ↓s_get, s_get0, ↓s_con, ↓s_fn, ↓s_os0, ↓s_os1, ↓s_list0, ↓s_list1, ↓s_mov, ↓s_pick, ↓s_pickE, s_pickE, ↓s_bin, ↓s_un, ↓s_minmax, ↓s_call, ↓s_callv, ↓s_callV, ↓s_ext, s_same, b_eql, b_neq, b_lss, b_leq, b_gtr, b_geq, b_add, b_sub, b_mul, b_eqlb, b_neqb, b_fnil, b_fnil', b_fnil2, b_fnil2', u_neg, u_not, m_two, s_end, s_end', s_end_iteN, s_res0, s_res1, s_tup1, s_tup2, ↓iteN_true, ↓iteN_false, iteN_true, iteN_false, Nat.zero_add, List.nil_append, List.append_nil, Nat.reduceEqDiff, reduceIte, decide_true, decide_false, Bool.not_true, Bool.not_false, List.getElem?_cons_zero, List.getElem?_cons_succ, Bool.false_eq_true, if_true, if_false, beq_self_eq_true]
          try rfl
        · have hne : as ≠ bs := fun e => h3 (by rw [e, h2] at h1; cases h1; rfl)
          rw [decide_eq_false hne]
          have hj : j < as.length := (List.getElem?_eq_some_iff.1 h1).1
          obtain ⟨T', h', rr, u6, kp⟩ := loop_go (f := evC (callX E X (M + 3)) 32 (M + 3) none L_slices_EqualFunc_api_Op_api_Op_api_Op_api_Op_0) (EqI (.slice a as.length c ea) (.slice b bs.length d eb) as.length h) j .ret (by intro h; cases h) (fun T h' => evO T (.t 6) = .bool false ∧ Kp h h') (fun i T h' hi I => by
            obtain ⟨o, p, ho, hp⟩ := get i (by omega)
            obtain ⟨T', h2, _, q, _⟩ := ei_round e x M (M + 3) as bs hl hn ok pk a b c d ea eb h ra rb i T h' o p ho hp I
            exact ⟨T', h2, q (h4 i o p hi ho hp)⟩) (fun T h' I => by
            obtain ⟨T', h2', k, _, q⟩ := ei_round e x M (M + 3) as bs hl hn ok pk a b c d ea eb h ra rb j T h' o p h1 h2 I
            obtain ⟨q1, q2⟩ := q h3
            exact ⟨T', h2', q1, q2, k⟩) j 0 (by omega) (M + 3) (by omega) T h I
          rw [rr]
          refine ⟨h', ?_, kp⟩
          simp (config := {maxSteps := 2000000}) (disch := first | omega | (simp only [List.length_cons, List.length_nil, List.length_append, List.length_drop]; omega)) only [u6, ↓b_xor32, ↓b_and32, ↓b_or32, ↓u_not32, b_xor32, b_and32, b_or32, u_not32, w32ad, ↓x_conv, x_convV, ↓x_fieldAddr, x_fieldV, ↓s_nilchk, x_nilchk, Nat.zero_add, Nat.add_zero, Nat.mul_one, ↓l_loop, ↓l_succ, ↓l_normal, l_normal, l_exit, l_ret, l_iteN, ↓h_put_get, ↓h_new_get, ↓h_del_get, h_next_put, h_next_new, h_next_del, Nat.add_assoc, Nat.add_eq_left, Nat.left_eq_add, Nat.add_left_cancel_iff, ↓s_load, m_load, ↓m_load1, m_load1, ↓m_st, m_stE, m_storeI, m_storeE, w_zero, w_succ, ↓s_alloc, ↓x_idxA, ↓x_idxS, x_idxAE, x_idxSE, x_addrE, x_idx, x_lenS, ↓s_len, ↓x_buildS, x_buildE, ↓x_P0, ↓x_P1, x_fill0, x_filli, x_fills, x_fillb, c_int, List.length_cons, List.length_nil, List.cons_append, List.drop_succ_cons, List.drop_zero, List.drop_nil, List.nil_append, Int.reduceAdd, Int.reduceToNat, Int.reduceLT, Int.reduceLE, Nat.reduceAdd, Nat.reduceMul, Nat.reduceLeDiff, Int.reduceEq, Int.reduceSub, Int.cast_ofNat_Int, s_resc, s_consR, m_load4, m_store4, s_res0, ↓s_skip, ↓s_ops, ↓s_dops, ↓s_seq, ↓s_cond, ↓s_block, ↓s_exit, ↓s_ret, ↓s_scope, ↓s_nil, ↓s_op, ↓s_opg, ↓s_wanted', ↓s_wantV, s_wantV, s_wantV0, beq_true, beq_false, ↓s_bindS, s_bindS, ↓s_bindE, s_bindE, s_bindE_ret, s_bindE_exit, s_bindE_iteN, s_norm, ↓s_condV, s_condV, s_block_ret, s_block_normal, s_block_exit, s_block_iteN, ↓s_getp, ↓s_getp0, ↓s_get, s_get0, ↓s_con, ↓s_fn, ↓s_os0, ↓s_os1, ↓s_list0, ↓s_list1, ↓s_mov, ↓s_pick, ↓s_pickE, s_pickE, ↓s_bin, ↓s_un, ↓s_minmax, ↓s_call, ↓s_callv, ↓s_callV, ↓s_ext, s_same, b_eql, b_neq, b_lss, b_leq, b_gtr, b_geq, b_add, b_sub, b_mul, b_eqlb, b_neqb, b_fnil, b_fnil', b_fnil2, b_fnil2', u_neg, u_not, m_two, s_end, s_end', s_end_iteN, s_res0, s_res1, s_tup1, s_tup2, ↓iteN_true, ↓iteN_false, iteN_true, iteN_false, Nat.zero_add, List.nil_append, List.append_nil, Nat.reduceEqDiff, reduceIte, decide_true, decide_false, Bool.not_true, Bool.not_false, List.getElem?_cons_zero, List.getElem?_cons_succ, Bool.false_eq_true, if_true, if_false, beq_self_eq_true]
          try rfl
      have c1 : (!decide ((as.length : Int) = (bs.length : Int))) = false := by rw [decide_eq_true (by omega)]; rfl
      obtain ⟨R, eR⟩ : ∃ R, R_slices_EqualFunc_api_Op_api_Op_api_Op_api_Op_0 = R := ⟨_, rfl⟩
      obtain ⟨Lo, eL⟩ : ∃ R, L_slices_EqualFunc_api_Op_api_Op_api_Op_api_Op_0 = R := ⟨_, rfl⟩
      rw [eR, eL] at fin ⊢
      obtain ⟨n, en⟩ : ∃ n, as.length = n := ⟨_, rfl⟩
      obtain ⟨n2, en2⟩ : ∃ n, bs.length = n := ⟨_, rfl⟩
      rw [en, en2] at c1 fin ⊢
      simp (config := {maxSteps := 2000000}) (disch := first | omega | (simp only [List.length_cons, List.length_nil, List.length_append, List.length_drop]; omega)) only [c1, ↓s_len, x_lenS, ↓b_xor32, ↓b_and32, ↓b_or32, ↓u_not32, b_xor32, b_and32, b_or32, u_not32, w32ad, ↓x_conv, x_convV, ↓x_fieldAddr, x_fieldV, ↓s_nilchk, x_nilchk, Nat.zero_add, Nat.add_zero, Nat.mul_one, ↓l_loop, ↓l_succ, ↓l_normal, l_normal, l_exit, l_ret, l_iteN, ↓h_put_get, ↓h_new_get, ↓h_del_get, h_next_put, h_next_new, h_next_del, Nat.add_assoc, Nat.add_eq_left, Nat.left_eq_add, Nat.add_left_cancel_iff, ↓s_load, m_load, ↓m_load1, m_load1, ↓m_st, m_stE, m_storeI, m_storeE, w_zero, w_succ, ↓s_alloc, ↓x_idxA, ↓x_idxS, x_idxAE, x_idxSE, x_addrE, x_idx, x_lenS, ↓s_len, ↓x_buildS, x_buildE, ↓x_P0, ↓x_P1, x_fill0, x_filli, x_fills, x_fillb, c_int, List.length_cons, List.length_nil, List.cons_append, List.drop_succ_cons, List.drop_zero, List.drop_nil, List.nil_append, Int.reduceAdd, Int.reduceToNat, Int.reduceLT, Int.reduceLE, Nat.reduceAdd, Nat.reduceMul, Nat.reduceLeDiff, Int.reduceEq, Int.reduceSub, Int.cast_ofNat_Int, s_resc, s_consR, m_load4, m_store4, s_res0, ↓s_skip, ↓s_ops, ↓s_dops, ↓s_seq, ↓s_cond, ↓s_block, ↓s_exit, ↓s_ret, ↓s_scope, ↓s_nil, ↓s_op, ↓s_opg, ↓s_wanted', ↓s_wantV, s_wantV, s_wantV0, beq_true, beq_false, ↓s_bindS, s_bindS, ↓s_bindE, s_bindE, s_bindE_ret, s_bindE_exit, s_bindE_iteN, s_norm, ↓s_condV, s_condV, s_block_ret, s_block_normal, s_block_exit, s_block_iteN, ↓s_getp, ↓s_getp0, ↓s_get, s_get0, ↓s_con, ↓s_fn, ↓s_os0, ↓s_os1, ↓s_list0, ↓s_list1, ↓s_mov, ↓s_pick, ↓s_pickE, s_pickE, ↓s_bin, ↓s_un, ↓s_minmax, ↓s_call, ↓s_callv, ↓s_callV, ↓s_ext, s_same, b_eql, b_neq, b_lss, b_leq, b_gtr, b_geq, b_add, b_sub, b_mul, b_eqlb, b_neqb, b_fnil, b_fnil', b_fnil2, b_fnil2', u_neg, u_not, m_two, s_end, s_end', s_end_iteN, s_res0, s_res1, s_tup1, s_tup2, ↓iteN_true, ↓iteN_false, iteN_true, iteN_false, Nat.zero_add, List.nil_append, List.append_nil, Nat.reduceEqDiff, reduceIte, decide_true, decide_false, Bool.not_true, Bool.not_false, List.getElem?_cons_zero, List.getElem?_cons_succ, Bool.false_eq_true, if_true, if_false, beq_self_eq_true]
      exact fin _ ⟨Nat.zero_le _, (by (simp only [s_getp, s_getp0, Nat.reduceEqDiff, decide_false, decide_true, iteN_false, iteN_true, c1]; try rfl)), (by (simp only [s_getp, s_getp0, Nat.reduceEqDiff, decide_false, decide_true, iteN_false, iteN_true, c1]; try rfl)), (by (simp only [s_getp, s_getp0, Nat.reduceEqDiff, decide_false, decide_true, iteN_false, iteN_true, c1]; try rfl)), (by (simp only [s_getp, s_getp0, Nat.reduceEqDiff, decide_false, decide_true, iteN_false, iteN_true, c1]; try rfl)), (by (simp only [s_getp, s_getp0, Nat.reduceEqDiff, decide_false, decide_true, iteN_false, iteN_true, c1]; try rfl)), Kp.refl _⟩
    · rw [decide_eq_false (fun e => hl (by rw [e]))]
      have c1 : (!decide ((as.length : Int) = (bs.length : Int))) = true := by rw [decide_eq_false (by omega)]; rfl
      refine ⟨h, ?_, Kp.refl _⟩
      obtain ⟨Lo, eL⟩ : ∃ R, L_slices_EqualFunc_api_Op_api_Op_api_Op_api_Op_0 = R := ⟨_, rfl⟩
      rw [eL]
      generalize as.length = n at *
      generalize bs.length = n2 at *
      simp (config := {maxSteps := 2000000}) (disch := first | omega | (simp only [List.length_cons, List.length_nil, List.length_append, List.length_drop]; omega)) only [c1, ↓s_len, x_lenS, ↓b_xor32, ↓b_and32, ↓b_or32, ↓u_not32, b_xor32, b_and32, b_or32, u_not32, w32ad, ↓x_conv, x_convV, ↓x_fieldAddr, x_fieldV, ↓s_nilchk, x_nilchk, Nat.zero_add, Nat.add_zero, Nat.mul_one, ↓l_loop, ↓l_succ, ↓l_normal, l_normal, l_exit, l_ret, l_iteN, ↓h_put_get, ↓h_new_get, ↓h_del_get, h_next_put, h_next_new, h_next_del, Nat.add_assoc, Nat.add_eq_left, Nat.left_eq_add, Nat.add_left_cancel_iff, ↓s_load, m_load, ↓m_load1, m_load1, ↓m_st, m_stE, m_storeI, m_storeE, w_zero, w_succ, ↓s_alloc, ↓x_idxA, ↓x_idxS, x_idxAE, x_idxSE, x_addrE, x_idx, x_lenS, ↓s_len, ↓x_buildS, x_buildE, ↓x_P0, ↓x_P1, x_fill0, x_filli, x_fills, x_fillb, c_int, List.length_cons, List.length_nil, List.cons_append, List.drop_succ_cons, List.drop_zero, List.drop_nil, List.nil_append, Int.reduceAdd, Int.reduceToNat, Int.reduceLT, Int.reduceLE, Nat.reduceAdd, Nat.reduceMul, Nat.reduceLeDiff, Int.reduceEq, Int.reduceSub, Int.cast_ofNat_Int, s_resc, s_consR, m_load4, m_store4, s_res0, ↓s_skip, ↓s_ops, ↓s_dops, ↓s_seq, ↓s_cond, ↓s_block, ↓s_exit, ↓s_ret, ↓s_scope, ↓s_nil, ↓s_op, ↓s_opg, ↓s_wanted', ↓s_wantV, s_wantV, s_wantV0, beq_true, beq_false, ↓s_bindS, s_bindS, ↓s_bindE, s_bindE, s_bindE_ret, s_bindE_exit, s_bindE_iteN, s_norm, ↓s_condV, s_condV, s_block_ret, s_block_normal, s_block_exit, s_block_iteN, ↓s_getp, ↓s_getp0, ↓s_get, s_get0, ↓s_con, ↓s_fn, ↓s_os0, ↓s_os1, ↓s_list0, ↓s_list1, ↓s_mov, ↓s_pick, ↓s_pickE, s_pickE, ↓s_bin, ↓s_un, ↓s_minmax, ↓s_call, ↓s_callv, ↓s_callV, ↓s_ext, s_same, b_eql, b_neq, b_lss, b_leq, b_gtr, b_geq, b_add, b_sub, b_mul, b_eqlb, b_neqb, b_fnil, b_fnil', b_fnil2, b_fnil2', u_neg, u_not, m_two, s_end, s_end', s_end_iteN, s_res0, s_res1, s_tup1, s_tup2, ↓iteN_true, ↓iteN_false, iteN_true, iteN_false, Nat.zero_add, List.nil_append, List.append_nil, Nat.reduceEqDiff, reduceIte, decide_true, decide_false, Bool.not_true, Bool.not_false, List.getElem?_cons_zero, List.getElem?_cons_succ, Bool.false_eq_true, if_true, if_false, beq_self_eq_true]
      try rfl
  obtain ⟨h', r, k⟩ := eqf
  rw [x_cfn e.sa _ _ (Nat.le_of_ble_eq_true rfl) (x.sa _ _)]
  refine ⟨h', ?_, k⟩
  generalize as.length = n at *
  generalize bs.length = n2 at *
  generalize decide (as = bs) = w at *
  simp (config := {maxSteps := 2000000}) (disch := first | omega | (simp only [List.length_cons, List.length_nil, List.length_append, List.length_drop]; omega)) only [r, ↓b_xor32, ↓b_and32, ↓b_or32, ↓u_not32, b_xor32, b_and32, b_or32, u_not32, w32ad, ↓x_conv, x_convV, ↓x_fieldAddr, x_fieldV, ↓s_nilchk, x_nilchk, Nat.zero_add, Nat.add_zero, Nat.mul_one, ↓l_loop, ↓l_succ, ↓l_normal, l_normal, l_exit, l_ret, l_iteN, ↓h_put_get, ↓h_new_get, ↓h_del_get, h_next_put, h_next_new, h_next_del, Nat.add_assoc, Nat.add_eq_left, Nat.left_eq_add, Nat.add_left_cancel_iff, ↓s_load, m_load, ↓m_load1, m_load1, ↓m_st, m_stE, m_storeI, m_storeE, w_zero, w_succ, ↓s_alloc, ↓x_idxA, ↓x_idxS, x_idxAE, x_idxSE, x_addrE, x_idx, x_lenS, ↓s_len, ↓x_buildS, x_buildE, ↓x_P0, ↓x_P1, x_fill0, x_filli, x_fills, x_fillb, c_int, List.length_cons, List.length_nil, List.cons_append, List.drop_succ_cons, List.drop_zero, List.drop_nil, List.nil_append, Int.reduceAdd, Int.reduceToNat, Int.reduceLT, Int.reduceLE, Nat.reduceAdd, Nat.reduceMul, Nat.reduceLeDiff, Int.reduceEq, Int.reduceSub, Int.cast_ofNat_Int, s_resc, s_consR, m_load4, m_store4, s_res0, ↓s_skip, ↓s_ops, ↓s_dops, ↓s_seq, ↓s_cond, ↓s_block, ↓s_exit, ↓s_ret, ↓s_scope, ↓s_nil, ↓s_op, ↓s_opg, ↓s_wanted', ↓s_wantV, s_wantV, s_wantV0, beq_true, beq_false, ↓s_bindS, s_bindS, ↓s_bindE, s_bindE, s_bindE_ret, s_bindE_exit, s_bindE_iteN, s_norm, ↓s_condV, s_condV, s_block_ret, s_block_normal, s_block_exit, s_block_iteN, ↓s_getp, ↓s_getp0, ↓s_get, s_get0, ↓s_con, ↓s_fn, ↓s_os0, ↓s_os1, ↓s_list0, ↓s_list1, ↓s_mov, ↓s_pick, ↓s_pickE, s_pickE, ↓s_bin, ↓s_un, ↓s_minmax, ↓s_call, ↓s_callv, ↓s_callV, ↓s_ext, s_same, b_eql, b_neq, b_lss, b_leq, b_gtr, b_geq, b_add, b_sub, b_mul, b_eqlb, b_neqb, b_fnil, b_fnil', b_fnil2, b_fnil2', u_neg, u_not, m_two, s_end, s_end', s_end_iteN, s_res0, s_res1, s_tup1, s_tup2, ↓iteN_true, ↓iteN_false, iteN_true, iteN_false, Nat.zero_add, List.nil_append, List.append_nil, Nat.reduceEqDiff, reduceIte, decide_true, decide_false, Bool.not_true, Bool.not_false, List.getElem?_cons_zero, List.getElem?_cons_succ, Bool.false_eq_true, if_true, if_false, beq_self_eq_true]
end Go.Eng
namespace Go.Eng
open Go
variable {E : Nat → Option Fn} {X : Orc}
set_option linter.unusedSimpArgs false
set_option linter.unusedVariables false
def OqAt (h : H) (o : Oq) (p : List V) : Prop := ∃ a, p = [.int .u8 (o.code : Int), .slice a o.l.length none 1] ∧ SrcH h a 1 o.l
/-- a row of operations, as an argument -/
def OqsH (h : H) (a : Option (Nat × Nat)) (ops : List Oq) : Prop := ∃ parts, Al2 (OqAt h) ops parts ∧ (ops = [] ∨ ∃ k md, a = some (k, 0) ∧ k < h.next ∧ h.get k = some (.cells parts.flatten md))
def OqsR (ops : List Oq) (h : H) (vs : List V) : Prop := ∃ a, vs = [.slice a ops.length none 2] ∧ OqsH h a ops
theorem xs2 {α : Type} {xs : List α} (h : xs.length = 2) : ∃ a b, xs = [a, b] := by
  match xs, h with
  | [a, b], _ => exact ⟨a, b, rfl⟩
section
variable {Hh : Type} {enc : TypeId × Value → Hh} {P : Program} {W : World} {spare : Nat → Bool} {held : Bool} {base : Nat}
theorem trod_oqs {t e eb : TypeId} {f0 f1 : Field} (ht : P.underlying t = some (.slice e)) (he : P.underlying e = some (.struct #[f0, f1])) (h0 : P.underlying f0.type = some (.int .u8)) (h1 : P.underlying f1.type = some (.slice eb)) (hb : P.underlying eb = some (.int .u8)) (hc : P.cellsOf eb = 1) (hce : P.cellsOf e = 2)
    {v : Value} {d : DataW Hh} {p : List MemPlace} (h : DataW.Trod enc P W base spare held t v d p) :
    ∃ ops : List Oq, (∀ o ∈ ops, o.ok) ∧ (P.bytesOf e = 32 → P.bytesOf eb = 1 → ∀ B, (∀ n ∈ d.weights P t, n ≤ B) → ops.length ≤ B ∧ ∀ o ∈ ops, o.l.length ≤ B) ∧ ∀ n, Rd (absD P (n + 4) t d) (OqsR ops) := by
  have one : ∀ (g : Nat) (cs : List Value) (x : DataW Hh × List MemPlace), DataW.trod enc P W base spare held g e cs = some x → ∃ o : Oq, (o.ok ∧ (P.bytesOf eb = 1 → ∀ B, (∀ n ∈ x.1.weights P e, n ≤ B) → o.l.length ≤ B)) ∧ ∀ n, Rd (absD P (n + 3) e x.1) (fun h vs => OqAt h o vs) := by
    intro g cs x hx
    obtain ⟨xs, m, _, rfl, _, hl, hf⟩ := DataW.trod_struct he hx
    obtain ⟨x0, x1, rfl⟩ := xs2 hl
    obtain ⟨k, _, e0, w0⟩ := DataW.trod_int h0 (hf 0 f0 rfl)
    obtain ⟨l, bl, wt, r3⟩ := trod_u8s' h1 hb hc (hf 1 f1 rfl)
    simp [Lit.wf, IntKind.min, IntKind.max, IntKind.signed, IntKind.bits] at w0
    obtain ⟨n, rfl⟩ := Int.eq_ofNat_of_zero_le w0.1
    refine ⟨⟨n, l⟩, ⟨⟨by have := w0.2; show n < _; omega, bl⟩, fun h1' B hB => wt h1' B (fun m hm => hB m ?_)⟩, fun j => ?_⟩
    · show m ∈ DataW.weights P e (.agg [x0.1, x1.1])
      simp only [DataW.weights, he, List.map_cons, List.map_nil, DataW.weightsEach, List.mem_append]
      exact .inr (.inl hm)
    have hz := rd_struct (Hh := Hh) (j + 2) he [x0.1, x1.1] rfl (Rs := [_, _]) (.cons (by rw [e0]; exact rd_int (j + 1) h0 (n : Int)) (.cons (r3 j) .nil))
    intro nx
    obtain ⟨vs, bls, n1, q1, q2, q3⟩ := hz nx
    refine ⟨vs, bls, n1, q1, q2, fun h hh => ?_⟩
    obtain ⟨parts, rfl, al⟩ := q3 h hh
    cases al with | cons a0 al => cases al with | cons a3 al =>
    cases al
    obtain ⟨a, e3, sr⟩ := a3
    exact ⟨a, by rw [a0, e3]; rfl, sr⟩
  obtain ⟨f, hf⟩ := h
  rcases DataW.trod_slice ht hf with ⟨_, hx⟩ | ⟨ad, len, cap, elems, rest, n, _, _, hx, _, _, _, hl, hi, _, _⟩
  · have hd : d = .nil := congrArg Prod.fst hx
    subst hd
    refine ⟨[], (fun o ho => by cases ho), (fun _ _ _ _ => ⟨Nat.zero_le _, fun o ho => by cases ho⟩), fun n nx => ?_⟩
    obtain ⟨vs, bl, n1, e1, l1, k1⟩ := rd_nil (Hh := Hh) (n + 3) ht nx
    exact ⟨vs, bl, n1, e1, l1, fun h hh => ⟨none, by rw [k1 h hh, hce]; rfl, [], .nil, .inl rfl⟩⟩
  · have hd : d = .slice (elems.map (·.1)) (rest.map (·.1)) := congrArg Prod.fst hx
    obtain ⟨ops, al⟩ := gather (p := fun (x : DataW Hh × List MemPlace) (o : Oq) => (o.ok ∧ (P.bytesOf eb = 1 → ∀ B, (∀ n ∈ x.1.weights P e, n ≤ B) → o.l.length ≤ B)) ∧ ∀ n, Rd (absD P (n + 3) e x.1) (fun h vs => OqAt h o vs)) elems (fun y hy => by
      obtain ⟨i, hi1, hi2⟩ := List.getElem_of_mem hy
      have hi3 : elems[i]? = some y := by rw [List.getElem?_eq_getElem hi1, hi2]
      have h4 := (hi i (by omega)).trans hi3
      simp only [Option.bind_eq_some_iff] at h4
      obtain ⟨cs, _, h5⟩ := h4
      exact one _ _ _ h5)
    refine ⟨ops, fun o ho => ?_, fun h32 hb1 B hB => ?_, fun n nx => ?_⟩
    · clear hl hi hx hd hf
      induction al with
      | nil => cases ho
      | cons h1 _ ih => rcases List.mem_cons.1 ho with rfl | ho
                        · exact h1.1.1
                        · exact ih ho
    · have hB' : ∀ n ∈ ((elems.map (·.1)).length + (rest.map (·.1)).length) * P.bytesOf e :: DataW.weightsAll P e (elems.map (·.1)), n ≤ B := by
        intro n hn
        apply hB n
        rw [hd]
        simp only [DataW.weights, ht, List.mem_cons, List.mem_append] at hn ⊢
        rcases hn with h | h
        · exact .inl h
        · exact .inr (.inl h)
      refine ⟨?_, fun o ho => ?_⟩
      · have := hB' _ (List.mem_cons_self ..)
        rw [h32, List.length_map, al.len] at this; omega
      · have hB2 : ∀ n ∈ DataW.weightsAll P e (elems.map (·.1)), n ≤ B := fun n hn => hB' n (List.mem_cons_of_mem _ hn)
        clear hl hi hx hd hf hB hB'
        induction al with
        | nil => cases ho
        | cons h1 _ ih =>
          simp only [List.map_cons, DataW.weightsAll, List.mem_append] at hB2
          rcases List.mem_cons.1 ho with rfl | ho
          · exact h1.1.2 hb1 B (fun n hn => hB2 n (.inl hn))
          · exact ih ho (fun n hn => hB2 n (.inr hn))
    · have al2 : Al2 (fun (dd : DataW Hh) R => Rd (absD P (n + 3) e dd) R) (elems.map (·.1)) (ops.map (fun o h vs => OqAt h o vs)) := by
        clear hl hi hx hd hf
        induction al with
        | nil => exact .nil
        | cons h1 _ ih => exact .cons (h1.2 n) ih
      obtain ⟨vs, bl, n1, e1, l1, k1⟩ := rd_slice (Hh := Hh) (n + 3) ht (elems.map (·.1)) (rest.map (·.1)) al2 nx
      rw [hd]
      refine ⟨vs, bl, n1, e1, l1, fun h hh => ?_⟩
      obtain ⟨ad2, parts, ev, al3, t⟩ := k1 h hh
      have le : (elems.map (·.1)).length = ops.length := by rw [List.length_map]; exact al.len
      refine ⟨ad2, by rw [ev, le, hce], parts, ?_, ?_⟩
      · have conv : ∀ (os : List Oq) (ps : List (List V)), Al2 (fun (R : H → List V → Prop) p => R h p) (os.map (fun o h vs => OqAt h o vs)) ps → Al2 (OqAt h) os ps := by
          intro os
          induction os with
          | nil => intro ps a; cases a; exact .nil
          | cons o os ih => intro ps a; cases a with | cons a1 a2 => exact .cons a1 (ih _ a2)
        exact conv _ _ al3
      · rcases t with t | ⟨k, t1, t2, t3⟩
        · left
          rw [t] at le
          exact List.length_eq_zero_iff.1 le.symm
        · exact .inr ⟨k, .ro, t1, t2, t3⟩
end
theorem oq_len {h : H} {ops : List Oq} {parts : List (List V)} (al : Al2 (OqAt h) ops parts) : ∀ p ∈ parts, p.length = 2 := by
  induction al with
  | nil => intro p hp; cases hp
  | cons h1 _ ih => intro p hp; rcases List.mem_cons.1 hp with rfl | hp
                    · obtain ⟨a, rfl, _⟩ := h1; rfl
                    · exact ih p hp
theorem OqsH.row {h : H} {a : Option (Nat × Nat)} {ops : List Oq} (x : OqsH h a ops) : RowS h ops a 2 := by
  obtain ⟨parts, al, t⟩ := x
  rcases t with t | ⟨k, md, t1, t2, t3⟩
  · exact .inl t
  · refine .inr ⟨k, 0, _, md, t1, rfl, t2, t3, by rw [flat_len (k := 2) (oq_len al), al.len]; omega, fun i o ho => ?_⟩
    obtain ⟨p, hp, b, rfl, s⟩ := al.get i o ho
    exact ⟨b, none, 1, by rw [Nat.zero_add]; exact flat_get (oq_len al) i _ hp, s⟩
/-! statements: are operations great -/
theorem gq_take (ops : List Oq) (i : Nat) (o : Oq) (h : ops[i]? = some o) : gq (ops.take (i + 1)) = gq (ops.take i) + o.l.length := by
  induction ops generalizing i with
  | nil => simp at h
  | cons a r ih =>
    cases i with
    | zero => simp at h; subst h; simp [gq]
    | succ i => simp at h; rw [List.take_succ_cons, List.take_succ_cons]; simp only [gq]; rw [ih i h]; omega
theorem gq_le (ops : List Oq) (B : Nat) (h : ∀ o ∈ ops, o.l.length ≤ B) : gq ops ≤ ops.length * B := by
  induction ops with
  | nil => simp [gq]
  | cons a r ih =>
    have h1 := ih (fun o ho => h o (List.mem_cons_of_mem _ ho))
    have h2 := h a (List.mem_cons_self ..)
    simp only [gq, List.length_cons, Nat.succ_mul]; omega
structure GqI (v : V) (ops : List Oq) (h0 : H) (i : Nat) (T : Tr V) (h : H) : Prop where
  il : i ≤ ops.length
  t0 : evO T (.t 0) = v
  t3 : ∃ s : Int, evO T (.t 3) = .int .i64 s ∧ (ops.length ≤ 100 → s = (gq (ops.take i) : Nat))
  t6 : evO T (.t 6) = .int .i64 (ops.length : Int)
  t7 : evO T (.t 7) = .int .i64 (i : Int)
  hh : h = h0
theorem gq_step (Q : Orc) (m : Nat) (a : Option (Nat × Nat)) (c : Option Nat) (ez : Nat) (ops : List Oq) (B : Nat) (hB : B ≤ 140737488351232) (hl : ops.length ≤ B) (hs : ∀ o ∈ ops, o.l.length ≤ B) (h0 : H) (rw_ : RowS h0 ops a ez) : ∀ i T h, i < ops.length → GqI (.slice a ops.length c ez) ops h0 i T h → ∃ T' h', evC Q 26 m none L_purserlaw10_great_0 ⟨T, [], h⟩ = some (.normal, ⟨T', [], h'⟩) ∧ GqI (.slice a ops.length c ez) ops h0 (i + 1) T' h' := by
  intro i T h hi ⟨_, t0, ⟨s, t3, e3⟩, t6, t7, hh⟩
  subst hh
  have c0 : decide ((i : Int) < (ops.length : Int)) = true := decide_eq_true (by omega)
  have wi : wr .i64 ((i : Int) + 1) = ((i + 1 : Nat) : Int) := by rw [wr_i64 (by omega)]; omega
  have ix : idx (i : Int) ops.length = some i := idxn hi
  obtain ⟨o, ho⟩ : ∃ o, ops[i]? = some o := ⟨_, List.getElem?_eq_getElem hi⟩
  have om := List.mem_of_getElem? ho
  obtain ⟨q, off, vs, md, b, cb, eb, rfl, rfl, hq, g, _, _, cg⟩ := row_at rw_ i o ho
  have gt := gq_take ops i o ho
  rw [Nat.add_assoc] at cg
  have g1 : ops.length ≤ 100 → gq (ops.take (i + 1)) ≤ 100 * B := fun h => by
    have := gq_le (ops.take (i + 1)) B (fun x hx => hs x (List.mem_of_mem_take hx))
    have h2 : (ops.take (i + 1)).length ≤ 100 := by rw [List.length_take]; omega
    exact Nat.le_trans this (Nat.mul_le_mul_right _ h2)
  obtain ⟨w, ew⟩ : ∃ w, wr .i64 (s + (o.l.length : Int)) = w := ⟨_, rfl⟩
  have e4 : ops.length ≤ 100 → w = (gq (ops.take (i + 1)) : Nat) := fun h => by
    have := g1 h
    have := e3 h
    rw [← ew, this, gt]
    rw [wr_i64 (by omega)]; omega
  have i1 : i + 1 ≤ ops.length := hi
  obtain ⟨n, en⟩ : ∃ n, ops.length = n := ⟨_, rfl⟩
  rw [en] at t0 t6 c0 ix
  refine ⟨_, _, by
    simp (config := {maxSteps := 2000000}) (disch := first | omega | (simp only [List.length_cons, List.length_nil, List.length_append, List.length_drop]; omega)) only [L_purserlaw10_great_0, t0, t3, t6, t7, g, cg, c0, wi, ix, ew, ↓s_len, x_lenS, ↓b_xor32, ↓b_and32, ↓b_or32, ↓u_not32, b_xor32, b_and32, b_or32, u_not32, w32ad, ↓x_conv, x_convV, ↓x_fieldAddr, x_fieldV, ↓s_nilchk, x_nilchk, Nat.zero_add, Nat.add_zero, Nat.mul_one, ↓l_loop, ↓l_succ, ↓l_normal, l_normal, l_exit, l_ret, l_iteN, ↓h_put_get, ↓h_new_get, ↓h_del_get, h_next_put, h_next_new, h_next_del, Nat.add_assoc, Nat.add_eq_left, Nat.left_eq_add, Nat.add_left_cancel_iff, ↓s_load, m_load, ↓m_load1, m_load1, ↓m_st, m_stE, m_storeI, m_storeE, w_zero, w_succ, ↓s_alloc, ↓x_idxA, ↓x_idxS, x_idxAE, x_idxSE, x_addrE, x_idx, x_lenS, ↓s_len, ↓x_buildS, x_buildE, ↓x_P0, ↓x_P1, x_fill0, x_filli, x_fills, x_fillb, c_int, List.length_cons, List.length_nil, List.cons_append, List.drop_succ_cons, List.drop_zero, List.drop_nil, List.nil_append, Int.reduceAdd, Int.reduceToNat, Int.reduceLT, Int.reduceLE, Nat.reduceAdd, Nat.reduceMul, Nat.reduceLeDiff, Int.reduceEq, Int.reduceSub, Int.cast_ofNat_Int, s_resc, s_consR, m_load4, m_store4, s_res0, ↓s_skip, ↓s_ops, ↓s_dops, ↓s_seq, ↓s_cond, ↓s_block, ↓s_exit, ↓s_ret, ↓s_scope, ↓s_nil, ↓s_op, ↓s_opg, ↓s_wanted', ↓s_wantV, s_wantV, s_wantV0, beq_true, beq_false, ↓s_bindS, s_bindS, ↓s_bindE, s_bindE, s_bindE_ret, s_bindE_exit, s_bindE_iteN, s_norm, ↓s_condV, s_condV, s_block_ret, s_block_normal, s_block_exit, s_block_iteN, ↓s_getp, ↓s_getp0, ↓s_get, s_get0, ↓s_con, ↓s_fn, ↓s_os0, ↓s_os1, ↓s_list0, ↓s_list1, ↓s_mov, ↓s_pick, ↓s_pickE, s_pickE, ↓s_bin, ↓s_un, ↓s_minmax, ↓s_call, ↓s_callv, ↓s_callV, ↓s_ext, s_same, b_eql, b_neq, b_lss, b_leq, b_gtr, b_geq, b_add, b_sub, b_mul, b_eqlb, b_neqb, b_fnil, b_fnil', b_fnil2, b_fnil2', u_neg, u_not, m_two, s_end, s_end', s_end_iteN, s_res0, s_res1, s_tup1, s_tup2, ↓iteN_true, ↓iteN_false, iteN_true, iteN_false, Nat.zero_add, List.nil_append, List.append_nil, Nat.reduceEqDiff, reduceIte, decide_true, decide_false, Bool.not_true, Bool.not_false, List.getElem?_cons_zero, List.getElem?_cons_succ, Bool.false_eq_true, if_true, if_false, beq_self_eq_true]
    exact rfl, ⟨i1, by rw [en]; exact (by (simp only [s_getp, s_getp0, Nat.reduceEqDiff, decide_false, decide_true, iteN_false, iteN_true, t0]; try rfl)), ⟨w, (by (simp only [s_getp, s_getp0, Nat.reduceEqDiff, decide_false, decide_true, iteN_false, iteN_true, t3]; try rfl)), e4⟩, by rw [en]; exact (by (simp only [s_getp, s_getp0, Nat.reduceEqDiff, decide_false, decide_true, iteN_false, iteN_true, t6]; try rfl)), (by (simp only [s_getp, s_getp0, Nat.reduceEqDiff, decide_false, decide_true, iteN_false, iteN_true, t7]; try rfl)), rfl⟩⟩
def greatQ (ops : List Oq) : Bool := decide (100 < ops.length) || decide (70000 < gq ops)
theorem greatq_go (e : E k_purserlaw10_great = some f_purserlaw10_great) (x : ∀ a h, X (.fn k_purserlaw10_great) a h = none) (N : Nat) (a : Option (Nat × Nat)) (c : Option Nat) (ez : Nat) (ops : List Oq) (B : Nat) (hB : B ≤ 140737488351232) (hl : ops.length ≤ B) (hs : ∀ o ∈ ops, o.l.length ≤ B) (h : H) (rw_ : RowS h ops a ez) :
    callX E X (N + ops.length + 26) (.fn k_purserlaw10_great) [.slice a ops.length c ez] h = some (.bool (greatQ ops), h) := by
  rw [x_cfn e _ _ (Nat.le_of_ble_eq_true rfl) (x _ _)]
  have fin : ∀ T, GqI (.slice a ops.length c ez) ops h 0 T h → fnEnd [.tmp 2] (bindE (blockE 0 (loopN (evC (callX E X (N + ops.length + 25)) 26 (N + ops.length + 25) none L_purserlaw10_great_0) (N + ops.length + 25) ⟨T, [], h⟩)) (evC (callX E X (N + ops.length + 25)) 26 (N + ops.length + 25) none R_purserlaw10_great_0)) = some (.bool (greatQ ops), h) := by
    intro T I
    obtain ⟨T', h', r, t0, ⟨s, t3, e3⟩, hh⟩ := loop_go (f := evC (callX E X (N + ops.length + 25)) 26 (N + ops.length + 25) none L_purserlaw10_great_0) (GqI (.slice a ops.length c ez) ops h) ops.length (.exit 0) (by intro h; cases h) (fun T h' => evO T (.t 0) = .slice a ops.length c ez ∧ (∃ s : Int, evO T (.t 3) = .int .i64 s ∧ (ops.length ≤ 100 → s = (gq ops : Nat))) ∧ h' = h) (gq_step _ _ a c ez ops B hB hl hs h rw_) (fun T h' I => by
      obtain ⟨il, t0, ⟨s, t3, e3⟩, t6, t7, hh⟩ := I
      rw [List.take_length] at e3
      have c0 : decide ((ops.length : Int) < (ops.length : Int)) = false := decide_eq_false (by omega)
      refine ⟨_, _, by
        simp (config := {maxSteps := 2000000}) (disch := first | omega | (simp only [List.length_cons, List.length_nil, List.length_append, List.length_drop]; omega)) only [L_purserlaw10_great_0, t6, t7, c0, ↓b_xor32, ↓b_and32, ↓b_or32, ↓u_not32, b_xor32, b_and32, b_or32, u_not32, w32ad, ↓x_conv, x_convV, ↓x_fieldAddr, x_fieldV, ↓s_nilchk, x_nilchk, Nat.zero_add, Nat.add_zero, Nat.mul_one, ↓l_loop, ↓l_succ, ↓l_normal, l_normal, l_exit, l_ret, l_iteN, ↓h_put_get, ↓h_new_get, ↓h_del_get, h_next_put, h_next_new, h_next_del, Nat.add_assoc, Nat.add_eq_left, Nat.left_eq_add, Nat.add_left_cancel_iff, ↓s_load, m_load, ↓m_load1, m_load1, ↓m_st, m_stE, m_storeI, m_storeE, w_zero, w_succ, ↓s_alloc, ↓x_idxA, ↓x_idxS, x_idxAE, x_idxSE, x_addrE, x_idx, x_lenS, ↓s_len, ↓x_buildS, x_buildE, ↓x_P0, ↓x_P1, x_fill0, x_filli, x_fills, x_fillb, c_int, List.length_cons, List.length_nil, List.cons_append, List.drop_succ_cons, List.drop_zero, List.drop_nil, List.nil_append, Int.reduceAdd, Int.reduceToNat, Int.reduceLT, Int.reduceLE, Nat.reduceAdd, Nat.reduceMul, Nat.reduceLeDiff, Int.reduceEq, Int.reduceSub, Int.cast_ofNat_Int, s_resc, s_consR, m_load4, m_store4, s_res0, ↓s_skip, ↓s_ops, ↓s_dops, ↓s_seq, ↓s_cond, ↓s_block, ↓s_exit, ↓s_ret, ↓s_scope, ↓s_nil, ↓s_op, ↓s_opg, ↓s_wanted', ↓s_wantV, s_wantV, s_wantV0, beq_true, beq_false, ↓s_bindS, s_bindS, ↓s_bindE, s_bindE, s_bindE_ret, s_bindE_exit, s_bindE_iteN, s_norm, ↓s_condV, s_condV, s_block_ret, s_block_normal, s_block_exit, s_block_iteN, ↓s_getp, ↓s_getp0, ↓s_get, s_get0, ↓s_con, ↓s_fn, ↓s_os0, ↓s_os1, ↓s_list0, ↓s_list1, ↓s_mov, ↓s_pick, ↓s_pickE, s_pickE, ↓s_bin, ↓s_un, ↓s_minmax, ↓s_call, ↓s_callv, ↓s_callV, ↓s_ext, s_same, b_eql, b_neq, b_lss, b_leq, b_gtr, b_geq, b_add, b_sub, b_mul, b_eqlb, b_neqb, b_fnil, b_fnil', b_fnil2, b_fnil2', u_neg, u_not, m_two, s_end, s_end', s_end_iteN, s_res0, s_res1, s_tup1, s_tup2, ↓iteN_true, ↓iteN_false, iteN_true, iteN_false, Nat.zero_add, List.nil_append, List.append_nil, Nat.reduceEqDiff, reduceIte, decide_true, decide_false, Bool.not_true, Bool.not_false, List.getElem?_cons_zero, List.getElem?_cons_succ, Bool.false_eq_true, if_true, if_false, beq_self_eq_true]
        exact rfl, (by (simp only [s_getp, s_getp0, Nat.reduceEqDiff, decide_false, decide_true, iteN_false, iteN_true, t0]; try rfl)), ⟨s, (by (simp only [s_getp, s_getp0, Nat.reduceEqDiff, decide_false, decide_true, iteN_false, iteN_true, t3]; try rfl)), e3⟩, hh⟩) ops.length 0 (by omega) (N + ops.length + 25) (by omega) T h I
    rw [r, hh]
    unfold greatQ
    by_cases c : 100 < ops.length
    · have c1 : decide ((100 : Int) < (ops.length : Int)) = true := decide_eq_true (by omega)
      rw [decide_eq_true c, Bool.true_or]
      simp (config := {maxSteps := 2000000}) (disch := first | omega | (simp only [List.length_cons, List.length_nil, List.length_append, List.length_drop]; omega)) only [R_purserlaw10_great_0, t0, t3, c1, ↓s_len, x_lenS, ↓b_xor32, ↓b_and32, ↓b_or32, ↓u_not32, b_xor32, b_and32, b_or32, u_not32, w32ad, ↓x_conv, x_convV, ↓x_fieldAddr, x_fieldV, ↓s_nilchk, x_nilchk, Nat.zero_add, Nat.add_zero, Nat.mul_one, ↓l_loop, ↓l_succ, ↓l_normal, l_normal, l_exit, l_ret, l_iteN, ↓h_put_get, ↓h_new_get, ↓h_del_get, h_next_put, h_next_new, h_next_del, Nat.add_assoc, Nat.add_eq_left, Nat.left_eq_add, Nat.add_left_cancel_iff, ↓s_load, m_load, ↓m_load1, m_load1, ↓m_st, m_stE, m_storeI, m_storeE, w_zero, w_succ, ↓s_alloc, ↓x_idxA, ↓x_idxS, x_idxAE, x_idxSE, x_addrE, x_idx, x_lenS, ↓s_len, ↓x_buildS, x_buildE, ↓x_P0, ↓x_P1, x_fill0, x_filli, x_fills, x_fillb, c_int, List.length_cons, List.length_nil, List.cons_append, List.drop_succ_cons, List.drop_zero, List.drop_nil, List.nil_append, Int.reduceAdd, Int.reduceToNat, Int.reduceLT, Int.reduceLE, Nat.reduceAdd, Nat.reduceMul, Nat.reduceLeDiff, Int.reduceEq, Int.reduceSub, Int.cast_ofNat_Int, s_resc, s_consR, m_load4, m_store4, s_res0, ↓s_skip, ↓s_ops, ↓s_dops, ↓s_seq, ↓s_cond, ↓s_block, ↓s_exit, ↓s_ret, ↓s_scope, ↓s_nil, ↓s_op, ↓s_opg, ↓s_wanted', ↓s_wantV, s_wantV, s_wantV0, beq_true, beq_false, ↓s_bindS, s_bindS, ↓s_bindE, s_bindE, s_bindE_ret, s_bindE_exit, s_bindE_iteN, s_norm, ↓s_condV, s_condV, s_block_ret, s_block_normal, s_block_exit, s_block_iteN, ↓s_getp, ↓s_getp0, ↓s_get, s_get0, ↓s_con, ↓s_fn, ↓s_os0, ↓s_os1, ↓s_list0, ↓s_list1, ↓s_mov, ↓s_pick, ↓s_pickE, s_pickE, ↓s_bin, ↓s_un, ↓s_minmax, ↓s_call, ↓s_callv, ↓s_callV, ↓s_ext, s_same, b_eql, b_neq, b_lss, b_leq, b_gtr, b_geq, b_add, b_sub, b_mul, b_eqlb, b_neqb, b_fnil, b_fnil', b_fnil2, b_fnil2', u_neg, u_not, m_two, s_end, s_end', s_end_iteN, s_res0, s_res1, s_tup1, s_tup2, ↓iteN_true, ↓iteN_false, iteN_true, iteN_false, Nat.zero_add, List.nil_append, List.append_nil, Nat.reduceEqDiff, reduceIte, decide_true, decide_false, Bool.not_true, Bool.not_false, List.getElem?_cons_zero, List.getElem?_cons_succ, Bool.false_eq_true, if_true, if_false, beq_self_eq_true]
    · have c1 : decide ((100 : Int) < (ops.length : Int)) = false := decide_eq_false (by omega)
      rw [decide_eq_false c, Bool.false_or]
      have e4 := e3 (by omega)
      have c2 : decide ((70000 : Int) < s) = decide (70000 < gq ops) := by rw [decide_eq_decide]; omega
      generalize decide (70000 < gq ops) = q at *
      simp (config := {maxSteps := 2000000}) (disch := first | omega | (simp only [List.length_cons, List.length_nil, List.length_append, List.length_drop]; omega)) only [R_purserlaw10_great_0, t0, t3, c1, c2, ↓s_len, x_lenS, ↓b_xor32, ↓b_and32, ↓b_or32, ↓u_not32, b_xor32, b_and32, b_or32, u_not32, w32ad, ↓x_conv, x_convV, ↓x_fieldAddr, x_fieldV, ↓s_nilchk, x_nilchk, Nat.zero_add, Nat.add_zero, Nat.mul_one, ↓l_loop, ↓l_succ, ↓l_normal, l_normal, l_exit, l_ret, l_iteN, ↓h_put_get, ↓h_new_get, ↓h_del_get, h_next_put, h_next_new, h_next_del, Nat.add_assoc, Nat.add_eq_left, Nat.left_eq_add, Nat.add_left_cancel_iff, ↓s_load, m_load, ↓m_load1, m_load1, ↓m_st, m_stE, m_storeI, m_storeE, w_zero, w_succ, ↓s_alloc, ↓x_idxA, ↓x_idxS, x_idxAE, x_idxSE, x_addrE, x_idx, x_lenS, ↓s_len, ↓x_buildS, x_buildE, ↓x_P0, ↓x_P1, x_fill0, x_filli, x_fills, x_fillb, c_int, List.length_cons, List.length_nil, List.cons_append, List.drop_succ_cons, List.drop_zero, List.drop_nil, List.nil_append, Int.reduceAdd, Int.reduceToNat, Int.reduceLT, Int.reduceLE, Nat.reduceAdd, Nat.reduceMul, Nat.reduceLeDiff, Int.reduceEq, Int.reduceSub, Int.cast_ofNat_Int, s_resc, s_consR, m_load4, m_store4, s_res0, ↓s_skip, ↓s_ops, ↓s_dops, ↓s_seq, ↓s_cond, ↓s_block, ↓s_exit, ↓s_ret, ↓s_scope, ↓s_nil, ↓s_op, ↓s_opg, ↓s_wanted', ↓s_wantV, s_wantV, s_wantV0, beq_true, beq_false, ↓s_bindS, s_bindS, ↓s_bindE, s_bindE, s_bindE_ret, s_bindE_exit, s_bindE_iteN, s_norm, ↓s_condV, s_condV, s_block_ret, s_block_normal, s_block_exit, s_block_iteN, ↓s_getp, ↓s_getp0, ↓s_get, s_get0, ↓s_con, ↓s_fn, ↓s_os0, ↓s_os1, ↓s_list0, ↓s_list1, ↓s_mov, ↓s_pick, ↓s_pickE, s_pickE, ↓s_bin, ↓s_un, ↓s_minmax, ↓s_call, ↓s_callv, ↓s_callV, ↓s_ext, s_same, b_eql, b_neq, b_lss, b_leq, b_gtr, b_geq, b_add, b_sub, b_mul, b_eqlb, b_neqb, b_fnil, b_fnil', b_fnil2, b_fnil2', u_neg, u_not, m_two, s_end, s_end', s_end_iteN, s_res0, s_res1, s_tup1, s_tup2, ↓iteN_true, ↓iteN_false, iteN_true, iteN_false, Nat.zero_add, List.nil_append, List.append_nil, Nat.reduceEqDiff, reduceIte, decide_true, decide_false, Bool.not_true, Bool.not_false, List.getElem?_cons_zero, List.getElem?_cons_succ, Bool.false_eq_true, if_true, if_false, beq_self_eq_true]
  obtain ⟨R, eR⟩ : ∃ R, R_purserlaw10_great_0 = R := ⟨_, rfl⟩
  obtain ⟨Lo, eL⟩ : ∃ R, L_purserlaw10_great_0 = R := ⟨_, rfl⟩
  rw [eR, eL] at fin ⊢
  simp (config := {maxSteps := 2000000}) (disch := first | omega | (simp only [List.length_cons, List.length_nil, List.length_append, List.length_drop]; omega)) only [↓s_len, x_lenS, ↓b_xor32, ↓b_and32, ↓b_or32, ↓u_not32, b_xor32, b_and32, b_or32, u_not32, w32ad, ↓x_conv, x_convV, ↓x_fieldAddr, x_fieldV, ↓s_nilchk, x_nilchk, Nat.zero_add, Nat.add_zero, Nat.mul_one, ↓l_loop, ↓l_succ, ↓l_normal, l_normal, l_exit, l_ret, l_iteN, ↓h_put_get, ↓h_new_get, ↓h_del_get, h_next_put, h_next_new, h_next_del, Nat.add_assoc, Nat.add_eq_left, Nat.left_eq_add, Nat.add_left_cancel_iff, ↓s_load, m_load, ↓m_load1, m_load1, ↓m_st, m_stE, m_storeI, m_storeE, w_zero, w_succ, ↓s_alloc, ↓x_idxA, ↓x_idxS, x_idxAE, x_idxSE, x_addrE, x_idx, x_lenS, ↓s_len, ↓x_buildS, x_buildE, ↓x_P0, ↓x_P1, x_fill0, x_filli, x_fills, x_fillb, c_int, List.length_cons, List.length_nil, List.cons_append, List.drop_succ_cons, List.drop_zero, List.drop_nil, List.nil_append, Int.reduceAdd, Int.reduceToNat, Int.reduceLT, Int.reduceLE, Nat.reduceAdd, Nat.reduceMul, Nat.reduceLeDiff, Int.reduceEq, Int.reduceSub, Int.cast_ofNat_Int, s_resc, s_consR, m_load4, m_store4, s_res0, ↓s_skip, ↓s_ops, ↓s_dops, ↓s_seq, ↓s_cond, ↓s_block, ↓s_exit, ↓s_ret, ↓s_scope, ↓s_nil, ↓s_op, ↓s_opg, ↓s_wanted', ↓s_wantV, s_wantV, s_wantV0, beq_true, beq_false, ↓s_bindS, s_bindS, ↓s_bindE, s_bindE, s_bindE_ret, s_bindE_exit, s_bindE_iteN, s_norm, ↓s_condV, s_condV, s_block_ret, s_block_normal, s_block_exit, s_block_iteN, ↓s_getp, ↓s_getp0, ↓s_get, s_get0, ↓s_con, ↓s_fn, ↓s_os0, ↓s_os1, ↓s_list0, ↓s_list1, ↓s_mov, ↓s_pick, ↓s_pickE, s_pickE, ↓s_bin, ↓s_un, ↓s_minmax, ↓s_call, ↓s_callv, ↓s_callV, ↓s_ext, s_same, b_eql, b_neq, b_lss, b_leq, b_gtr, b_geq, b_add, b_sub, b_mul, b_eqlb, b_neqb, b_fnil, b_fnil', b_fnil2, b_fnil2', u_neg, u_not, m_two, s_end, s_end', s_end_iteN, s_res0, s_res1, s_tup1, s_tup2, ↓iteN_true, ↓iteN_false, iteN_true, iteN_false, Nat.zero_add, List.nil_append, List.append_nil, Nat.reduceEqDiff, reduceIte, decide_true, decide_false, Bool.not_true, Bool.not_false, List.getElem?_cons_zero, List.getElem?_cons_succ, Bool.false_eq_true, if_true, if_false, beq_self_eq_true]
  exact fin _ ⟨by omega, (by (simp only [s_getp, s_getp0, Nat.reduceEqDiff, decide_false, decide_true, iteN_false, iteN_true, eL]; try rfl)), ⟨0, (by (simp only [s_getp, s_getp0, Nat.reduceEqDiff, decide_false, decide_true, iteN_false, iteN_true, eL]; try rfl)), fun _ => rfl⟩, (by (simp only [s_getp, s_getp0, Nat.reduceEqDiff, decide_false, decide_true, iteN_false, iteN_true, eL]; try rfl)), (by (simp only [s_getp, s_getp0, Nat.reduceEqDiff, decide_false, decide_true, iteN_false, iteN_true, eL]; try rfl)), rfl⟩
/-! parts of rows, and two texts one behind the other -/
theorem RowF.hi {lo : Nat} {h : H} {dn : List Oq} {a : Option (Nat × Nat)} {c : Option Nat} {e : Nat} (r : RowF lo h dn a c e) (n : Nat) (k : IntKind) (hn : n ≤ dn.length) : ∃ c', slcV 2 none (some (.int k (n : Int))) none (.slice a dn.length c e) = some (.slice a n c' 2) := by
  rcases r with ⟨rfl, rfl, rfl, rfl⟩ | ⟨_, q, md, ps, rfl, rfl, rfl, _⟩
  · rw [List.length_nil] at hn
    obtain rfl : n = 0 := by omega
    exact ⟨some 0, rfl⟩
  · refine ⟨none, ?_⟩
    have e1 : slcV 2 none (some (.int k (n : Int))) none (.slice (some (q, 0)) dn.length none 2) = (match bnd (some (.int k (n : Int))) dn.length dn.length with
      | some b => (match bnd none 0 b with | some l => some (.slice (upA (some (q, 0)) (l * 2)) (b - l) (subC none l) 2) | none => none)
      | none => none) := rfl
    rw [e1, x_bnd _ _ _ _ hn]
    rfl
theorem RowF.los {lo : Nat} {h : H} {dn : List Oq} {a : Option (Nat × Nat)} {c : Option Nat} {e : Nat} (r : RowF lo h dn a c e) (n : Nat) (k : IntKind) (hn : n ≤ dn.length) : ∃ c', slcV 2 (some (.int k (n : Int))) none none (.slice a dn.length c e) = some (.slice (upA a (n * 2)) (dn.length - n) c' 2) := by
  rcases r with ⟨rfl, rfl, rfl, rfl⟩ | ⟨_, q, md, ps, rfl, rfl, rfl, _⟩
  · rw [List.length_nil] at hn
    obtain rfl : n = 0 := by omega
    exact ⟨some 0, rfl⟩
  · refine ⟨none, ?_⟩
    have e1 : slcV 2 (some (.int k (n : Int))) none none (.slice (some (q, 0)) dn.length none 2) = (match bnd none dn.length dn.length with
      | some b => (match bnd (some (.int k (n : Int))) 0 b with | some l => some (.slice (upA (some (q, 0)) (l * 2)) (b - l) (subC none l) 2) | none => none)
      | none => none) := rfl
    rw [e1, x_bnd0]
    simp only
    rw [x_bnd _ _ _ _ hn]
    rfl
theorem RowS.e2 {h : H} {ops : List Oq} {a : Option (Nat × Nat)} {e : Nat} (r : RowS h ops a e) : RowS h ops a 2 := by
  rcases r with r | ⟨q, off, vs, md, e1, e2, t⟩
  · exact .inl r
  · exact .inr ⟨q, off, vs, md, e1, rfl, t⟩
theorem app_2 (h : H) (b s : List Nat) (hl : b.length + s.length ≤ 1000000) : ∃ v h1 a c e h', appendC (h.new (.cells [] .rw)) 1 1 (.slice (some (h.next, 0)) 0 (some 0) 1) (some (b.length, ofI .u8 b)) = some (v, h1) ∧ Kp h h1 ∧ appendC h1 1 1 v (some (s.length, ofI .u8 s)) = some (.slice a (b ++ s).length c e, h') ∧ Kp h h' ∧ SrcH h' a e (b ++ s) ∧ (b ++ s ≠ [] → c = none) := by
  by_cases hb : b = []
  · subst hb
    have e0 : appendC (h.new (.cells [] .rw)) 1 1 (.slice (some (h.next, 0)) 0 (some 0) 1) (some (([] : List Nat).length, ofI .u8 [])) = some (.slice (some (h.next, 0)) 0 (some 0) 1, h.new (.cells [] .rw)) := appN _ _ _ _ _ _
    refine ⟨.slice (some (h.next, 0)) 0 (some 0) 1, h.new (.cells [] .rw), ?_⟩
    cases hn : s.length with
    | zero =>
      have l0 : s = [] := List.length_eq_zero_iff.1 hn
      subst l0
      exact ⟨some (h.next, 0), some 0, 1, _, e0, Kp.new _ _, appN _ _ _ _ _ _, Kp.new _ _, .inl rfl, fun h => absurd rfl h⟩
    | succ n =>
      obtain ⟨h1, e1⟩ : ∃ h1, h.new (.cells [] .rw) = h1 := ⟨_, rfl⟩
      have g : h1.get h.next = some (.cells [] .rw) := by rw [← e1]; exact h_new_same _ _
      have k1 : Kp h h1 := by rw [← e1]; exact Kp.new _ _
      rw [e1] at e0 ⊢
      refine ⟨some (h1.next, 0), none, 1, h1.new (.cells (ofI .u8 s) .rw), e0, k1, ?_, k1.trans (Kp.new _ _), .inr ⟨h1.next, 0, _, .rw, rfl, rfl, Nat.lt_succ_self _, h_new_same _ _, by rw [ofI_len]; simp, by rw [List.drop_zero]; exact List.take_of_length_le (by rw [ofI_len]; exact Nat.le_refl _)⟩, fun _ => rfl⟩
      rw [List.nil_append, hn]
      unfold appendC
      simp only
      have r : (roomy (0 + (n + 1)) 1 && (Nat.beq 1 1 || (some (h.next, 0) : Option (Nat × Nat)).isNone) && (ofI .u8 s).all plainV) = true := by
        rw [plain_ofI]; have : roomy (0 + (n + 1)) 1 = true := by simp [roomy]; simp at hl; omega
        rw [this]; rfl
      have f : fullC (some 0) (0 + (n + 1)) = true := by
        show Nat.blt 0 (0 + (n + 1)) = true
        simp
      rw [r]
      simp only [_root_.cond_true, g, f]
      have rd : readN ([] : List V) 0 (0 * 1) = some [] := rfl
      simp only [rd, List.nil_append, Nat.zero_add]
  · obtain ⟨n, hn⟩ : ∃ n, b.length = n + 1 := ⟨b.length - 1, by have := List.length_pos_iff.2 hb; omega⟩
    obtain ⟨h1, e1⟩ : ∃ h1, h.new (.cells [] .rw) = h1 := ⟨_, rfl⟩
    have g : h1.get h.next = some (.cells [] .rw) := by rw [← e1]; exact h_new_same _ _
    have k1 : Kp h h1 := by rw [← e1]; exact Kp.new _ _
    have n1 := k1.1
    have wb : Wb (h1.new (.cells (ofI .u8 b) .rw)) b (some (h1.next, 0)) none 1 := .inr ⟨by omega, h1.next, .rw, rfl, rfl, rfl, h_new_same _ _, rfl, Nat.lt_succ_self _⟩
    obtain ⟨a', c', e', h', r2, wb2, nx, fr, ow⟩ := ap_wb _ b s _ _ _ wb hl
    refine ⟨.slice (some (h1.next, 0)) b.length none 1, h1.new (.cells (ofI .u8 b) .rw), a', c', e', h', ?_, k1.trans (Kp.new _ _), r2, ⟨by have : (h1.new (.cells (ofI .u8 b) .rw)).next = h1.next + 1 := rfl; omega, fun i hi => by rw [fr i (by have : (h1.new (.cells (ofI .u8 b) .rw)).next = h1.next + 1 := rfl; omega) (fun e => by cases e; omega), h_new_ne _ _ (by omega), k1.2 _ hi]⟩, wb2.src, fun hne => ?_⟩
    · rw [e1, hn]
      unfold appendC
      simp only
      have r : (roomy (0 + (n + 1)) 1 && (Nat.beq 1 1 || (some (h.next, 0) : Option (Nat × Nat)).isNone) && (ofI .u8 b).all plainV) = true := by
        rw [plain_ofI]; have : roomy (0 + (n + 1)) 1 = true := by simp [roomy]; omega
        rw [this]; rfl
      have f : fullC (some 0) (0 + (n + 1)) = true := by
        show Nat.blt 0 (0 + (n + 1)) = true
        simp
      rw [r]
      simp only [_root_.cond_true, g, f]
      have rd : readN ([] : List V) 0 (0 * 1) = some [] := rfl
      simp only [rd, List.nil_append, Nat.zero_add]
    · rcases wb2 with ⟨w1, _⟩ | ⟨_, _, _, _, w3, _⟩
      · exact absurd w1 hne
      · exact w3
end Go.Eng
