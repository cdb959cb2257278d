/- What functions of the program come to: own work. -/
import Derived.Test.YtgjoaeefnknpfaaCmA
namespace Go.Eng
open Go
variable {E : Nat → Option Fn} {X : Orc}
set_option linter.unusedSimpArgs false
set_option linter.unusedVariables false
structure EnCm (E : Nat → Option Fn) : Prop where
  mark : E k_crc_Mark = some f_crc_Mark
  bare : E k_crc_Bare = some f_crc_Bare
  ep : EnPen E
  ey : EnEye E
  lk : E k_octet_Look = some f_octet_Look
  cr : EnCrc E
  rc : EnRc E
  rf : EnRf E
  r4 : E k_purserref02_Four = some f_purserref02_Four
  rm : E k_purserref02_Mark = some f_purserref02_Mark
  rb : E k_purserref02_Bare = some f_purserref02_Bare
structure NoCm (X : Orc) : Prop where
  mark : ∀ a h, X (.fn k_crc_Mark) a h = none
  bare : ∀ a h, X (.fn k_crc_Bare) a h = none
  raw : ∀ a h, X (.fn k_octet_Pen_Raw) a h = none
  all : ∀ a h, X (.fn k_octet_Pen_All) a h = none
  fi : NoFix X
  ey : NoEye X
  lk : ∀ a h, X (.fn k_octet_Look) a h = none
  cr : NoCrc X
  rc : NoRc X
  rf : NoRf X
  r4 : ∀ a h, X (.fn k_purserref02_Four) a h = none
  rm : ∀ a h, X (.fn k_purserref02_Mark) a h = none
  rb : ∀ a h, X (.fn k_purserref02_Bare) a h = none
theorem fix4 (n : Nat) (h : n < 4294967296) : fixE 4 n = 0 ∧ fixB 4 n = leN 4 n := by
  have hz : sizedI 4 = true := rfl
  have e2 : fixE 4 n = 0 := by
    unfold fixE; rw [hz, if_pos rfl, if_pos (by have := (wid_pow' n 4 (by omega) (by omega)).2 (by show n < 4294967296; exact h); omega)]
  exact ⟨e2, by unfold fixB; rw [e2, if_pos rfl]; rfl⟩
/-- the sum of one slice, which lies in a new block -/
theorem sum1_go (e : EnCrc E) (x : NoCrc X) (M : Nat) (b : List Nat) (bb : byt b = true) (hb : b.length ≤ 10000) (hM : 10100 < M) (a : Option (Nat × Nat)) (c : Option Nat) (ez : Nat) (h : H) (src : SrcH h a ez b) :
    ∃ h', callX E X (M + 12) (.fn k_crc_Sum) [.slice (some (h.next, 0)) 1 (some 1) 1] (h.new (.cells [.slice a b.length c ez] .rw)) = some (.int .u32 (onV 0 b : Nat), h') ∧ Kp h h' := by
  have kW : Kp h (h.new (.cells [.slice a b.length c ez] .rw)) := Kp.new _ _
  obtain ⟨h2, r2, k2⟩ := sum_go e x M h.next [(a, c, ez, b)] (some 1) (by show 1 < _; omega) (by show 1 < _; omega) .rw _ (Nat.lt_succ_self _) (h_new_same _ _) (fun q hq => by
    rcases List.mem_singleton.1 hq with rfl
    exact ⟨src.mono kW, bb, by show b.length < _; omega, by show b.length < _; omega⟩)
  exact ⟨h2, r2, kW.trans k2⟩
theorem cmark_go (e : EnCm E) (x : NoCm X) (M : Nat) (b : List Nat) (bb : byt b = true) (hb : b.length ≤ 10000) (hM : 10100 < M) (a : Option (Nat × Nat)) (c : Option Nat) (ez : Nat) (h : H) (src : SrcH h a ez b) :
    ∃ h' a' c' e', callX E X (M + 20) (.fn k_crc_Mark) [.slice a b.length c ez] h = some (.slice a' (b ++ leN 4 (onV 0 b)).length c' e', h') ∧ Nw h h' (b ++ leN 4 (onV 0 b)) a' c' e' := by
  rw [x_cfn e.mark _ _ (Nat.le_of_ble_eq_true rfl) (x.mark _ _)]
  obtain ⟨hQ, eQ⟩ : ∃ hQ, h.new (.cells [.slice none 0 (some 0) 0] .rw) = hQ := ⟨_, rfl⟩
  have nQ : hQ.next = h.next + 1 := by rw [← eQ]; rfl
  have kQ : Kp h hQ := by rw [← eQ]; exact Kp.new _ _
  have p0 : PenH h.next [] none hQ := .new _ _ (by omega) (by rw [← eQ]; exact h_new_same _ _)
  have po : PartOk h.next none hQ (a, c, ez, b) := ⟨src.mono kQ, fun hl q o ea => ⟨by
    rcases src with s | ⟨bi, off, vs, m, e1, _, e3, _⟩
    · exact absurd s hl
    · simp only at ea; rw [e1] at ea; cases ea; omega, by simp⟩⟩
  obtain ⟨h1, a1, r1, p1, f1⟩ := raw1_go e.ep.rw_ x.raw (M + 18) h.next (by omega) [] b a c ez none (by simp; omega) hQ p0 po
  rw [List.nil_append] at p1
  have s1 := (po.fr f1).1
  simp only at s1
  obtain ⟨h2, r2, k2⟩ := sum1_go e.cr x.cr (M + 7) b bb hb (by omega) a c ez h1 s1
  have sl := onV_lt 0 b
  obtain ⟨S, eS⟩ : ∃ S, onV 0 b = S := ⟨_, rfl⟩
  rw [eS] at sl r2 ⊢
  obtain ⟨fe, fb⟩ := fix4 S sl
  obtain ⟨h3, a3, r3, p3, f3⟩ := fixedv_go e.ep.fi x.fi (M + 15) h.next 4 S (by omega) (by omega) b (by omega) a1 h2 (p1.kp k2)
  rw [fe] at r3
  rw [fb] at p3
  have lb : (b ++ leN 4 S).length ≤ 1000000 := by rw [List.length_append, leN_len]; omega
  obtain ⟨a4, c4, e4, h4, r4, nw⟩ := allv_go e.ep.al x.all (M + 18) h.next _ lb a3 h3 p3
  have f13 := f1.trans ((Fr.of_kp k2).trans f3)
  have nx := f13.nx
  refine ⟨h4, a4, c4, e4, ?_, ⟨⟨by have := nw.kp.1; omega, fun j hj => by rw [nw.kp.2 _ (by omega), f13.fr _ (by omega) (by omega) (by simp), kQ.2 _ hj]⟩, nw.wb, fun q o ea => by have := nw.ge q o ea; omega⟩⟩
  have wS : wr .u64 (S : Int) = (S : Int) := u64n _ (by omega)
  obtain ⟨n, en⟩ : ∃ n, b.length = n := ⟨_, rfl⟩
  obtain ⟨L, eL⟩ : ∃ L, (b ++ leN 4 S).length = L := ⟨_, rfl⟩
  rw [en] at r1 r2 ⊢
  rw [eL] at r4 ⊢
  replace r1 : callX E X (M + 19) (.fn k_octet_Pen_Raw) [.ptr (some (h.next, 0)), .slice (some (hQ.next, 0)) 1 (some 1) 1] (hQ.new (.cells [.slice a n c ez] .rw)) = some (.int .i64 0, h1) := r1
  replace r2 : callX E X (M + 19) (.fn k_crc_Sum) [.slice (some (h1.next, 0)) 1 (some 1) 1] (h1.new (.cells [.slice a n c ez] .rw)) = some (.int .u32 (S : Nat), h2) := r2
  replace r3 : callX E X (M + 19) (.fn k_octet_Pen_Fixed) [.ptr (some (h.next, 0)), .int .i64 4, .int .u64 (S : Int)] h2 = some (.int .i64 0, h3) := r3
  replace r4 : callX E X (M + 19) (.fn k_octet_Pen_All) [.ptr (some (h.next, 0))] h3 = some (.slice a4 L c4 e4, h4) := r4
  simp (config := {maxSteps := 2000000}) (disch := first | omega | (simp only [List.length_cons, List.length_nil, List.length_append, List.length_drop]; omega)) only [eQ, r1, r2, r3, r4, wS, ↓b_xor32, ↓b_and32, ↓b_or32, ↓u_not32, b_xor32, b_and32, b_or32, u_not32, w32ad, ↓x_conv, x_convV, ↓x_fieldAddr, x_fieldV, ↓s_nilchk, x_nilchk, Nat.zero_add, Nat.add_zero, Nat.mul_one, ↓l_loop, ↓l_succ, ↓l_normal, l_normal, l_exit, l_ret, l_iteN, ↓h_put_get, ↓h_new_get, ↓h_del_get, h_next_put, h_next_new, h_next_del, Nat.add_assoc, Nat.add_eq_left, Nat.left_eq_add, Nat.add_left_cancel_iff, ↓s_load, m_load, ↓m_load1, m_load1, ↓m_st, m_stE, m_storeI, m_storeE, w_zero, w_succ, ↓s_alloc, ↓x_idxA, ↓x_idxS, x_idxAE, x_idxSE, x_addrE, x_idx, x_lenS, ↓s_len, ↓x_buildS, x_buildE, ↓x_P0, ↓x_P1, x_fill0, x_filli, x_fills, x_fillb, c_int, List.length_cons, List.length_nil, List.cons_append, List.drop_succ_cons, List.drop_zero, List.drop_nil, List.nil_append, Int.reduceAdd, Int.reduceToNat, Int.reduceLT, Int.reduceLE, Nat.reduceAdd, Nat.reduceMul, Nat.reduceLeDiff, Int.reduceEq, Int.reduceSub, Int.cast_ofNat_Int, s_resc, s_consR, m_load4, m_store4, s_res0, ↓s_skip, ↓s_ops, ↓s_dops, ↓s_seq, ↓s_cond, ↓s_block, ↓s_exit, ↓s_ret, ↓s_scope, ↓s_nil, ↓s_op, ↓s_opg, ↓s_wanted', ↓s_wantV, s_wantV, s_wantV0, beq_true, beq_false, ↓s_bindS, s_bindS, ↓s_bindE, s_bindE, s_bindE_ret, s_bindE_exit, s_bindE_iteN, s_norm, ↓s_condV, s_condV, s_block_ret, s_block_normal, s_block_exit, s_block_iteN, ↓s_getp, ↓s_getp0, ↓s_get, s_get0, ↓s_con, ↓s_fn, ↓s_os0, ↓s_os1, ↓s_list0, ↓s_list1, ↓s_mov, ↓s_pick, ↓s_pickE, s_pickE, ↓s_bin, ↓s_un, ↓s_minmax, ↓s_call, ↓s_callv, ↓s_callV, ↓s_ext, s_same, b_eql, b_neq, b_lss, b_leq, b_gtr, b_geq, b_add, b_sub, b_mul, b_eqlb, b_neqb, b_fnil, b_fnil', b_fnil2, b_fnil2', u_neg, u_not, m_two, s_end, s_end', s_end_iteN, s_res0, s_res1, s_tup1, s_tup2, ↓iteN_true, ↓iteN_false, iteN_true, iteN_false, Nat.zero_add, List.nil_append, List.append_nil, Nat.reduceEqDiff, reduceIte, decide_true, decide_false, Bool.not_true, Bool.not_false, List.getElem?_cons_zero, List.getElem?_cons_succ, Bool.false_eq_true, if_true, if_false, beq_self_eq_true]
/-- what bare bytes are: the error, and the bytes -/
def barE (l : List Nat) : Nat := if l.length < 4 then 20 else if onV 0 (l.take (l.length - 4)) = numV (l.drop (l.length - 4)) then 0 else 20
def barB (l : List Nat) : List Nat := if barE l = 0 then l.take (l.length - 4) else []
theorem barB_byt (l : List Nat) (bl : byt l = true) : byt (barB l) = true := by unfold barB; split; exact byt_take bl _; rfl
set_option maxHeartbeats 1000000 in
theorem cbare_go (e : EnCm E) (x : NoCm X) (M : Nat) (l : List Nat) (bl : byt l = true) (hb : l.length ≤ 10004) (hM : 10100 < M) (a : Option (Nat × Nat)) (h : H) (src : SrcH h a 1 l) :
    ∃ h' a' c' e', callX E X (M + 20) (.fn k_crc_Bare) [.slice a l.length none 1] h = some (.tup [.slice a' (barB l).length c' e', .int .i64 (barE l : Nat)], h') ∧ Nw h h' (barB l) a' c' e' := by
  rw [x_cfn e.bare _ _ (Nat.le_of_ble_eq_true rfl) (x.bare _ _)]
  by_cases h4 : l.length < 4
  · have c1 : decide ((l.length : Int) < 4) = true := decide_eq_true (by omega)
    have e1 : barE l = 20 := by unfold barE; rw [if_pos h4]
    have e2 : barB l = [] := by unfold barB; rw [e1, if_neg (by omega)]
    rw [e1, e2]
    refine ⟨h, none, some 0, 0, ?_, ⟨Kp.refl _, .nil _, fun _ _ e => by cases e⟩⟩
    rw [List.length_nil]
    simp (config := {maxSteps := 2000000}) (disch := first | omega | (simp only [List.length_cons, List.length_nil, List.length_append, List.length_drop]; omega)) only [c1, ↓s_len, x_lenS, ↓b_xor32, ↓b_and32, ↓b_or32, ↓u_not32, b_xor32, b_and32, b_or32, u_not32, w32ad, ↓x_conv, x_convV, ↓x_fieldAddr, x_fieldV, ↓s_nilchk, x_nilchk, Nat.zero_add, Nat.add_zero, Nat.mul_one, ↓l_loop, ↓l_succ, ↓l_normal, l_normal, l_exit, l_ret, l_iteN, ↓h_put_get, ↓h_new_get, ↓h_del_get, h_next_put, h_next_new, h_next_del, Nat.add_assoc, Nat.add_eq_left, Nat.left_eq_add, Nat.add_left_cancel_iff, ↓s_load, m_load, ↓m_load1, m_load1, ↓m_st, m_stE, m_storeI, m_storeE, w_zero, w_succ, ↓s_alloc, ↓x_idxA, ↓x_idxS, x_idxAE, x_idxSE, x_addrE, x_idx, x_lenS, ↓s_len, ↓x_buildS, x_buildE, ↓x_P0, ↓x_P1, x_fill0, x_filli, x_fills, x_fillb, c_int, List.length_cons, List.length_nil, List.cons_append, List.drop_succ_cons, List.drop_zero, List.drop_nil, List.nil_append, Int.reduceAdd, Int.reduceToNat, Int.reduceLT, Int.reduceLE, Nat.reduceAdd, Nat.reduceMul, Nat.reduceLeDiff, Int.reduceEq, Int.reduceSub, Int.cast_ofNat_Int, s_resc, s_consR, m_load4, m_store4, s_res0, ↓s_skip, ↓s_ops, ↓s_dops, ↓s_seq, ↓s_cond, ↓s_block, ↓s_exit, ↓s_ret, ↓s_scope, ↓s_nil, ↓s_op, ↓s_opg, ↓s_wanted', ↓s_wantV, s_wantV, s_wantV0, beq_true, beq_false, ↓s_bindS, s_bindS, ↓s_bindE, s_bindE, s_bindE_ret, s_bindE_exit, s_bindE_iteN, s_norm, ↓s_condV, s_condV, s_block_ret, s_block_normal, s_block_exit, s_block_iteN, ↓s_getp, ↓s_getp0, ↓s_get, s_get0, ↓s_con, ↓s_fn, ↓s_os0, ↓s_os1, ↓s_list0, ↓s_list1, ↓s_mov, ↓s_pick, ↓s_pickE, s_pickE, ↓s_bin, ↓s_un, ↓s_minmax, ↓s_call, ↓s_callv, ↓s_callV, ↓s_ext, s_same, b_eql, b_neq, b_lss, b_leq, b_gtr, b_geq, b_add, b_sub, b_mul, b_eqlb, b_neqb, b_fnil, b_fnil', b_fnil2, b_fnil2', u_neg, u_not, m_two, s_end, s_end', s_end_iteN, s_res0, s_res1, s_tup1, s_tup2, ↓iteN_true, ↓iteN_false, iteN_true, iteN_false, Nat.zero_add, List.nil_append, List.append_nil, Nat.reduceEqDiff, reduceIte, decide_true, decide_false, Bool.not_true, Bool.not_false, List.getElem?_cons_zero, List.getElem?_cons_succ, Bool.false_eq_true, if_true, if_false, beq_self_eq_true]
  · obtain ⟨n, en⟩ : ∃ n, l.length = n + 4 := ⟨l.length - 4, by omega⟩
    have c1 : decide (((n + 4 : Nat) : Int) < 4) = false := decide_eq_false (by omega)
    have w1 : wr .i64 (((n + 4 : Nat) : Int) - 4) = (n : Int) := by rw [wr_i64 (by omega)]; omega
    have sv1 := slcV_hiA (n + 4) n a .i64 (by omega)
    have sv2 := slcV_loA (n + 4) n a .i64 (by omega)
    rw [show n + 4 - n = 4 by omega] at sv2
    have e1 : barE l = if onV 0 (l.take n) = numV (l.drop n) then 0 else 20 := by unfold barE; rw [if_neg h4, en, Nat.add_sub_cancel]
    have e2 : barB l = if barE l = 0 then l.take n else [] := by unfold barB; rw [en, Nat.add_sub_cancel]
    have lt : (l.take n).length = n := by rw [List.length_take]; omega
    have ld : (l.drop n).length = 4 := by rw [List.length_drop]; omega
    obtain ⟨h1, p1, a1, r1, k1, n1, y1, g1⟩ := look_go e.lk x.lk (M + 18) (l.drop n) (by omega) (upA a n) none 1 h (src.drop n).e1
    obtain ⟨h2, r2, k2, y2⟩ := eyfix_go e.ey x.ey (M + 7) p1 4 (l.drop n) (byt_drop bl n) (by omega) 0 a1 h1 y1
    have ef : eyFix 4 (l.drop n) 0 = (numV (l.drop n), 0, 4) := by
      unfold eyFix
      rw [show sizedI 4 = true from rfl, if_pos rfl, if_pos (by rw [ld]; decide), List.drop_zero, List.take_of_length_le (by rw [ld]; decide)]; rfl
    rw [ef] at r2
    have k02 : Kp h h2 := ⟨by have := k1.1; have := k2.1; omega, fun j hj => by rw [k2.2 _ (by have := k1.1; omega) (by omega), k1.2 _ hj]⟩
    obtain ⟨h3, r3, k3⟩ := sum1_go e.cr x.cr (M + 7) (l.take n) (byt_take bl n) (by omega) (by omega) a none 1 h2 ((src.take n).mono k02)
    rw [lt] at r3
    rw [ld] at r1
    have k03 := k02.trans k3
    have sl := onV_lt 0 (l.take n)
    have sc := ((src.take n).mono k03).cellz none
    rw [lt] at sc
    rw [e2, e1]
    generalize onV 0 (l.take n) = S at *
    generalize numV (l.drop n) = Z at *
    have wS : wr .u64 (S : Int) = (S : Int) := u64n _ (by omega)
    replace r1 : callX E X (M + 19) (.fn k_octet_Look) [.slice (upA a n) 4 none 1] h = some (.ptr (some (p1, 0)), h1) := r1
    replace r2 : callX E X (M + 19) (.fn k_octet_Eye_Fixed) [.ptr (some (p1, 0)), .int .i64 4] h1 = some (.tup [.int .u64 (Z : Int), .int .i64 0], h2) := r2
    replace r3 : callX E X (M + 19) (.fn k_crc_Sum) [.slice (some (h2.next, 0)) 1 (some 1) 1] (h2.new (.cells [.slice a n none 1] .rw)) = some (.int .u32 (S : Nat), h3) := r3
    by_cases hc : S = Z
    · have c2 : decide ((S : Int) = (Z : Int)) = true := decide_eq_true (by omega)
      rw [if_pos hc, if_pos rfl, lt]
      obtain ⟨a4, c4, e4, h5, ap, nw⟩ := app_nw h3 (l.take n) (by omega)
      rw [lt] at ap
      refine ⟨h5, a4, c4, e4, ?_, ⟨k03.trans nw.kp, nw.wb, fun q o ea => by have := nw.ge q o ea; have := k03.1; omega⟩⟩
      rw [en]
      obtain ⟨C, eC⟩ : ∃ C, ofI .u8 (l.take n) = C := ⟨_, rfl⟩
      rw [eC] at ap sc
      simp (config := {maxSteps := 2000000}) (disch := first | omega | (simp only [List.length_cons, List.length_nil, List.length_append, List.length_drop]; omega)) only [c1, c2, w1, wS, sv1, sv2, r1, r2, r3, sc, ap, ↓s_append, ↓s_len, x_lenS, ↓x_slcS, x_M0, x_M1, ↓b_xor32, ↓b_and32, ↓b_or32, ↓u_not32, b_xor32, b_and32, b_or32, u_not32, w32ad, ↓x_conv, x_convV, ↓x_fieldAddr, x_fieldV, ↓s_nilchk, x_nilchk, Nat.zero_add, Nat.add_zero, Nat.mul_one, ↓s_evD, ↓s_dnil, ↓s_dL, ↓s_dLg, ↓s_dR, ↓s_dRg, ↓s_dRj, ↓s_dRjg, ↓s_dB, ↓s_dBg, ↓s_dAlloc, ↓s_bindD, s_bindD, s_finD, s_finDx, s_addP0, s_addP1, s_addB, s_lookP, ↓s_bump0, ↓s_bump_get, s_bump_next, s_ok0, ↓s_ok1, s_okR0, ↓s_okR1, ↓s_okE, s_okE, s_okE1, s_nth0, s_nthS, Nat.add_zero, Bool.and_self, Bool.and_true, Bool.true_and, ↓l_loop, ↓l_succ, ↓l_normal, l_normal, l_exit, l_ret, l_iteN, ↓h_put_get, ↓h_new_get, ↓h_del_get, h_next_put, h_next_new, h_next_del, Nat.add_assoc, Nat.add_eq_left, Nat.left_eq_add, Nat.add_left_cancel_iff, ↓s_load, m_load, ↓m_load1, m_load1, ↓m_st, m_stE, m_storeI, m_storeE, w_zero, w_succ, ↓s_alloc, ↓x_idxA, ↓x_idxS, x_idxAE, x_idxSE, x_addrE, x_idx, x_lenS, ↓s_len, ↓x_buildS, x_buildE, ↓x_P0, ↓x_P1, x_fill0, x_filli, x_fills, x_fillb, c_int, List.length_cons, List.length_nil, List.cons_append, List.drop_succ_cons, List.drop_zero, List.drop_nil, List.nil_append, Int.reduceAdd, Int.reduceToNat, Int.reduceLT, Int.reduceLE, Nat.reduceAdd, Nat.reduceMul, Nat.reduceLeDiff, Int.reduceEq, Int.reduceSub, Int.cast_ofNat_Int, s_resc, s_consR, m_load4, m_store4, s_res0, ↓s_skip, ↓s_ops, ↓s_dops, ↓s_seq, ↓s_cond, ↓s_block, ↓s_exit, ↓s_ret, ↓s_scope, ↓s_nil, ↓s_op, ↓s_opg, ↓s_wanted', ↓s_wantV, s_wantV, s_wantV0, beq_true, beq_false, ↓s_bindS, s_bindS, ↓s_bindE, s_bindE, s_bindE_ret, s_bindE_exit, s_bindE_iteN, s_norm, ↓s_condV, s_condV, s_block_ret, s_block_normal, s_block_exit, s_block_iteN, ↓s_getp, ↓s_getp0, ↓s_get, s_get0, ↓s_con, ↓s_fn, ↓s_os0, ↓s_os1, ↓s_list0, ↓s_list1, ↓s_mov, ↓s_pick, ↓s_pickE, s_pickE, ↓s_bin, ↓s_un, ↓s_minmax, ↓s_call, ↓s_callv, ↓s_callV, ↓s_ext, s_same, b_eql, b_neq, b_lss, b_leq, b_gtr, b_geq, b_add, b_sub, b_mul, b_eqlb, b_neqb, b_fnil, b_fnil', b_fnil2, b_fnil2', u_neg, u_not, m_two, s_end, s_end', s_end_iteN, s_res0, s_res1, s_tup1, s_tup2, ↓iteN_true, ↓iteN_false, iteN_true, iteN_false, Nat.zero_add, List.nil_append, List.append_nil, Nat.reduceEqDiff, reduceIte, decide_true, decide_false, Bool.not_true, Bool.not_false, List.getElem?_cons_zero, List.getElem?_cons_succ, Bool.false_eq_true, if_true, if_false, beq_self_eq_true]
    · have c2 : decide ((S : Int) = (Z : Int)) = false := decide_eq_false (by omega)
      rw [if_neg hc, if_neg (by omega)]
      refine ⟨h3, none, some 0, 0, ?_, ⟨k03, .nil _, fun _ _ e => by cases e⟩⟩
      rw [en, List.length_nil]
      simp (config := {maxSteps := 2000000}) (disch := first | omega | (simp only [List.length_cons, List.length_nil, List.length_append, List.length_drop]; omega)) only [c1, c2, w1, wS, sv1, sv2, r1, r2, r3, ↓s_append, ↓s_len, x_lenS, ↓x_slcS, x_M0, x_M1, ↓b_xor32, ↓b_and32, ↓b_or32, ↓u_not32, b_xor32, b_and32, b_or32, u_not32, w32ad, ↓x_conv, x_convV, ↓x_fieldAddr, x_fieldV, ↓s_nilchk, x_nilchk, Nat.zero_add, Nat.add_zero, Nat.mul_one, ↓s_evD, ↓s_dnil, ↓s_dL, ↓s_dLg, ↓s_dR, ↓s_dRg, ↓s_dRj, ↓s_dRjg, ↓s_dB, ↓s_dBg, ↓s_dAlloc, ↓s_bindD, s_bindD, s_finD, s_finDx, s_addP0, s_addP1, s_addB, s_lookP, ↓s_bump0, ↓s_bump_get, s_bump_next, s_ok0, ↓s_ok1, s_okR0, ↓s_okR1, ↓s_okE, s_okE, s_okE1, s_nth0, s_nthS, Nat.add_zero, Bool.and_self, Bool.and_true, Bool.true_and, ↓l_loop, ↓l_succ, ↓l_normal, l_normal, l_exit, l_ret, l_iteN, ↓h_put_get, ↓h_new_get, ↓h_del_get, h_next_put, h_next_new, h_next_del, Nat.add_assoc, Nat.add_eq_left, Nat.left_eq_add, Nat.add_left_cancel_iff, ↓s_load, m_load, ↓m_load1, m_load1, ↓m_st, m_stE, m_storeI, m_storeE, w_zero, w_succ, ↓s_alloc, ↓x_idxA, ↓x_idxS, x_idxAE, x_idxSE, x_addrE, x_idx, x_lenS, ↓s_len, ↓x_buildS, x_buildE, ↓x_P0, ↓x_P1, x_fill0, x_filli, x_fills, x_fillb, c_int, List.length_cons, List.length_nil, List.cons_append, List.drop_succ_cons, List.drop_zero, List.drop_nil, List.nil_append, Int.reduceAdd, Int.reduceToNat, Int.reduceLT, Int.reduceLE, Nat.reduceAdd, Nat.reduceMul, Nat.reduceLeDiff, Int.reduceEq, Int.reduceSub, Int.cast_ofNat_Int, s_resc, s_consR, m_load4, m_store4, s_res0, ↓s_skip, ↓s_ops, ↓s_dops, ↓s_seq, ↓s_cond, ↓s_block, ↓s_exit, ↓s_ret, ↓s_scope, ↓s_nil, ↓s_op, ↓s_opg, ↓s_wanted', ↓s_wantV, s_wantV, s_wantV0, beq_true, beq_false, ↓s_bindS, s_bindS, ↓s_bindE, s_bindE, s_bindE_ret, s_bindE_exit, s_bindE_iteN, s_norm, ↓s_condV, s_condV, s_block_ret, s_block_normal, s_block_exit, s_block_iteN, ↓s_getp, ↓s_getp0, ↓s_get, s_get0, ↓s_con, ↓s_fn, ↓s_os0, ↓s_os1, ↓s_list0, ↓s_list1, ↓s_mov, ↓s_pick, ↓s_pickE, s_pickE, ↓s_bin, ↓s_un, ↓s_minmax, ↓s_call, ↓s_callv, ↓s_callV, ↓s_ext, s_same, b_eql, b_neq, b_lss, b_leq, b_gtr, b_geq, b_add, b_sub, b_mul, b_eqlb, b_neqb, b_fnil, b_fnil', b_fnil2, b_fnil2', u_neg, u_not, m_two, s_end, s_end', s_end_iteN, s_res0, s_res1, s_tup1, s_tup2, ↓iteN_true, ↓iteN_false, iteN_true, iteN_false, Nat.zero_add, List.nil_append, List.append_nil, Nat.reduceEqDiff, reduceIte, decide_true, decide_false, Bool.not_true, Bool.not_false, List.getElem?_cons_zero, List.getElem?_cons_succ, Bool.false_eq_true, if_true, if_false, beq_self_eq_true]
theorem four_go (e : EnCm E) (x : NoCm X) (N S : Nat) (hS : S < 4294967296) (h : H) : ∃ h' a c ez, callX E X (N + 21) (.fn k_purserref02_Four) [.int .u32 (S : Int)] h = some (.slice a 4 c ez, h') ∧ Nw h h' (leN 4 S) a c ez := by
  rw [x_cfn e.r4 _ _ (Nat.le_of_ble_eq_true rfl) (x.r4 _ _)]
  obtain ⟨fe, fb⟩ := fix4 S hS
  obtain ⟨h1, a, c, ez, r1, nw⟩ := rfixed_go e.rf x.rf N 4 S (by omega) h
  rw [fe, fb, leN_len] at r1
  rw [fb] at nw
  refine ⟨h1, a, c, ez, ?_, nw⟩
  have wS : wr .u64 (S : Int) = (S : Int) := u64n _ (by omega)
  replace r1 : callX E X (N + 20) (.fn k_purserref01_Fixed) [.int .i64 4, .int .u64 (S : Int)] h = some (.tup [.slice a 4 c ez, .int .i64 0], h1) := r1
  simp (config := {maxSteps := 2000000}) (disch := first | omega | (simp only [List.length_cons, List.length_nil, List.length_append, List.length_drop]; omega)) only [wS, r1, ↓b_xor32, ↓b_and32, ↓b_or32, ↓u_not32, b_xor32, b_and32, b_or32, u_not32, w32ad, ↓x_conv, x_convV, ↓x_fieldAddr, x_fieldV, ↓s_nilchk, x_nilchk, Nat.zero_add, Nat.add_zero, Nat.mul_one, ↓l_loop, ↓l_succ, ↓l_normal, l_normal, l_exit, l_ret, l_iteN, ↓h_put_get, ↓h_new_get, ↓h_del_get, h_next_put, h_next_new, h_next_del, Nat.add_assoc, Nat.add_eq_left, Nat.left_eq_add, Nat.add_left_cancel_iff, ↓s_load, m_load, ↓m_load1, m_load1, ↓m_st, m_stE, m_storeI, m_storeE, w_zero, w_succ, ↓s_alloc, ↓x_idxA, ↓x_idxS, x_idxAE, x_idxSE, x_addrE, x_idx, x_lenS, ↓s_len, ↓x_buildS, x_buildE, ↓x_P0, ↓x_P1, x_fill0, x_filli, x_fills, x_fillb, c_int, List.length_cons, List.length_nil, List.cons_append, List.drop_succ_cons, List.drop_zero, List.drop_nil, List.nil_append, Int.reduceAdd, Int.reduceToNat, Int.reduceLT, Int.reduceLE, Nat.reduceAdd, Nat.reduceMul, Nat.reduceLeDiff, Int.reduceEq, Int.reduceSub, Int.cast_ofNat_Int, s_resc, s_consR, m_load4, m_store4, s_res0, ↓s_skip, ↓s_ops, ↓s_dops, ↓s_seq, ↓s_cond, ↓s_block, ↓s_exit, ↓s_ret, ↓s_scope, ↓s_nil, ↓s_op, ↓s_opg, ↓s_wanted', ↓s_wantV, s_wantV, s_wantV0, beq_true, beq_false, ↓s_bindS, s_bindS, ↓s_bindE, s_bindE, s_bindE_ret, s_bindE_exit, s_bindE_iteN, s_norm, ↓s_condV, s_condV, s_block_ret, s_block_normal, s_block_exit, s_block_iteN, ↓s_getp, ↓s_getp0, ↓s_get, s_get0, ↓s_con, ↓s_fn, ↓s_os0, ↓s_os1, ↓s_list0, ↓s_list1, ↓s_mov, ↓s_pick, ↓s_pickE, s_pickE, ↓s_bin, ↓s_un, ↓s_minmax, ↓s_call, ↓s_callv, ↓s_callV, ↓s_ext, s_same, b_eql, b_neq, b_lss, b_leq, b_gtr, b_geq, b_add, b_sub, b_mul, b_eqlb, b_neqb, b_fnil, b_fnil', b_fnil2, b_fnil2', u_neg, u_not, m_two, s_end, s_end', s_end_iteN, s_res0, s_res1, s_tup1, s_tup2, ↓iteN_true, ↓iteN_false, iteN_true, iteN_false, Nat.zero_add, List.nil_append, List.append_nil, Nat.reduceEqDiff, reduceIte, decide_true, decide_false, Bool.not_true, Bool.not_false, List.getElem?_cons_zero, List.getElem?_cons_succ, Bool.false_eq_true, if_true, if_false, beq_self_eq_true]
theorem rmark_go (e : EnCm E) (x : NoCm X) (N : Nat) (b : List Nat) (bb : byt b = true) (hb : b.length ≤ 10000) (a : Option (Nat × Nat)) (c : Option Nat) (ez : Nat) (h : H) (src : SrcH h a ez b) :
    ∃ h' a' c' e', callX E X (N + 10100) (.fn k_purserref02_Mark) [.slice a b.length c ez] h = some (.slice a' (b ++ leN 4 (onV 0 b)).length c' e', h') ∧ Nw h h' (b ++ leN 4 (onV 0 b)) a' c' e' := by
  rw [x_cfn e.rm _ _ (Nat.le_of_ble_eq_true rfl) (x.rm _ _)]
  obtain ⟨a1, c1, z1, h1, r1, nw1⟩ := twinv_go e.rf.tw x.rf.tw (N + 10098) b (by omega) a c ez h src
  have r2 := rsum_go (E := E) e.rc x.rc (N + 10057) a c ez b bb (by omega) (by omega) h1 (src.mono nw1.kp)
  have sl := onV_lt 0 b
  generalize onV 0 b = S at *
  obtain ⟨h3, a3, c3, z3, r3, nw3⟩ := four_go e x (N + 10078) S sl h1
  have sc := nw3.wb.src.cellz c3
  rw [leN_len] at sc
  obtain ⟨a4, c4, z4, h4, ap, wb4, n4, f4, o4⟩ := ap_wb h3 b (leN 4 S) a1 c1 z1 (nw1.wb.kp nw3.kp) (by rw [leN_len]; omega)
  rw [leN_len] at ap
  have k13 := nw1.kp.trans nw3.kp
  have nk := k13.1
  refine ⟨h4, a4, c4, z4, ?_, ⟨⟨by omega, fun j hj => by rw [f4 j (by omega) (fun ea => by have := nw1.ge _ _ ea; omega), k13.2 _ hj]⟩, wb4, fun q o ea => by
    rcases o4 with o4 | o4
    · rw [o4] at ea; exact nw1.ge q o ea
    · rw [o4] at ea; cases ea; omega⟩⟩
  replace r2 : callX E X (N + 10099) (.fn k_purserref02_Sum) [.slice a b.length c ez] h1 = some (.int .u32 (S : Nat), h1) := r2
  replace r3 : callX E X (N + 10099) (.fn k_purserref02_Four) [.int .u32 (S : Int)] h1 = some (.slice a3 4 c3 z3, h3) := r3
  obtain ⟨n, en⟩ : ∃ n, b.length = n := ⟨_, rfl⟩
  obtain ⟨L, eL⟩ : ∃ L, (b ++ leN 4 S).length = L := ⟨_, rfl⟩
  rw [en] at r1 r2 ap ⊢
  rw [eL] at ap ⊢
  simp (config := {maxSteps := 2000000}) (disch := first | omega | (simp only [List.length_cons, List.length_nil, List.length_append, List.length_drop]; omega)) only [r1, r2, r3, sc, ap, ↓s_append, ↓b_xor32, ↓b_and32, ↓b_or32, ↓u_not32, b_xor32, b_and32, b_or32, u_not32, w32ad, ↓x_conv, x_convV, ↓x_fieldAddr, x_fieldV, ↓s_nilchk, x_nilchk, Nat.zero_add, Nat.add_zero, Nat.mul_one, ↓l_loop, ↓l_succ, ↓l_normal, l_normal, l_exit, l_ret, l_iteN, ↓h_put_get, ↓h_new_get, ↓h_del_get, h_next_put, h_next_new, h_next_del, Nat.add_assoc, Nat.add_eq_left, Nat.left_eq_add, Nat.add_left_cancel_iff, ↓s_load, m_load, ↓m_load1, m_load1, ↓m_st, m_stE, m_storeI, m_storeE, w_zero, w_succ, ↓s_alloc, ↓x_idxA, ↓x_idxS, x_idxAE, x_idxSE, x_addrE, x_idx, x_lenS, ↓s_len, ↓x_buildS, x_buildE, ↓x_P0, ↓x_P1, x_fill0, x_filli, x_fills, x_fillb, c_int, List.length_cons, List.length_nil, List.cons_append, List.drop_succ_cons, List.drop_zero, List.drop_nil, List.nil_append, Int.reduceAdd, Int.reduceToNat, Int.reduceLT, Int.reduceLE, Nat.reduceAdd, Nat.reduceMul, Nat.reduceLeDiff, Int.reduceEq, Int.reduceSub, Int.cast_ofNat_Int, s_resc, s_consR, m_load4, m_store4, s_res0, ↓s_skip, ↓s_ops, ↓s_dops, ↓s_seq, ↓s_cond, ↓s_block, ↓s_exit, ↓s_ret, ↓s_scope, ↓s_nil, ↓s_op, ↓s_opg, ↓s_wanted', ↓s_wantV, s_wantV, s_wantV0, beq_true, beq_false, ↓s_bindS, s_bindS, ↓s_bindE, s_bindE, s_bindE_ret, s_bindE_exit, s_bindE_iteN, s_norm, ↓s_condV, s_condV, s_block_ret, s_block_normal, s_block_exit, s_block_iteN, ↓s_getp, ↓s_getp0, ↓s_get, s_get0, ↓s_con, ↓s_fn, ↓s_os0, ↓s_os1, ↓s_list0, ↓s_list1, ↓s_mov, ↓s_pick, ↓s_pickE, s_pickE, ↓s_bin, ↓s_un, ↓s_minmax, ↓s_call, ↓s_callv, ↓s_callV, ↓s_ext, s_same, b_eql, b_neq, b_lss, b_leq, b_gtr, b_geq, b_add, b_sub, b_mul, b_eqlb, b_neqb, b_fnil, b_fnil', b_fnil2, b_fnil2', u_neg, u_not, m_two, s_end, s_end', s_end_iteN, s_res0, s_res1, s_tup1, s_tup2, ↓iteN_true, ↓iteN_false, iteN_true, iteN_false, Nat.zero_add, List.nil_append, List.append_nil, Nat.reduceEqDiff, reduceIte, decide_true, decide_false, Bool.not_true, Bool.not_false, List.getElem?_cons_zero, List.getElem?_cons_succ, Bool.false_eq_true, if_true, if_false, beq_self_eq_true]
theorem rbare_go (e : EnCm E) (x : NoCm X) (N : Nat) (l : List Nat) (bl : byt l = true) (hb : l.length ≤ 10000) (a : Option (Nat × Nat)) (h : H) (src : SrcH h a 1 l) :
    ∃ h' a' c' e', callX E X (N + 10100) (.fn k_purserref02_Bare) [.slice a l.length none 1] h = some (.tup [.slice a' (barB l).length c' e', .int .i64 (barE l : Nat)], h') ∧ Nw h h' (barB l) a' c' e' := by
  rw [x_cfn e.rb _ _ (Nat.le_of_ble_eq_true rfl) (x.rb _ _)]
  by_cases h4 : l.length < 4
  · have w1 : wr .i64 ((l.length : Int) - 4) = (l.length : Int) - 4 := by rw [wr_i64 (by omega)]
    have c1 : decide ((l.length : Int) - 4 < 0) = true := decide_eq_true (by omega)
    have e1 : barE l = 20 := by unfold barE; rw [if_pos h4]
    have e2 : barB l = [] := by unfold barB; rw [e1, if_neg (by omega)]
    rw [e1, e2]
    refine ⟨h, none, some 0, 0, ?_, ⟨Kp.refl _, .nil _, fun _ _ e => by cases e⟩⟩
    rw [List.length_nil]
    simp (config := {maxSteps := 2000000}) (disch := first | omega | (simp only [List.length_cons, List.length_nil, List.length_append, List.length_drop]; omega)) only [c1, w1, ↓s_len, x_lenS, ↓b_xor32, ↓b_and32, ↓b_or32, ↓u_not32, b_xor32, b_and32, b_or32, u_not32, w32ad, ↓x_conv, x_convV, ↓x_fieldAddr, x_fieldV, ↓s_nilchk, x_nilchk, Nat.zero_add, Nat.add_zero, Nat.mul_one, ↓s_evD, ↓s_dnil, ↓s_dL, ↓s_dLg, ↓s_dR, ↓s_dRg, ↓s_dRj, ↓s_dRjg, ↓s_dB, ↓s_dBg, ↓s_dAlloc, ↓s_bindD, s_bindD, s_finD, s_finDx, s_addP0, s_addP1, s_addB, s_lookP, ↓s_bump0, ↓s_bump_get, s_bump_next, s_ok0, ↓s_ok1, s_okR0, ↓s_okR1, ↓s_okE, s_okE, s_okE1, s_nth0, s_nthS, Nat.add_zero, Bool.and_self, Bool.and_true, Bool.true_and, ↓l_loop, ↓l_succ, ↓l_normal, l_normal, l_exit, l_ret, l_iteN, ↓h_put_get, ↓h_new_get, ↓h_del_get, h_next_put, h_next_new, h_next_del, Nat.add_assoc, Nat.add_eq_left, Nat.left_eq_add, Nat.add_left_cancel_iff, ↓s_load, m_load, ↓m_load1, m_load1, ↓m_st, m_stE, m_storeI, m_storeE, w_zero, w_succ, ↓s_alloc, ↓x_idxA, ↓x_idxS, x_idxAE, x_idxSE, x_addrE, x_idx, x_lenS, ↓s_len, ↓x_buildS, x_buildE, ↓x_P0, ↓x_P1, x_fill0, x_filli, x_fills, x_fillb, c_int, List.length_cons, List.length_nil, List.cons_append, List.drop_succ_cons, List.drop_zero, List.drop_nil, List.nil_append, Int.reduceAdd, Int.reduceToNat, Int.reduceLT, Int.reduceLE, Nat.reduceAdd, Nat.reduceMul, Nat.reduceLeDiff, Int.reduceEq, Int.reduceSub, Int.cast_ofNat_Int, s_resc, s_consR, m_load4, m_store4, s_res0, ↓s_skip, ↓s_ops, ↓s_dops, ↓s_seq, ↓s_cond, ↓s_block, ↓s_exit, ↓s_ret, ↓s_scope, ↓s_nil, ↓s_op, ↓s_opg, ↓s_wanted', ↓s_wantV, s_wantV, s_wantV0, beq_true, beq_false, ↓s_bindS, s_bindS, ↓s_bindE, s_bindE, s_bindE_ret, s_bindE_exit, s_bindE_iteN, s_norm, ↓s_condV, s_condV, s_block_ret, s_block_normal, s_block_exit, s_block_iteN, ↓s_getp, ↓s_getp0, ↓s_get, s_get0, ↓s_con, ↓s_fn, ↓s_os0, ↓s_os1, ↓s_list0, ↓s_list1, ↓s_mov, ↓s_pick, ↓s_pickE, s_pickE, ↓s_bin, ↓s_un, ↓s_minmax, ↓s_call, ↓s_callv, ↓s_callV, ↓s_ext, s_same, b_eql, b_neq, b_lss, b_leq, b_gtr, b_geq, b_add, b_sub, b_mul, b_eqlb, b_neqb, b_fnil, b_fnil', b_fnil2, b_fnil2', u_neg, u_not, m_two, s_end, s_end', s_end_iteN, s_res0, s_res1, s_tup1, s_tup2, ↓iteN_true, ↓iteN_false, iteN_true, iteN_false, Nat.zero_add, List.nil_append, List.append_nil, Nat.reduceEqDiff, reduceIte, decide_true, decide_false, Bool.not_true, Bool.not_false, List.getElem?_cons_zero, List.getElem?_cons_succ, Bool.false_eq_true, if_true, if_false, beq_self_eq_true]
    try rfl
  · obtain ⟨n, en⟩ : ∃ n, l.length = n + 4 := ⟨l.length - 4, by omega⟩
    have w1 : wr .i64 (((n + 4 : Nat) : Int) - 4) = (n : Int) := by rw [wr_i64 (by omega)]; omega
    have c1 : decide ((n : Int) < 0) = false := decide_eq_false (by omega)
    have sv1 := slcV_hiA (n + 4) n a .i64 (by omega)
    have sv2 := slcV_loA (n + 4) n a .i64 (by omega)
    rw [show n + 4 - n = 4 by omega] at sv2
    have e1 : barE l = if onV 0 (l.take n) = numV (l.drop n) then 0 else 20 := by unfold barE; rw [if_neg h4, en, Nat.add_sub_cancel]
    have e2 : barB l = if barE l = 0 then l.take n else [] := by unfold barB; rw [en, Nat.add_sub_cancel]
    have lt : (l.take n).length = n := by rw [List.length_take]; omega
    have ld : (l.drop n).length = 4 := by rw [List.length_drop]; omega
    have r2 := rsum_go (E := E) e.rc x.rc (N + 10057) a none 1 (l.take n) (byt_take bl n) (by omega) (by omega) h (src.take n)
    have sl := onV_lt 0 (l.take n)
    have bd := byt_drop bl n
    have hq : onV 0 (l.take n) = numV (l.drop n) ↔ leN 4 (onV 0 (l.take n)) = l.drop n := by
      constructor
      · intro h; rw [h]; exact leN_numV' _ bd 4 ld
      · intro h; rw [← h, numV_leN 4 _ sl]
    rw [lt] at r2
    rw [e2, e1]
    have st2 := fun hh (k : Kp h hh) => str_src ((src.drop n).mono k).e1 bd none
    simp only [ld] at st2
    generalize onV 0 (l.take n) = S at *
    obtain ⟨h3, a3, c3, z3, r3, nw3⟩ := four_go e x (N + 10078) S sl h
    have st1 := str_src nw3.wb.src (leN_byt _ _) c3
    rw [leN_len] at st1
    have s20 := st2 h (Kp.refl _)
    have s23 := st2 h3 nw3.kp
    generalize numV (l.drop n) = Z at *
    replace r2 : callX E X (N + 10099) (.fn k_purserref02_Sum) [.slice a n none 1] h = some (.int .u32 (S : Nat), h) := r2
    replace r3 : callX E X (N + 10099) (.fn k_purserref02_Four) [.int .u32 (S : Int)] h = some (.slice a3 4 c3 z3, h3) := r3
    by_cases hc : S = Z
    · have ds := hq.1 hc
      rw [if_pos hc, if_pos rfl, lt]
      obtain ⟨a4, c4, z4, h5, r4, nw⟩ := twinv_go e.rf.tw x.rf.tw (N + 10098) (l.take n) (by omega) a none 1 h3 ((src.take n).mono nw3.kp)
      rw [lt] at r4
      refine ⟨h5, a4, c4, z4, ?_, ⟨nw3.kp.trans nw.kp, nw.wb, fun q o ea => by have := nw.ge q o ea; have := nw3.kp.1; omega⟩⟩
      rw [en]
      rw [ds] at st1
      generalize l.drop n = D at *
      simp (config := {maxSteps := 2000000}) (disch := first | omega | (simp only [List.length_cons, List.length_nil, List.length_append, List.length_drop]; omega)) only [c1, w1, sv1, sv2, r2, r3, r4, st1, s20, s23, vbeq_str, b_sneq, ↓ns_b2s, ↓s_len, x_lenS, ↓x_slcS, x_M0, x_M1, ↓b_xor32, ↓b_and32, ↓b_or32, ↓u_not32, b_xor32, b_and32, b_or32, u_not32, w32ad, ↓x_conv, x_convV, ↓x_fieldAddr, x_fieldV, ↓s_nilchk, x_nilchk, Nat.zero_add, Nat.add_zero, Nat.mul_one, ↓s_evD, ↓s_dnil, ↓s_dL, ↓s_dLg, ↓s_dR, ↓s_dRg, ↓s_dRj, ↓s_dRjg, ↓s_dB, ↓s_dBg, ↓s_dAlloc, ↓s_bindD, s_bindD, s_finD, s_finDx, s_addP0, s_addP1, s_addB, s_lookP, ↓s_bump0, ↓s_bump_get, s_bump_next, s_ok0, ↓s_ok1, s_okR0, ↓s_okR1, ↓s_okE, s_okE, s_okE1, s_nth0, s_nthS, Nat.add_zero, Bool.and_self, Bool.and_true, Bool.true_and, ↓l_loop, ↓l_succ, ↓l_normal, l_normal, l_exit, l_ret, l_iteN, ↓h_put_get, ↓h_new_get, ↓h_del_get, h_next_put, h_next_new, h_next_del, Nat.add_assoc, Nat.add_eq_left, Nat.left_eq_add, Nat.add_left_cancel_iff, ↓s_load, m_load, ↓m_load1, m_load1, ↓m_st, m_stE, m_storeI, m_storeE, w_zero, w_succ, ↓s_alloc, ↓x_idxA, ↓x_idxS, x_idxAE, x_idxSE, x_addrE, x_idx, x_lenS, ↓s_len, ↓x_buildS, x_buildE, ↓x_P0, ↓x_P1, x_fill0, x_filli, x_fills, x_fillb, c_int, List.length_cons, List.length_nil, List.cons_append, List.drop_succ_cons, List.drop_zero, List.drop_nil, List.nil_append, Int.reduceAdd, Int.reduceToNat, Int.reduceLT, Int.reduceLE, Nat.reduceAdd, Nat.reduceMul, Nat.reduceLeDiff, Int.reduceEq, Int.reduceSub, Int.cast_ofNat_Int, s_resc, s_consR, m_load4, m_store4, s_res0, ↓s_skip, ↓s_ops, ↓s_dops, ↓s_seq, ↓s_cond, ↓s_block, ↓s_exit, ↓s_ret, ↓s_scope, ↓s_nil, ↓s_op, ↓s_opg, ↓s_wanted', ↓s_wantV, s_wantV, s_wantV0, beq_true, beq_false, ↓s_bindS, s_bindS, ↓s_bindE, s_bindE, s_bindE_ret, s_bindE_exit, s_bindE_iteN, s_norm, ↓s_condV, s_condV, s_block_ret, s_block_normal, s_block_exit, s_block_iteN, ↓s_getp, ↓s_getp0, ↓s_get, s_get0, ↓s_con, ↓s_fn, ↓s_os0, ↓s_os1, ↓s_list0, ↓s_list1, ↓s_mov, ↓s_pick, ↓s_pickE, s_pickE, ↓s_bin, ↓s_un, ↓s_minmax, ↓s_call, ↓s_callv, ↓s_callV, ↓s_ext, s_same, b_eql, b_neq, b_lss, b_leq, b_gtr, b_geq, b_add, b_sub, b_mul, b_eqlb, b_neqb, b_fnil, b_fnil', b_fnil2, b_fnil2', u_neg, u_not, m_two, s_end, s_end', s_end_iteN, s_res0, s_res1, s_tup1, s_tup2, ↓iteN_true, ↓iteN_false, iteN_true, iteN_false, Nat.zero_add, List.nil_append, List.append_nil, Nat.reduceEqDiff, reduceIte, decide_true, decide_false, Bool.not_true, Bool.not_false, List.getElem?_cons_zero, List.getElem?_cons_succ, Bool.false_eq_true, if_true, if_false, beq_self_eq_true]
      try rfl
    · have ds : decide (leN 4 S = l.drop n) = false := decide_eq_false (fun h => hc (hq.2 h))
      rw [if_neg hc, if_neg (by omega)]
      refine ⟨h3, none, some 0, 0, ?_, ⟨nw3.kp, .nil _, fun _ _ e => by cases e⟩⟩
      rw [en, List.length_nil]
      generalize l.drop n = D at *
      generalize leN 4 S = D2 at *
      simp (config := {maxSteps := 2000000}) (disch := first | omega | (simp only [List.length_cons, List.length_nil, List.length_append, List.length_drop]; omega)) only [c1, w1, sv1, sv2, r2, r3, st1, s20, s23, ds, vbeq_str, b_sneq, ↓ns_b2s, ↓s_len, x_lenS, ↓x_slcS, x_M0, x_M1, ↓b_xor32, ↓b_and32, ↓b_or32, ↓u_not32, b_xor32, b_and32, b_or32, u_not32, w32ad, ↓x_conv, x_convV, ↓x_fieldAddr, x_fieldV, ↓s_nilchk, x_nilchk, Nat.zero_add, Nat.add_zero, Nat.mul_one, ↓s_evD, ↓s_dnil, ↓s_dL, ↓s_dLg, ↓s_dR, ↓s_dRg, ↓s_dRj, ↓s_dRjg, ↓s_dB, ↓s_dBg, ↓s_dAlloc, ↓s_bindD, s_bindD, s_finD, s_finDx, s_addP0, s_addP1, s_addB, s_lookP, ↓s_bump0, ↓s_bump_get, s_bump_next, s_ok0, ↓s_ok1, s_okR0, ↓s_okR1, ↓s_okE, s_okE, s_okE1, s_nth0, s_nthS, Nat.add_zero, Bool.and_self, Bool.and_true, Bool.true_and, ↓l_loop, ↓l_succ, ↓l_normal, l_normal, l_exit, l_ret, l_iteN, ↓h_put_get, ↓h_new_get, ↓h_del_get, h_next_put, h_next_new, h_next_del, Nat.add_assoc, Nat.add_eq_left, Nat.left_eq_add, Nat.add_left_cancel_iff, ↓s_load, m_load, ↓m_load1, m_load1, ↓m_st, m_stE, m_storeI, m_storeE, w_zero, w_succ, ↓s_alloc, ↓x_idxA, ↓x_idxS, x_idxAE, x_idxSE, x_addrE, x_idx, x_lenS, ↓s_len, ↓x_buildS, x_buildE, ↓x_P0, ↓x_P1, x_fill0, x_filli, x_fills, x_fillb, c_int, List.length_cons, List.length_nil, List.cons_append, List.drop_succ_cons, List.drop_zero, List.drop_nil, List.nil_append, Int.reduceAdd, Int.reduceToNat, Int.reduceLT, Int.reduceLE, Nat.reduceAdd, Nat.reduceMul, Nat.reduceLeDiff, Int.reduceEq, Int.reduceSub, Int.cast_ofNat_Int, s_resc, s_consR, m_load4, m_store4, s_res0, ↓s_skip, ↓s_ops, ↓s_dops, ↓s_seq, ↓s_cond, ↓s_block, ↓s_exit, ↓s_ret, ↓s_scope, ↓s_nil, ↓s_op, ↓s_opg, ↓s_wanted', ↓s_wantV, s_wantV, s_wantV0, beq_true, beq_false, ↓s_bindS, s_bindS, ↓s_bindE, s_bindE, s_bindE_ret, s_bindE_exit, s_bindE_iteN, s_norm, ↓s_condV, s_condV, s_block_ret, s_block_normal, s_block_exit, s_block_iteN, ↓s_getp, ↓s_getp0, ↓s_get, s_get0, ↓s_con, ↓s_fn, ↓s_os0, ↓s_os1, ↓s_list0, ↓s_list1, ↓s_mov, ↓s_pick, ↓s_pickE, s_pickE, ↓s_bin, ↓s_un, ↓s_minmax, ↓s_call, ↓s_callv, ↓s_callV, ↓s_ext, s_same, b_eql, b_neq, b_lss, b_leq, b_gtr, b_geq, b_add, b_sub, b_mul, b_eqlb, b_neqb, b_fnil, b_fnil', b_fnil2, b_fnil2', u_neg, u_not, m_two, s_end, s_end', s_end_iteN, s_res0, s_res1, s_tup1, s_tup2, ↓iteN_true, ↓iteN_false, iteN_true, iteN_false, Nat.zero_add, List.nil_append, List.append_nil, Nat.reduceEqDiff, reduceIte, decide_true, decide_false, Bool.not_true, Bool.not_false, List.getElem?_cons_zero, List.getElem?_cons_succ, Bool.false_eq_true, if_true, if_false, beq_self_eq_true]
      try rfl
end Go.Eng
namespace Go.Eng
open Go
variable {E : Nat → Option Fn} {X : Orc}
set_option linter.unusedSimpArgs false
set_option linter.unusedVariables false

structure cmXI (T0 : Tr V) (q len : Nat) (md : Md) (h0 : H) (i : Nat) (T : Tr V) (h : H) : Prop where
  il : i ≤ len
  ts : evO T (.t 4) = evO T0 (.t 4)
  tn : evO T (.t 56) = .int .i64 (len : Int)
  ti : evO T (.t 57) = .int .i64 (i : Int)
  k0 : evO T (.t 0) = evO T0 (.t 0)
  k3 : evO T (.t 3) = evO T0 (.t 3)
  k5 : evO T (.t 5) = evO T0 (.t 5)
  k9 : evO T (.t 9) = evO T0 (.t 9)
  g : ∃ cur, h.get q = some (.cells (ofI .u8 cur) md) ∧ cur.length = len
  eq : Eqx q h0 h
/-- every byte of a slice is one greater behind it: nothing else is another one -/
theorem cmX_go (Q : Orc) (m : Nat) (T0 : Tr V) (h0 : H) (w : List Nat) (hw : w.length ≤ 1000000) (hm : w.length < m) (a : Option (Nat × Nat)) (c : Option Nat) (e : Nat) (wb : Wb h0 w a c e) (ts : evO T0 (.t 4) = .slice a w.length c e) (tn : evO T0 (.t 56) = .int .i64 (w.length : Int)) (ti : evO T0 (.t 57) = .int .i64 0) :
    ∃ T' h', loopN (evC Q 92 m none L_purserlaw02_CrcMarks_0) m ⟨T0, [], h0⟩ = some (.exit 0, ⟨T', [], h'⟩) ∧ (h'.next = h0.next ∧ ∀ j, a ≠ some (j, 0) → h'.get j = h0.get j) ∧ evO T' (.t 0) = evO T0 (.t 0) ∧ evO T' (.t 3) = evO T0 (.t 3) ∧ evO T' (.t 5) = evO T0 (.t 5) ∧ evO T' (.t 9) = evO T0 (.t 9) := by
  rcases wb with ⟨rfl, rfl, rfl, rfl⟩ | ⟨hp, q, md, rfl, rfl, rfl, g, hmd, hq⟩
  · obtain ⟨m, rfl⟩ : ∃ k, m = k + 1 := ⟨m - 1, by omega⟩
    rw [l_succ]
    have c0 : decide ((0 : Int) < ((0 : Nat) : Int)) = false := rfl
    have c1 : decide ((0 : Int) < 0) = false := rfl
    rw [List.length_nil] at tn
    refine ⟨_, h0, by
      simp (config := {maxSteps := 2000000}) (disch := first | omega | (simp only [List.length_cons, List.length_nil, List.length_append, List.length_drop]; omega)) only [L_purserlaw02_CrcMarks_0, tn, ti, c0, c1, ↓b_xor32, ↓b_and32, ↓b_or32, ↓u_not32, b_xor32, b_and32, b_or32, u_not32, w32ad, ↓x_conv, x_convV, ↓x_fieldAddr, x_fieldV, ↓s_nilchk, x_nilchk, Nat.zero_add, Nat.add_zero, Nat.mul_one, ↓l_loop, ↓l_succ, ↓l_normal, l_normal, l_exit, l_ret, l_iteN, ↓h_put_get, ↓h_new_get, ↓h_del_get, h_next_put, h_next_new, h_next_del, Nat.add_assoc, Nat.add_eq_left, Nat.left_eq_add, Nat.add_left_cancel_iff, ↓s_load, m_load, ↓m_load1, m_load1, ↓m_st, m_stE, m_storeI, m_storeE, w_zero, w_succ, ↓s_alloc, ↓x_idxA, ↓x_idxS, x_idxAE, x_idxSE, x_addrE, x_idx, x_lenS, ↓s_len, ↓x_buildS, x_buildE, ↓x_P0, ↓x_P1, x_fill0, x_filli, x_fills, x_fillb, c_int, List.length_cons, List.length_nil, List.cons_append, List.drop_succ_cons, List.drop_zero, List.drop_nil, List.nil_append, Int.reduceAdd, Int.reduceToNat, Int.reduceLT, Int.reduceLE, Nat.reduceAdd, Nat.reduceMul, Nat.reduceLeDiff, Int.reduceEq, Int.reduceSub, Int.cast_ofNat_Int, s_resc, s_consR, m_load4, m_store4, s_res0, ↓s_skip, ↓s_ops, ↓s_dops, ↓s_seq, ↓s_cond, ↓s_block, ↓s_exit, ↓s_ret, ↓s_scope, ↓s_nil, ↓s_op, ↓s_opg, ↓s_wanted', ↓s_wantV, s_wantV, s_wantV0, beq_true, beq_false, ↓s_bindS, s_bindS, ↓s_bindE, s_bindE, s_bindE_ret, s_bindE_exit, s_bindE_iteN, s_norm, ↓s_condV, s_condV, s_block_ret, s_block_normal, s_block_exit, s_block_iteN, ↓s_getp, ↓s_getp0, ↓s_get, s_get0, ↓s_con, ↓s_fn, ↓s_os0, ↓s_os1, ↓s_list0, ↓s_list1, ↓s_mov, ↓s_pick, ↓s_pickE, s_pickE, ↓s_bin, ↓s_un, ↓s_minmax, ↓s_call, ↓s_callv, ↓s_callV, ↓s_ext, s_same, b_eql, b_neq, b_lss, b_leq, b_gtr, b_geq, b_add, b_sub, b_mul, b_eqlb, b_neqb, b_fnil, b_fnil', b_fnil2, b_fnil2', u_neg, u_not, m_two, s_end, s_end', s_end_iteN, s_res0, s_res1, s_tup1, s_tup2, ↓iteN_true, ↓iteN_false, iteN_true, iteN_false, Nat.zero_add, List.nil_append, List.append_nil, Nat.reduceEqDiff, reduceIte, decide_true, decide_false, Bool.not_true, Bool.not_false, List.getElem?_cons_zero, List.getElem?_cons_succ, Bool.false_eq_true, if_true, if_false, beq_self_eq_true]
      exact rfl, ⟨rfl, fun _ _ => rfl⟩, by (simp only [s_getp, s_getp0, Nat.reduceEqDiff, decide_false, decide_true, iteN_false, iteN_true]), by (simp only [s_getp, s_getp0, Nat.reduceEqDiff, decide_false, decide_true, iteN_false, iteN_true]), by (simp only [s_getp, s_getp0, Nat.reduceEqDiff, decide_false, decide_true, iteN_false, iteN_true]), by (simp only [s_getp, s_getp0, Nat.reduceEqDiff, decide_false, decide_true, iteN_false, iteN_true])⟩
  · obtain ⟨T', h', r, J⟩ := loop_go (f := evC Q 92 m none L_purserlaw02_CrcMarks_0) (cmXI T0 q w.length md h0) w.length (.exit 0) (by intro h; cases h) (cmXI T0 q w.length md h0 w.length) (fun i T h hi I => by
      obtain ⟨_, t1, t2, t3, k0, k3, k5, k9, ⟨cur, gq, lc⟩, eq⟩ := I
      have t1' := t1.trans ts
      have c0 : decide ((i : Int) < (w.length : Int)) = true := decide_eq_true (by omega)
      have wi : wr .i64 ((i : Int) + 1) = ((i + 1 : Nat) : Int) := by rw [wr_i64 (by omega)]; omega
      have ix : idx (i : Int) w.length = some i := idxn hi
      have cg : (ofI .u8 cur)[i]? = some (.int .u8 (cur.getD i 0 : Nat)) := ofI_get _ _ _ (by omega)
      have w8 : wr .u8 (((cur.getD i 0 : Nat) : Int) + 1) = (((cur.getD i 0 + 1) % 256 : Nat) : Int) := w8n (cur.getD i 0 + 1)
      generalize cur.getD i 0 = y at *
      generalize (y + 1) % 256 = y' at *
      have ste := fun (h : H) (v : V) => stAny .u8 cur [v] md hmd h q i (by simp only [List.length_cons, List.length_nil]; omega)
      have su := wr1I .u8 cur i y' (by omega)
      have i1 : i + 1 ≤ w.length := hi
      have ls : (cur.set i y').length = w.length := by rw [List.length_set, lc]
      obtain ⟨n, en⟩ : ∃ n, w.length = n := ⟨_, rfl⟩
      rw [en] at t1' t2 c0 ix
      refine ⟨_, _, by
        simp (config := {maxSteps := 2000000}) (disch := first | omega | (simp only [List.length_cons, List.length_nil, List.length_append, List.length_drop]; omega)) only [L_purserlaw02_CrcMarks_0, t1', t2, t3, gq, cg, c0, wi, ix, w8, ste, su, ↓b_xor32, ↓b_and32, ↓b_or32, ↓u_not32, b_xor32, b_and32, b_or32, u_not32, w32ad, ↓x_conv, x_convV, ↓x_fieldAddr, x_fieldV, ↓s_nilchk, x_nilchk, Nat.zero_add, Nat.add_zero, Nat.mul_one, ↓l_loop, ↓l_succ, ↓l_normal, l_normal, l_exit, l_ret, l_iteN, ↓h_put_get, ↓h_new_get, ↓h_del_get, h_next_put, h_next_new, h_next_del, Nat.add_assoc, Nat.add_eq_left, Nat.left_eq_add, Nat.add_left_cancel_iff, ↓s_load, m_load, ↓m_load1, m_load1, ↓m_st, m_stE, m_storeI, w_zero, w_succ, ↓s_alloc, ↓x_idxA, ↓x_idxS, x_idxAE, x_idxSE, x_addrE, x_idx, x_lenS, ↓s_len, ↓x_buildS, x_buildE, ↓x_P0, ↓x_P1, x_fill0, x_filli, x_fills, x_fillb, c_int, List.length_cons, List.length_nil, List.cons_append, List.drop_succ_cons, List.drop_zero, List.drop_nil, List.nil_append, Int.reduceAdd, Int.reduceToNat, Int.reduceLT, Int.reduceLE, Nat.reduceAdd, Nat.reduceMul, Nat.reduceLeDiff, Int.reduceEq, Int.reduceSub, Int.cast_ofNat_Int, s_resc, s_consR, m_load4, m_store4, s_res0, ↓s_skip, ↓s_ops, ↓s_dops, ↓s_seq, ↓s_cond, ↓s_block, ↓s_exit, ↓s_ret, ↓s_scope, ↓s_nil, ↓s_op, ↓s_opg, ↓s_wanted', ↓s_wantV, s_wantV, s_wantV0, beq_true, beq_false, ↓s_bindS, s_bindS, ↓s_bindE, s_bindE, s_bindE_ret, s_bindE_exit, s_bindE_iteN, s_norm, ↓s_condV, s_condV, s_block_ret, s_block_normal, s_block_exit, s_block_iteN, ↓s_getp, ↓s_getp0, ↓s_get, s_get0, ↓s_con, ↓s_fn, ↓s_os0, ↓s_os1, ↓s_list0, ↓s_list1, ↓s_mov, ↓s_pick, ↓s_pickE, s_pickE, ↓s_bin, ↓s_un, ↓s_minmax, ↓s_call, ↓s_callv, ↓s_callV, ↓s_ext, s_same, b_eql, b_neq, b_lss, b_leq, b_gtr, b_geq, b_add, b_sub, b_mul, b_eqlb, b_neqb, b_fnil, b_fnil', b_fnil2, b_fnil2', u_neg, u_not, m_two, s_end, s_end', s_end_iteN, s_res0, s_res1, s_tup1, s_tup2, ↓iteN_true, ↓iteN_false, iteN_true, iteN_false, Nat.zero_add, List.nil_append, List.append_nil, Nat.reduceEqDiff, reduceIte, decide_true, decide_false, Bool.not_true, Bool.not_false, List.getElem?_cons_zero, List.getElem?_cons_succ, Bool.false_eq_true, if_true, if_false, beq_self_eq_true]
        exact rfl, ⟨i1, Eq.trans (by (simp only [s_getp, s_getp0, Nat.reduceEqDiff, decide_false, decide_true, iteN_false, iteN_true])) t1, by rw [en]; exact Eq.trans (by (simp only [s_getp, s_getp0, Nat.reduceEqDiff, decide_false, decide_true, iteN_false, iteN_true])) t2, (by (simp only [s_getp, s_getp0, Nat.reduceEqDiff, decide_false, decide_true, iteN_false, iteN_true, t3]; try rfl)), Eq.trans (by (simp only [s_getp, s_getp0, Nat.reduceEqDiff, decide_false, decide_true, iteN_false, iteN_true])) k0, Eq.trans (by (simp only [s_getp, s_getp0, Nat.reduceEqDiff, decide_false, decide_true, iteN_false, iteN_true])) k3, Eq.trans (by (simp only [s_getp, s_getp0, Nat.reduceEqDiff, decide_false, decide_true, iteN_false, iteN_true])) k5, Eq.trans (by (simp only [s_getp, s_getp0, Nat.reduceEqDiff, decide_false, decide_true, iteN_false, iteN_true])) k9, ⟨cur.set i y', h_put_same _ _ _, ls⟩, eq.put _⟩⟩) (fun T h I => by
      obtain ⟨il, t1, t2, t3, k0, k3, k5, k9, gq, eq⟩ := I
      have c0 : decide ((w.length : Int) < (w.length : Int)) = false := decide_eq_false (by omega)
      refine ⟨_, _, by
        simp (config := {maxSteps := 2000000}) (disch := first | omega | (simp only [List.length_cons, List.length_nil, List.length_append, List.length_drop]; omega)) only [L_purserlaw02_CrcMarks_0, t2, t3, c0, ↓b_xor32, ↓b_and32, ↓b_or32, ↓u_not32, b_xor32, b_and32, b_or32, u_not32, w32ad, ↓x_conv, x_convV, ↓x_fieldAddr, x_fieldV, ↓s_nilchk, x_nilchk, Nat.zero_add, Nat.add_zero, Nat.mul_one, ↓l_loop, ↓l_succ, ↓l_normal, l_normal, l_exit, l_ret, l_iteN, ↓h_put_get, ↓h_new_get, ↓h_del_get, h_next_put, h_next_new, h_next_del, Nat.add_assoc, Nat.add_eq_left, Nat.left_eq_add, Nat.add_left_cancel_iff, ↓s_load, m_load, ↓m_load1, m_load1, ↓m_st, m_stE, m_storeI, m_storeE, w_zero, w_succ, ↓s_alloc, ↓x_idxA, ↓x_idxS, x_idxAE, x_idxSE, x_addrE, x_idx, x_lenS, ↓s_len, ↓x_buildS, x_buildE, ↓x_P0, ↓x_P1, x_fill0, x_filli, x_fills, x_fillb, c_int, List.length_cons, List.length_nil, List.cons_append, List.drop_succ_cons, List.drop_zero, List.drop_nil, List.nil_append, Int.reduceAdd, Int.reduceToNat, Int.reduceLT, Int.reduceLE, Nat.reduceAdd, Nat.reduceMul, Nat.reduceLeDiff, Int.reduceEq, Int.reduceSub, Int.cast_ofNat_Int, s_resc, s_consR, m_load4, m_store4, s_res0, ↓s_skip, ↓s_ops, ↓s_dops, ↓s_seq, ↓s_cond, ↓s_block, ↓s_exit, ↓s_ret, ↓s_scope, ↓s_nil, ↓s_op, ↓s_opg, ↓s_wanted', ↓s_wantV, s_wantV, s_wantV0, beq_true, beq_false, ↓s_bindS, s_bindS, ↓s_bindE, s_bindE, s_bindE_ret, s_bindE_exit, s_bindE_iteN, s_norm, ↓s_condV, s_condV, s_block_ret, s_block_normal, s_block_exit, s_block_iteN, ↓s_getp, ↓s_getp0, ↓s_get, s_get0, ↓s_con, ↓s_fn, ↓s_os0, ↓s_os1, ↓s_list0, ↓s_list1, ↓s_mov, ↓s_pick, ↓s_pickE, s_pickE, ↓s_bin, ↓s_un, ↓s_minmax, ↓s_call, ↓s_callv, ↓s_callV, ↓s_ext, s_same, b_eql, b_neq, b_lss, b_leq, b_gtr, b_geq, b_add, b_sub, b_mul, b_eqlb, b_neqb, b_fnil, b_fnil', b_fnil2, b_fnil2', u_neg, u_not, m_two, s_end, s_end', s_end_iteN, s_res0, s_res1, s_tup1, s_tup2, ↓iteN_true, ↓iteN_false, iteN_true, iteN_false, Nat.zero_add, List.nil_append, List.append_nil, Nat.reduceEqDiff, reduceIte, decide_true, decide_false, Bool.not_true, Bool.not_false, List.getElem?_cons_zero, List.getElem?_cons_succ, Bool.false_eq_true, if_true, if_false, beq_self_eq_true]
        exact rfl, ⟨il, Eq.trans (by (simp only [s_getp, s_getp0, Nat.reduceEqDiff, decide_false, decide_true, iteN_false, iteN_true])) t1, Eq.trans (by (simp only [s_getp, s_getp0, Nat.reduceEqDiff, decide_false, decide_true, iteN_false, iteN_true])) t2, Eq.trans (by (simp only [s_getp, s_getp0, Nat.reduceEqDiff, decide_false, decide_true, iteN_false, iteN_true])) t3, Eq.trans (by (simp only [s_getp, s_getp0, Nat.reduceEqDiff, decide_false, decide_true, iteN_false, iteN_true])) k0, Eq.trans (by (simp only [s_getp, s_getp0, Nat.reduceEqDiff, decide_false, decide_true, iteN_false, iteN_true])) k3, Eq.trans (by (simp only [s_getp, s_getp0, Nat.reduceEqDiff, decide_false, decide_true, iteN_false, iteN_true])) k5, Eq.trans (by (simp only [s_getp, s_getp0, Nat.reduceEqDiff, decide_false, decide_true, iteN_false, iteN_true])) k9, gq, eq⟩⟩) w.length 0 (by omega) m (by omega) T0 h0 ⟨by omega, rfl, tn, ti, rfl, rfl, rfl, rfl, ⟨w, g, rfl⟩, .refl _ _⟩
    exact ⟨T', h', r, ⟨J.eq.1, fun j hj => J.eq.2 j (fun e => hj (by rw [e]))⟩, J.k0, J.k3, J.k5, J.k9⟩

structure cmYI (T0 : Tr V) (q len : Nat) (md : Md) (h0 : H) (i : Nat) (T : Tr V) (h : H) : Prop where
  il : i ≤ len
  ts : evO T (.t 5) = evO T0 (.t 5)
  tn : evO T (.t 70) = .int .i64 (len : Int)
  ti : evO T (.t 71) = .int .i64 (i : Int)
  k0 : evO T (.t 0) = evO T0 (.t 0)
  k3 : evO T (.t 3) = evO T0 (.t 3)
  k9 : evO T (.t 9) = evO T0 (.t 9)
  g : ∃ cur, h.get q = some (.cells (ofI .u8 cur) md) ∧ cur.length = len
  eq : Eqx q h0 h
/-- every byte of a slice is one greater behind it: nothing else is another one -/
theorem cmY_go (Q : Orc) (m : Nat) (T0 : Tr V) (h0 : H) (w : List Nat) (hw : w.length ≤ 1000000) (hm : w.length < m) (a : Option (Nat × Nat)) (c : Option Nat) (e : Nat) (wb : Wb h0 w a c e) (ts : evO T0 (.t 5) = .slice a w.length c e) (tn : evO T0 (.t 70) = .int .i64 (w.length : Int)) (ti : evO T0 (.t 71) = .int .i64 0) :
    ∃ T' h', loopN (evC Q 92 m none L_purserlaw02_CrcMarks_1) m ⟨T0, [], h0⟩ = some (.exit 2, ⟨T', [], h'⟩) ∧ (h'.next = h0.next ∧ ∀ j, a ≠ some (j, 0) → h'.get j = h0.get j) ∧ evO T' (.t 0) = evO T0 (.t 0) ∧ evO T' (.t 3) = evO T0 (.t 3) ∧ evO T' (.t 9) = evO T0 (.t 9) := by
  rcases wb with ⟨rfl, rfl, rfl, rfl⟩ | ⟨hp, q, md, rfl, rfl, rfl, g, hmd, hq⟩
  · obtain ⟨m, rfl⟩ : ∃ k, m = k + 1 := ⟨m - 1, by omega⟩
    rw [l_succ]
    have c0 : decide ((0 : Int) < ((0 : Nat) : Int)) = false := rfl
    have c1 : decide ((0 : Int) < 0) = false := rfl
    rw [List.length_nil] at tn
    refine ⟨_, h0, by
      simp (config := {maxSteps := 2000000}) (disch := first | omega | (simp only [List.length_cons, List.length_nil, List.length_append, List.length_drop]; omega)) only [L_purserlaw02_CrcMarks_1, tn, ti, c0, c1, ↓b_xor32, ↓b_and32, ↓b_or32, ↓u_not32, b_xor32, b_and32, b_or32, u_not32, w32ad, ↓x_conv, x_convV, ↓x_fieldAddr, x_fieldV, ↓s_nilchk, x_nilchk, Nat.zero_add, Nat.add_zero, Nat.mul_one, ↓l_loop, ↓l_succ, ↓l_normal, l_normal, l_exit, l_ret, l_iteN, ↓h_put_get, ↓h_new_get, ↓h_del_get, h_next_put, h_next_new, h_next_del, Nat.add_assoc, Nat.add_eq_left, Nat.left_eq_add, Nat.add_left_cancel_iff, ↓s_load, m_load, ↓m_load1, m_load1, ↓m_st, m_stE, m_storeI, m_storeE, w_zero, w_succ, ↓s_alloc, ↓x_idxA, ↓x_idxS, x_idxAE, x_idxSE, x_addrE, x_idx, x_lenS, ↓s_len, ↓x_buildS, x_buildE, ↓x_P0, ↓x_P1, x_fill0, x_filli, x_fills, x_fillb, c_int, List.length_cons, List.length_nil, List.cons_append, List.drop_succ_cons, List.drop_zero, List.drop_nil, List.nil_append, Int.reduceAdd, Int.reduceToNat, Int.reduceLT, Int.reduceLE, Nat.reduceAdd, Nat.reduceMul, Nat.reduceLeDiff, Int.reduceEq, Int.reduceSub, Int.cast_ofNat_Int, s_resc, s_consR, m_load4, m_store4, s_res0, ↓s_skip, ↓s_ops, ↓s_dops, ↓s_seq, ↓s_cond, ↓s_block, ↓s_exit, ↓s_ret, ↓s_scope, ↓s_nil, ↓s_op, ↓s_opg, ↓s_wanted', ↓s_wantV, s_wantV, s_wantV0, beq_true, beq_false, ↓s_bindS, s_bindS, ↓s_bindE, s_bindE, s_bindE_ret, s_bindE_exit, s_bindE_iteN, s_norm, ↓s_condV, s_condV, s_block_ret, s_block_normal, s_block_exit, s_block_iteN, ↓s_getp, ↓s_getp0, ↓s_get, s_get0, ↓s_con, ↓s_fn, ↓s_os0, ↓s_os1, ↓s_list0, ↓s_list1, ↓s_mov, ↓s_pick, ↓s_pickE, s_pickE, ↓s_bin, ↓s_un, ↓s_minmax, ↓s_call, ↓s_callv, ↓s_callV, ↓s_ext, s_same, b_eql, b_neq, b_lss, b_leq, b_gtr, b_geq, b_add, b_sub, b_mul, b_eqlb, b_neqb, b_fnil, b_fnil', b_fnil2, b_fnil2', u_neg, u_not, m_two, s_end, s_end', s_end_iteN, s_res0, s_res1, s_tup1, s_tup2, ↓iteN_true, ↓iteN_false, iteN_true, iteN_false, Nat.zero_add, List.nil_append, List.append_nil, Nat.reduceEqDiff, reduceIte, decide_true, decide_false, Bool.not_true, Bool.not_false, List.getElem?_cons_zero, List.getElem?_cons_succ, Bool.false_eq_true, if_true, if_false, beq_self_eq_true]
      exact rfl, ⟨rfl, fun _ _ => rfl⟩, by (simp only [s_getp, s_getp0, Nat.reduceEqDiff, decide_false, decide_true, iteN_false, iteN_true]), by (simp only [s_getp, s_getp0, Nat.reduceEqDiff, decide_false, decide_true, iteN_false, iteN_true]), by (simp only [s_getp, s_getp0, Nat.reduceEqDiff, decide_false, decide_true, iteN_false, iteN_true])⟩
  · obtain ⟨T', h', r, J⟩ := loop_go (f := evC Q 92 m none L_purserlaw02_CrcMarks_1) (cmYI T0 q w.length md h0) w.length (.exit 2) (by intro h; cases h) (cmYI T0 q w.length md h0 w.length) (fun i T h hi I => by
      obtain ⟨_, t1, t2, t3, k0, k3, k9, ⟨cur, gq, lc⟩, eq⟩ := I
      have t1' := t1.trans ts
      have c0 : decide ((i : Int) < (w.length : Int)) = true := decide_eq_true (by omega)
      have wi : wr .i64 ((i : Int) + 1) = ((i + 1 : Nat) : Int) := by rw [wr_i64 (by omega)]; omega
      have ix : idx (i : Int) w.length = some i := idxn hi
      have cg : (ofI .u8 cur)[i]? = some (.int .u8 (cur.getD i 0 : Nat)) := ofI_get _ _ _ (by omega)
      have w8 : wr .u8 (((cur.getD i 0 : Nat) : Int) + 1) = (((cur.getD i 0 + 1) % 256 : Nat) : Int) := w8n (cur.getD i 0 + 1)
      generalize cur.getD i 0 = y at *
      generalize (y + 1) % 256 = y' at *
      have ste := fun (h : H) (v : V) => stAny .u8 cur [v] md hmd h q i (by simp only [List.length_cons, List.length_nil]; omega)
      have su := wr1I .u8 cur i y' (by omega)
      have i1 : i + 1 ≤ w.length := hi
      have ls : (cur.set i y').length = w.length := by rw [List.length_set, lc]
      obtain ⟨n, en⟩ : ∃ n, w.length = n := ⟨_, rfl⟩
      rw [en] at t1' t2 c0 ix
      refine ⟨_, _, by
        simp (config := {maxSteps := 2000000}) (disch := first | omega | (simp only [List.length_cons, List.length_nil, List.length_append, List.length_drop]; omega)) only [L_purserlaw02_CrcMarks_1, t1', t2, t3, gq, cg, c0, wi, ix, w8, ste, su, ↓b_xor32, ↓b_and32, ↓b_or32, ↓u_not32, b_xor32, b_and32, b_or32, u_not32, w32ad, ↓x_conv, x_convV, ↓x_fieldAddr, x_fieldV, ↓s_nilchk, x_nilchk, Nat.zero_add, Nat.add_zero, Nat.mul_one, ↓l_loop, ↓l_succ, ↓l_normal, l_normal, l_exit, l_ret, l_iteN, ↓h_put_get, ↓h_new_get, ↓h_del_get, h_next_put, h_next_new, h_next_del, Nat.add_assoc, Nat.add_eq_left, Nat.left_eq_add, Nat.add_left_cancel_iff, ↓s_load, m_load, ↓m_load1, m_load1, ↓m_st, m_stE, m_storeI, w_zero, w_succ, ↓s_alloc, ↓x_idxA, ↓x_idxS, x_idxAE, x_idxSE, x_addrE, x_idx, x_lenS, ↓s_len, ↓x_buildS, x_buildE, ↓x_P0, ↓x_P1, x_fill0, x_filli, x_fills, x_fillb, c_int, List.length_cons, List.length_nil, List.cons_append, List.drop_succ_cons, List.drop_zero, List.drop_nil, List.nil_append, Int.reduceAdd, Int.reduceToNat, Int.reduceLT, Int.reduceLE, Nat.reduceAdd, Nat.reduceMul, Nat.reduceLeDiff, Int.reduceEq, Int.reduceSub, Int.cast_ofNat_Int, s_resc, s_consR, m_load4, m_store4, s_res0, ↓s_skip, ↓s_ops, ↓s_dops, ↓s_seq, ↓s_cond, ↓s_block, ↓s_exit, ↓s_ret, ↓s_scope, ↓s_nil, ↓s_op, ↓s_opg, ↓s_wanted', ↓s_wantV, s_wantV, s_wantV0, beq_true, beq_false, ↓s_bindS, s_bindS, ↓s_bindE, s_bindE, s_bindE_ret, s_bindE_exit, s_bindE_iteN, s_norm, ↓s_condV, s_condV, s_block_ret, s_block_normal, s_block_exit, s_block_iteN, ↓s_getp, ↓s_getp0, ↓s_get, s_get0, ↓s_con, ↓s_fn, ↓s_os0, ↓s_os1, ↓s_list0, ↓s_list1, ↓s_mov, ↓s_pick, ↓s_pickE, s_pickE, ↓s_bin, ↓s_un, ↓s_minmax, ↓s_call, ↓s_callv, ↓s_callV, ↓s_ext, s_same, b_eql, b_neq, b_lss, b_leq, b_gtr, b_geq, b_add, b_sub, b_mul, b_eqlb, b_neqb, b_fnil, b_fnil', b_fnil2, b_fnil2', u_neg, u_not, m_two, s_end, s_end', s_end_iteN, s_res0, s_res1, s_tup1, s_tup2, ↓iteN_true, ↓iteN_false, iteN_true, iteN_false, Nat.zero_add, List.nil_append, List.append_nil, Nat.reduceEqDiff, reduceIte, decide_true, decide_false, Bool.not_true, Bool.not_false, List.getElem?_cons_zero, List.getElem?_cons_succ, Bool.false_eq_true, if_true, if_false, beq_self_eq_true]
        exact rfl, ⟨i1, Eq.trans (by (simp only [s_getp, s_getp0, Nat.reduceEqDiff, decide_false, decide_true, iteN_false, iteN_true])) t1, by rw [en]; exact Eq.trans (by (simp only [s_getp, s_getp0, Nat.reduceEqDiff, decide_false, decide_true, iteN_false, iteN_true])) t2, (by (simp only [s_getp, s_getp0, Nat.reduceEqDiff, decide_false, decide_true, iteN_false, iteN_true, t3]; try rfl)), Eq.trans (by (simp only [s_getp, s_getp0, Nat.reduceEqDiff, decide_false, decide_true, iteN_false, iteN_true])) k0, Eq.trans (by (simp only [s_getp, s_getp0, Nat.reduceEqDiff, decide_false, decide_true, iteN_false, iteN_true])) k3, Eq.trans (by (simp only [s_getp, s_getp0, Nat.reduceEqDiff, decide_false, decide_true, iteN_false, iteN_true])) k9, ⟨cur.set i y', h_put_same _ _ _, ls⟩, eq.put _⟩⟩) (fun T h I => by
      obtain ⟨il, t1, t2, t3, k0, k3, k9, gq, eq⟩ := I
      have c0 : decide ((w.length : Int) < (w.length : Int)) = false := decide_eq_false (by omega)
      refine ⟨_, _, by
        simp (config := {maxSteps := 2000000}) (disch := first | omega | (simp only [List.length_cons, List.length_nil, List.length_append, List.length_drop]; omega)) only [L_purserlaw02_CrcMarks_1, t2, t3, c0, ↓b_xor32, ↓b_and32, ↓b_or32, ↓u_not32, b_xor32, b_and32, b_or32, u_not32, w32ad, ↓x_conv, x_convV, ↓x_fieldAddr, x_fieldV, ↓s_nilchk, x_nilchk, Nat.zero_add, Nat.add_zero, Nat.mul_one, ↓l_loop, ↓l_succ, ↓l_normal, l_normal, l_exit, l_ret, l_iteN, ↓h_put_get, ↓h_new_get, ↓h_del_get, h_next_put, h_next_new, h_next_del, Nat.add_assoc, Nat.add_eq_left, Nat.left_eq_add, Nat.add_left_cancel_iff, ↓s_load, m_load, ↓m_load1, m_load1, ↓m_st, m_stE, m_storeI, m_storeE, w_zero, w_succ, ↓s_alloc, ↓x_idxA, ↓x_idxS, x_idxAE, x_idxSE, x_addrE, x_idx, x_lenS, ↓s_len, ↓x_buildS, x_buildE, ↓x_P0, ↓x_P1, x_fill0, x_filli, x_fills, x_fillb, c_int, List.length_cons, List.length_nil, List.cons_append, List.drop_succ_cons, List.drop_zero, List.drop_nil, List.nil_append, Int.reduceAdd, Int.reduceToNat, Int.reduceLT, Int.reduceLE, Nat.reduceAdd, Nat.reduceMul, Nat.reduceLeDiff, Int.reduceEq, Int.reduceSub, Int.cast_ofNat_Int, s_resc, s_consR, m_load4, m_store4, s_res0, ↓s_skip, ↓s_ops, ↓s_dops, ↓s_seq, ↓s_cond, ↓s_block, ↓s_exit, ↓s_ret, ↓s_scope, ↓s_nil, ↓s_op, ↓s_opg, ↓s_wanted', ↓s_wantV, s_wantV, s_wantV0, beq_true, beq_false, ↓s_bindS, s_bindS, ↓s_bindE, s_bindE, s_bindE_ret, s_bindE_exit, s_bindE_iteN, s_norm, ↓s_condV, s_condV, s_block_ret, s_block_normal, s_block_exit, s_block_iteN, ↓s_getp, ↓s_getp0, ↓s_get, s_get0, ↓s_con, ↓s_fn, ↓s_os0, ↓s_os1, ↓s_list0, ↓s_list1, ↓s_mov, ↓s_pick, ↓s_pickE, s_pickE, ↓s_bin, ↓s_un, ↓s_minmax, ↓s_call, ↓s_callv, ↓s_callV, ↓s_ext, s_same, b_eql, b_neq, b_lss, b_leq, b_gtr, b_geq, b_add, b_sub, b_mul, b_eqlb, b_neqb, b_fnil, b_fnil', b_fnil2, b_fnil2', u_neg, u_not, m_two, s_end, s_end', s_end_iteN, s_res0, s_res1, s_tup1, s_tup2, ↓iteN_true, ↓iteN_false, iteN_true, iteN_false, Nat.zero_add, List.nil_append, List.append_nil, Nat.reduceEqDiff, reduceIte, decide_true, decide_false, Bool.not_true, Bool.not_false, List.getElem?_cons_zero, List.getElem?_cons_succ, Bool.false_eq_true, if_true, if_false, beq_self_eq_true]
        exact rfl, ⟨il, Eq.trans (by (simp only [s_getp, s_getp0, Nat.reduceEqDiff, decide_false, decide_true, iteN_false, iteN_true])) t1, Eq.trans (by (simp only [s_getp, s_getp0, Nat.reduceEqDiff, decide_false, decide_true, iteN_false, iteN_true])) t2, Eq.trans (by (simp only [s_getp, s_getp0, Nat.reduceEqDiff, decide_false, decide_true, iteN_false, iteN_true])) t3, Eq.trans (by (simp only [s_getp, s_getp0, Nat.reduceEqDiff, decide_false, decide_true, iteN_false, iteN_true])) k0, Eq.trans (by (simp only [s_getp, s_getp0, Nat.reduceEqDiff, decide_false, decide_true, iteN_false, iteN_true])) k3, Eq.trans (by (simp only [s_getp, s_getp0, Nat.reduceEqDiff, decide_false, decide_true, iteN_false, iteN_true])) k9, gq, eq⟩⟩) w.length 0 (by omega) m (by omega) T0 h0 ⟨by omega, rfl, tn, ti, rfl, rfl, rfl, ⟨w, g, rfl⟩, .refl _ _⟩
    exact ⟨T', h', r, ⟨J.eq.1, fun j hj => J.eq.2 j (fun e => hj (by rw [e]))⟩, J.k0, J.k3, J.k9⟩

noncomputable def cmO : Orc := pureX k_crc_steps stepsS
theorem cm_wid : NoWid cmO := ⟨fun _ _ => rfl, fun _ _ => rfl, fun _ _ => rfl, fun _ _ _ => rfl⟩
theorem cm_put : NoPut cmO := ⟨fun _ _ => rfl, cm_wid⟩
theorem cm_no : NoCm cmO := ⟨fun _ _ => rfl, fun _ _ => rfl, fun _ _ => rfl, fun _ _ => rfl, ⟨fun _ _ => rfl, fun _ _ => rfl, cm_put⟩, ⟨fun _ _ => rfl, fun _ _ => rfl, fun _ _ => rfl, fun _ _ => rfl, fun _ _ => rfl, fun _ _ => rfl, fun _ _ => rfl, fun _ _ => rfl, fun _ _ => rfl, fun _ _ => rfl, fun _ _ => rfl, fun _ _ => rfl, fun _ _ => rfl, cm_wid⟩, fun _ _ => rfl,
  cs_no, cs_rc, ⟨fun _ _ => rfl, fun _ _ => rfl, fun _ _ => rfl, fun _ _ => rfl, fun _ _ => rfl⟩, fun _ _ => rfl, fun _ _ => rfl, fun _ _ => rfl⟩
set_option maxRecDepth 100000 in
set_option maxHeartbeats 4000000 in
theorem law_CrcMarks (e : EnCm E) (el : E k_purserlaw02_CrcMarks = some f_purserlaw02_CrcMarks) (N : Nat) (b : List Nat) (bb : byt b = true) (a : Option (Nat × Nat)) (h : H) (src : SrcH h a 1 b) :
    ∃ h2, callX E cmO (N + 12000) (.fn k_purserlaw02_CrcMarks) [.slice a b.length none 1] h = some (.bool true, h2) := by
  rw [x_cfn el _ _ (Nat.le_of_ble_eq_true rfl) rfl]
  by_cases hb : 10000 < b.length
  · have c1 : decide ((10000 : Int) < (b.length : Int)) = true := decide_eq_true (by omega)
    simp (config := {maxSteps := 2000000}) (disch := first | omega | rfl | (simp only [ofI_len, List.length_append, List.length_take, List.length_drop, List.length_cons, List.length_nil, List.length_replicate, List.length_set]; done) | (simp only [ofI_len, List.length_append, List.length_take, List.length_drop, List.length_cons, List.length_nil, List.length_replicate, List.length_set]; omega)) only [c1, ↓s_len, x_lenS, ↓b_xor32, ↓b_and32, ↓b_or32, ↓u_not32, b_xor32, b_and32, b_or32, u_not32, w32ad, ↓x_conv, x_convV, ↓x_fieldAddr, x_fieldV, ↓s_nilchk, x_nilchk, Nat.zero_add, Nat.add_zero, Nat.mul_one, ↓l_loop, ↓l_succ, ↓l_normal, l_normal, l_exit, l_ret, l_iteN, ↓h_put_get, ↓h_new_get, ↓h_del_get, h_next_put, h_next_new, h_next_del, Nat.add_assoc, Nat.add_eq_left, Nat.left_eq_add, Nat.add_left_cancel_iff, ↓s_load, m_load, ↓m_load1, m_load1, ↓m_st, m_stE, m_storeI, m_storeE, ↓s_alloc, ↓x_idxA, ↓x_idxS, x_idxAE, x_idxSE, x_addrE, x_idx, x_lenS, ↓s_len, ↓x_buildS, x_buildE, ↓x_P0, ↓x_P1, x_fill0, x_filli, x_fills, x_fillb, c_int, List.length_cons, List.length_nil, List.cons_append, List.drop_succ_cons, List.drop_zero, List.drop_nil, List.nil_append, Int.reduceAdd, Int.reduceToNat, Int.reduceLT, Int.reduceLE, Nat.reduceAdd, Nat.reduceMul, Nat.reduceLeDiff, Int.reduceEq, Int.reduceSub, Int.cast_ofNat_Int, s_resc, s_consR, m_load4, m_store4, s_res0, ↓s_skip, ↓s_ops, ↓s_dops, ↓s_seq, ↓s_cond, ↓s_block, ↓s_exit, ↓s_ret, ↓s_scope, ↓s_nil, ↓s_op, ↓s_opg, ↓s_wanted', ↓s_wantV, s_wantV, s_wantV0, beq_true, beq_false, ↓s_bindS, s_bindS, ↓s_bindE, s_bindE, s_bindE_ret, s_bindE_exit, s_bindE_iteN, s_norm, ↓s_condV, s_condV, s_block_ret, s_block_normal, s_block_exit, s_block_iteN, ↓s_getp, ↓s_getp0, ↓s_get, s_get0, ↓s_con, ↓s_fn, ↓s_os0, ↓s_os1, ↓s_list0, ↓s_list1, ↓s_mov, ↓s_pick, ↓s_pickE, s_pickE, ↓s_bin, ↓s_un, ↓s_minmax, ↓s_call, ↓s_callv, ↓s_callV, ↓s_ext, s_same, b_eql, b_neq, b_lss, b_leq, b_gtr, b_geq, b_add, b_sub, b_mul, b_eqlb, b_neqb, b_fnil, b_fnil', b_fnil2, b_fnil2', u_neg, u_not, m_two, s_end, s_end', s_end_iteN, s_res0, s_res1, s_tup1, s_tup2, ↓iteN_true, ↓iteN_false, iteN_true, iteN_false, Nat.zero_add, List.nil_append, List.append_nil, Nat.reduceEqDiff, reduceIte, decide_true, decide_false, Bool.not_true, Bool.not_false, List.getElem?_cons_zero, List.getElem?_cons_succ, Bool.false_eq_true, if_true, if_false, beq_self_eq_true]
    exact ⟨_, rfl⟩
  have c1 : decide ((10000 : Int) < (b.length : Int)) = false := decide_eq_false (by omega)
  obtain ⟨a1, d1, z1, h1, r1, nw1⟩ := twinv_go e.rf.tw cm_no.rf.tw (N + 11998) b (by omega) a none 1 h src
  obtain ⟨hB, eB⟩ : ∃ hB, h1.new (.cells [.int .u8 9] .rw) = hB := ⟨_, rfl⟩
  have kB : Kp h1 hB := by rw [← eB]; exact Kp.new _ _
  have sc : srcCells hB 1 (.slice (some (h1.next, 0)) 1 (some 1) 1) = some (1, ofI .u8 [9]) := by rw [← eB, m_src, h_new_same]; rfl
  obtain ⟨ao, co, eo, h2, ap, wb2, n2, f2, o2⟩ := ap_wb hB b [9] a1 d1 z1 (nw1.wb.kp kB) (by simp; omega)
  rcases wb2 with ⟨hw, _⟩ | ⟨hp, q, md, rfl, rfl, rfl, g2, hmd, hq2⟩
  · simp at hw
  have k02 : Kp h h2 := by
    have := nw1.kp.1; have := kB.1
    exact ⟨by omega, fun j hj => by rw [f2 j (by omega) (fun ea => by have := nw1.ge _ _ ea; omega), kB.2 _ (by omega), nw1.kp.2 _ hj]⟩
  have so : SrcH h2 (some (q, 0)) 1 b := by
    have s9 : SrcH h2 (some (q, 0)) 1 (b ++ [9]) := .inr ⟨q, 0, _, md, rfl, rfl, hq2, g2, by rw [ofI_len]; omega, by rw [List.drop_zero]; exact List.take_of_length_le (by rw [ofI_len]; exact Nat.le_refl _)⟩
    have := s9.take b.length
    rw [List.take_left' rfl] at this; exact this
  have ln9 : (b ++ [9]).length = b.length + 1 := by simp
  obtain ⟨h3, ax, cx, ex, r3, nw3⟩ := cmark_go e cm_no (N + 11979) b bb (by omega) (by omega) (some (q, 0)) none 1 h2 so
  obtain ⟨h4, ay, cy, ez, r4, nw4⟩ := cbare_go e cm_no (N + 11979) b bb (by omega) (by omega) (some (q, 0)) h3 (so.mono nw3.kp)
  obtain ⟨h5, az, cz, wz, r5, nw5⟩ := rbare_go e cm_no (N + 1899) b bb (by omega) a h4 (src.mono (k02.trans (nw3.kp.trans nw4.kp)))
  have k05 := k02.trans (nw3.kp.trans (nw4.kp.trans nw5.kp))
  obtain ⟨h6, am, cm, zm, r6, nw6⟩ := rmark_go e cm_no (N + 1899) b bb (by omega) a none 1 h5 (src.mono k05)
  have wX5 := nw3.wb.kp (nw4.kp.trans nw5.kp)
  have wX6 := wX5.kp nw6.kp
  have wY6 := nw4.wb.kp (nw5.kp.trans nw6.kp)
  have wZ6 := nw5.wb.kp nw6.kp
  have bm : byt (b ++ leN 4 (onV 0 b)) = true := byt_app bb (leN_byt _ _)
  have bbr := barB_byt b bb
  have lm : (b ++ leN 4 (onV 0 b)).length = b.length + 4 := by rw [List.length_append, leN_len]
  have lbr : (barB b).length ≤ b.length := by unfold barB; split <;> simp [List.length_take]
  generalize b ++ leN 4 (onV 0 b) = W at *
  have st1 := str_src wX5.src bm cx
  have st2 := str_src wX6.src bm cx
  have st3 := str_src nw6.wb.src bm cm
  have st4 := str_src wY6.src bbr cy
  have st5 := str_src wZ6.src bbr cz
  have n3 := nw3.kp.1
  have n4 := nw4.kp.1
  have n5 := nw5.kp.1
  have n6 := nw6.kp.1
  have q6 : h6.get q = some (.cells (ofI .u8 (b ++ [9])) md) := by rw [nw6.kp.2 _ (by omega), nw5.kp.2 _ (by omega), nw4.kp.2 _ (by omega), nw3.kp.2 _ hq2, g2]
  generalize barB b = Y at *
  generalize barE b = er at *
  have fin : ∀ T, evO T (.t 0) = .slice a b.length none 1 → evO T (.t 3) = .slice (some (q, 0)) (b.length + 1) none 1 → evO T (.t 4) = .slice ax W.length cx ex → evO T (.t 5) = .slice ay Y.length cy ez → evO T (.t 9) = .bool true → evO T (.t 56) = .int .i64 (W.length : Int) → evO T (.t 57) = .int .i64 0 →
      ∃ h2, fnEnd [.tmp 2] (bindE (blockE 0 (loopN (evC (callX E cmO (N + 11999)) 92 (N + 11999) none L_purserlaw02_CrcMarks_0) (N + 11999) ⟨T, [], h6⟩)) (evC (callX E cmO (N + 11999)) 92 (N + 11999) none R_purserlaw02_CrcMarks_1)) = some (.bool true, h2) := by
    intro T t0 t3 t4 t5 t9 t56 t57
    obtain ⟨T1, h7, rr, ⟨nx7, f7⟩, k0, k3, k5, k9⟩ := cmX_go (callX E cmO (N + 11999)) (N + 11999) T h6 W (by omega) (by omega) ax cx ex wX6 t4 t56 t57
    rw [rr]
    have wY7 : Wb h7 Y ay cy ez := wY6.mono (by omega) (fun j hj ea => f7 j (fun ex => by
      have := nw4.ge _ _ ea
      have := nw3.wb.lt ex
      omega))
    have fin2 : ∀ T, evO T (.t 0) = .slice a b.length none 1 → evO T (.t 3) = .slice (some (q, 0)) (b.length + 1) none 1 → evO T (.t 5) = .slice ay Y.length cy ez → evO T (.t 9) = .bool true → evO T (.t 70) = .int .i64 (Y.length : Int) → evO T (.t 71) = .int .i64 0 →
        ∃ h2, fnEnd [.tmp 2] (bindE (blockE 2 (loopN (evC (callX E cmO (N + 11999)) 92 (N + 11999) none L_purserlaw02_CrcMarks_1) (N + 11999) ⟨T, [], h7⟩)) (evC (callX E cmO (N + 11999)) 92 (N + 11999) none R_purserlaw02_CrcMarks_0)) = some (.bool true, h2) := by
      intro T t0 t3 t5 t9 t70 t71
      obtain ⟨T2, h8, rr, ⟨nx8, f8⟩, k0, k3, k9⟩ := cmY_go (callX E cmO (N + 11999)) (N + 11999) T h7 Y (by omega) (by omega) ay cy ez wY7 t5 t70 t71
      rw [rr]
      have u0 := k0.trans t0
      have u3 := k3.trans t3
      have u9 := k9.trans t9
      have g8 : h8.get q = some (.cells (ofI .u8 (b ++ [9])) md) := by
        rw [f8 q (fun ea => by have := nw4.ge _ _ ea; omega), f7 q (fun ea => by have := nw3.ge _ _ ea; omega), q6]
      have s9 : SrcH h8 (some (q, 0)) 1 (b ++ [9]) := .inr ⟨q, 0, _, md, rfl, rfl, by omega, g8, by rw [ofI_len]; omega, by rw [List.drop_zero]; exact List.take_of_length_le (by rw [ofI_len]; exact Nat.le_refl _)⟩
      have sb : SrcH h8 a 1 b := by
        rcases src with s | ⟨bi, off, vs, m, e1, e2, e3, e4, e5⟩
        · exact .inl s
        · have := k05.1
          exact .inr ⟨bi, off, vs, m, e1, e2, by have := k02.1; omega, by rw [f8 bi (fun ea => by have := nw4.ge _ _ ea; have := k02.1; omega), f7 bi (fun ea => by have := nw3.ge _ _ ea; have := k02.1; omega), nw6.kp.2 _ (by have := k02.1; omega), k05.2 _ e3, e4], e5⟩
      have t1 := str_src s9 (byt_app bb (by decide)) none
      have t2 := str_src sb bb none
      rw [ln9] at t1
      have cc : ∀ ee hh, binV .add ee hh (.str b) (.str [9]) = some (.str (b ++ [9])) := fun _ _ => b_sadd _ _ _ _ (by simp; omega)
      generalize b ++ [9] = b9 at *
      obtain ⟨n, en⟩ : ∃ n, b.length = n := ⟨_, rfl⟩
      rw [en] at u0 u3 t1 t2
      simp (config := {maxSteps := 2000000}) (disch := first | omega | rfl | (simp only [ofI_len, List.length_append, List.length_take, List.length_drop, List.length_cons, List.length_nil, List.length_replicate, List.length_set]; done) | (simp only [ofI_len, List.length_append, List.length_take, List.length_drop, List.length_cons, List.length_nil, List.length_replicate, List.length_set]; omega)) only [R_purserlaw02_CrcMarks_0, u0, u3, u9, t1, t2, cc, b_seq, vbeq_str, ↓ns_b2s, ↓b_xor32, ↓b_and32, ↓b_or32, ↓u_not32, b_xor32, b_and32, b_or32, u_not32, w32ad, ↓x_conv, x_convV, ↓x_fieldAddr, x_fieldV, ↓s_nilchk, x_nilchk, Nat.zero_add, Nat.add_zero, Nat.mul_one, ↓l_loop, ↓l_succ, ↓l_normal, l_normal, l_exit, l_ret, l_iteN, ↓h_put_get, ↓h_new_get, ↓h_del_get, h_next_put, h_next_new, h_next_del, Nat.add_assoc, Nat.add_eq_left, Nat.left_eq_add, Nat.add_left_cancel_iff, ↓s_load, m_load, ↓m_load1, m_load1, ↓m_st, m_stE, m_storeI, m_storeE, w_zero, w_succ, ↓s_alloc, ↓x_idxA, ↓x_idxS, x_idxAE, x_idxSE, x_addrE, x_idx, x_lenS, ↓s_len, ↓x_buildS, x_buildE, ↓x_P0, ↓x_P1, x_fill0, x_filli, x_fills, x_fillb, c_int, List.length_cons, List.length_nil, List.cons_append, List.drop_succ_cons, List.drop_zero, List.drop_nil, List.nil_append, Int.reduceAdd, Int.reduceToNat, Int.reduceLT, Int.reduceLE, Nat.reduceAdd, Nat.reduceMul, Nat.reduceLeDiff, Int.reduceEq, Int.reduceSub, Int.cast_ofNat_Int, s_resc, s_consR, m_load4, m_store4, s_res0, ↓s_skip, ↓s_ops, ↓s_dops, ↓s_seq, ↓s_cond, ↓s_block, ↓s_exit, ↓s_ret, ↓s_scope, ↓s_nil, ↓s_op, ↓s_opg, ↓s_wanted', ↓s_wantV, s_wantV, s_wantV0, beq_true, beq_false, ↓s_bindS, s_bindS, ↓s_bindE, s_bindE, s_bindE_ret, s_bindE_exit, s_bindE_iteN, s_norm, ↓s_condV, s_condV, s_block_ret, s_block_normal, s_block_exit, s_block_iteN, ↓s_getp, ↓s_getp0, ↓s_get, s_get0, ↓s_con, ↓s_fn, ↓s_os0, ↓s_os1, ↓s_list0, ↓s_list1, ↓s_mov, ↓s_pick, ↓s_pickE, s_pickE, ↓s_bin, ↓s_un, ↓s_minmax, ↓s_call, ↓s_callv, ↓s_callV, ↓s_ext, s_same, b_eql, b_neq, b_lss, b_leq, b_gtr, b_geq, b_add, b_sub, b_mul, b_eqlb, b_neqb, b_fnil, b_fnil', b_fnil2, b_fnil2', u_neg, u_not, m_two, s_end, s_end', s_end_iteN, s_res0, s_res1, s_tup1, s_tup2, ↓iteN_true, ↓iteN_false, iteN_true, iteN_false, Nat.zero_add, List.nil_append, List.append_nil, Nat.reduceEqDiff, reduceIte, decide_true, decide_false, Bool.not_true, Bool.not_false, List.getElem?_cons_zero, List.getElem?_cons_succ, Bool.false_eq_true, if_true, if_false, beq_self_eq_true]
      exact ⟨_, rfl⟩
    obtain ⟨R, eR⟩ : ∃ R, R_purserlaw02_CrcMarks_0 = R := ⟨_, rfl⟩
    obtain ⟨Lo, eL⟩ : ∃ R, L_purserlaw02_CrcMarks_1 = R := ⟨_, rfl⟩
    rw [eR, eL] at fin2
    unfold R_purserlaw02_CrcMarks_1
    rw [eR, eL]
    have u0 := k0.trans t0
    have u3 := k3.trans t3
    have u5 := k5.trans t5
    have u9 := k9.trans t9
    obtain ⟨n, en⟩ : ∃ n, Y.length = n := ⟨_, rfl⟩
    rw [en] at u5
    simp (config := {maxSteps := 2000000}) (disch := first | omega | rfl | (simp only [ofI_len, List.length_append, List.length_take, List.length_drop, List.length_cons, List.length_nil, List.length_replicate, List.length_set]; done) | (simp only [ofI_len, List.length_append, List.length_take, List.length_drop, List.length_cons, List.length_nil, List.length_replicate, List.length_set]; omega)) only [u5, ↓s_len, x_lenS, ↓b_xor32, ↓b_and32, ↓b_or32, ↓u_not32, b_xor32, b_and32, b_or32, u_not32, w32ad, ↓x_conv, x_convV, ↓x_fieldAddr, x_fieldV, ↓s_nilchk, x_nilchk, Nat.zero_add, Nat.add_zero, Nat.mul_one, ↓l_loop, ↓l_succ, ↓l_normal, l_normal, l_exit, l_ret, l_iteN, ↓h_put_get, ↓h_new_get, ↓h_del_get, h_next_put, h_next_new, h_next_del, Nat.add_assoc, Nat.add_eq_left, Nat.left_eq_add, Nat.add_left_cancel_iff, ↓s_load, m_load, ↓m_load1, m_load1, ↓m_st, m_stE, m_storeI, m_storeE, w_zero, w_succ, ↓s_alloc, ↓x_idxA, ↓x_idxS, x_idxAE, x_idxSE, x_addrE, x_idx, x_lenS, ↓s_len, ↓x_buildS, x_buildE, ↓x_P0, ↓x_P1, x_fill0, x_filli, x_fills, x_fillb, c_int, List.length_cons, List.length_nil, List.cons_append, List.drop_succ_cons, List.drop_zero, List.drop_nil, List.nil_append, Int.reduceAdd, Int.reduceToNat, Int.reduceLT, Int.reduceLE, Nat.reduceAdd, Nat.reduceMul, Nat.reduceLeDiff, Int.reduceEq, Int.reduceSub, Int.cast_ofNat_Int, s_resc, s_consR, m_load4, m_store4, s_res0, ↓s_skip, ↓s_ops, ↓s_dops, ↓s_seq, ↓s_cond, ↓s_block, ↓s_exit, ↓s_ret, ↓s_scope, ↓s_nil, ↓s_op, ↓s_opg, ↓s_wanted', ↓s_wantV, s_wantV, s_wantV0, beq_true, beq_false, ↓s_bindS, s_bindS, ↓s_bindE, s_bindE, s_bindE_ret, s_bindE_exit, s_bindE_iteN, s_norm, ↓s_condV, s_condV, s_block_ret, s_block_normal, s_block_exit, s_block_iteN, ↓s_getp, ↓s_getp0, ↓s_get, s_get0, ↓s_con, ↓s_fn, ↓s_os0, ↓s_os1, ↓s_list0, ↓s_list1, ↓s_mov, ↓s_pick, ↓s_pickE, s_pickE, ↓s_bin, ↓s_un, ↓s_minmax, ↓s_call, ↓s_callv, ↓s_callV, ↓s_ext, s_same, b_eql, b_neq, b_lss, b_leq, b_gtr, b_geq, b_add, b_sub, b_mul, b_eqlb, b_neqb, b_fnil, b_fnil', b_fnil2, b_fnil2', u_neg, u_not, m_two, s_end, s_end', s_end_iteN, s_res0, s_res1, s_tup1, s_tup2, ↓iteN_true, ↓iteN_false, iteN_true, iteN_false, Nat.zero_add, List.nil_append, List.append_nil, Nat.reduceEqDiff, reduceIte, decide_true, decide_false, Bool.not_true, Bool.not_false, List.getElem?_cons_zero, List.getElem?_cons_succ, Bool.false_eq_true, if_true, if_false, beq_self_eq_true]
    exact fin2 _ (by (simp only [s_getp, s_getp0, Nat.reduceEqDiff, decide_false, decide_true, iteN_false, iteN_true, u0]; try rfl)) (by (simp only [s_getp, s_getp0, Nat.reduceEqDiff, decide_false, decide_true, iteN_false, iteN_true, u3]; try rfl)) (by rw [en]; exact (by (simp only [s_getp, s_getp0, Nat.reduceEqDiff, decide_false, decide_true, iteN_false, iteN_true, u5]; try rfl))) (by (simp only [s_getp, s_getp0, Nat.reduceEqDiff, decide_false, decide_true, iteN_false, iteN_true, u9]; try rfl)) (by rw [en]; exact (by (simp only [s_getp, s_getp0, Nat.reduceEqDiff, decide_false, decide_true, iteN_false, iteN_true, u5]; try rfl))) (by (simp only [s_getp, s_getp0, Nat.reduceEqDiff, decide_false, decide_true, iteN_false, iteN_true, u5]; try rfl))
  obtain ⟨R, eR⟩ : ∃ R, R_purserlaw02_CrcMarks_1 = R := ⟨_, rfl⟩
  obtain ⟨Lo, eL⟩ : ∃ R, L_purserlaw02_CrcMarks_0 = R := ⟨_, rfl⟩
  rw [eR, eL] at fin ⊢
  have sv := slcV_hiA (b.length + 1) b.length (some (q, 0)) .i64 (by omega)
  have ce : decide ((er : Int) = (er : Int)) = true := decide_eq_true rfl
  rw [ln9] at ap
  obtain ⟨n, en⟩ : ∃ n, b.length = n := ⟨_, rfl⟩
  obtain ⟨lw, elw⟩ : ∃ n, W.length = n := ⟨_, rfl⟩
  obtain ⟨ly, ely⟩ : ∃ n, Y.length = n := ⟨_, rfl⟩
  rw [en] at c1 r1 ap r3 r4 r5 r6 sv ⊢
  rw [elw] at r3 r6 st1 st2 st3
  rw [ely] at r4 r5 st4 st5
  replace ap : appendC hB 1 1 (.slice a1 n d1 z1) (some (1, ofI .u8 [9])) = some (.slice (some (q, 0)) (n + 1) none 1, h2) := ap
  obtain ⟨C, eC⟩ : ∃ C, ofI .u8 [9] = C := ⟨_, rfl⟩
  rw [eC] at ap sc
  replace r1 : callX E cmO (N + 11999) (.fn k_purserref01_Twin) [.slice a n none 1] h = some (.slice a1 n d1 z1, h1) := r1
  replace r3 : callX E cmO (N + 11999) (.fn k_crc_Mark) [.slice (some (q, 0)) n none 1] h2 = some (.slice ax lw cx ex, h3) := r3
  replace r4 : callX E cmO (N + 11999) (.fn k_crc_Bare) [.slice (some (q, 0)) n none 1] h3 = some (.tup [.slice ay ly cy ez, .int .i64 (er : Nat)], h4) := r4
  replace r5 : callX E cmO (N + 11999) (.fn k_purserref02_Bare) [.slice a n none 1] h4 = some (.tup [.slice az ly cz wz, .int .i64 (er : Nat)], h5) := r5
  replace r6 : callX E cmO (N + 11999) (.fn k_purserref02_Mark) [.slice a n none 1] h5 = some (.slice am lw cm zm, h6) := r6
  simp (config := {maxSteps := 2000000}) (disch := first | omega | rfl | (simp only [ofI_len, List.length_append, List.length_take, List.length_drop, List.length_cons, List.length_nil, List.length_replicate, List.length_set]; done) | (simp only [ofI_len, List.length_append, List.length_take, List.length_drop, List.length_cons, List.length_nil, List.length_replicate, List.length_set]; omega)) only [c1, r1, eB, sc, ap, sv, r3, r4, r5, r6, st1, st2, st3, st4, st5, ce, vbeq_str, b_seq, ↓ns_b2s, ↓s_append, ↓x_slcS, x_M0, x_M1, ↓s_len, x_lenS, ↓b_xor32, ↓b_and32, ↓b_or32, ↓u_not32, b_xor32, b_and32, b_or32, u_not32, w32ad, ↓x_conv, x_convV, ↓x_fieldAddr, x_fieldV, ↓s_nilchk, x_nilchk, Nat.zero_add, Nat.add_zero, Nat.mul_one, ↓s_evD, ↓s_dnil, ↓s_dL, ↓s_dLg, ↓s_dR, ↓s_dRg, ↓s_dRj, ↓s_dRjg, ↓s_dB, ↓s_dBg, ↓s_dAlloc, ↓s_bindD, s_bindD, s_finD, s_finDx, s_addP0, s_addP1, s_addB, s_lookP, ↓s_bump0, ↓s_bump_get, s_bump_next, s_ok0, ↓s_ok1, s_okR0, ↓s_okR1, ↓s_okE, s_okE, s_okE1, s_nth0, s_nthS, Nat.add_zero, Bool.and_self, Bool.and_true, Bool.true_and, ↓l_loop, ↓l_succ, ↓l_normal, l_normal, l_exit, l_ret, l_iteN, ↓h_put_get, ↓h_new_get, ↓h_del_get, h_next_put, h_next_new, h_next_del, Nat.add_assoc, Nat.add_eq_left, Nat.left_eq_add, Nat.add_left_cancel_iff, ↓s_load, m_load, ↓m_load1, m_load1, ↓m_st, m_stE, m_storeI, m_storeE, w_zero, w_succ, ↓s_alloc, ↓x_idxA, ↓x_idxS, x_idxAE, x_idxSE, x_addrE, x_idx, x_lenS, ↓s_len, ↓x_buildS, x_buildE, ↓x_P0, ↓x_P1, x_fill0, x_filli, x_fills, x_fillb, c_int, List.length_cons, List.length_nil, List.cons_append, List.drop_succ_cons, List.drop_zero, List.drop_nil, List.nil_append, Int.reduceAdd, Int.reduceToNat, Int.reduceLT, Int.reduceLE, Nat.reduceAdd, Nat.reduceMul, Nat.reduceLeDiff, Int.reduceEq, Int.reduceSub, Int.cast_ofNat_Int, s_resc, s_consR, m_load4, m_store4, s_res0, ↓s_skip, ↓s_ops, ↓s_dops, ↓s_seq, ↓s_cond, ↓s_block, ↓s_exit, ↓s_ret, ↓s_scope, ↓s_nil, ↓s_op, ↓s_opg, ↓s_wanted', ↓s_wantV, s_wantV, s_wantV0, beq_true, beq_false, ↓s_bindS, s_bindS, ↓s_bindE, s_bindE, s_bindE_ret, s_bindE_exit, s_bindE_iteN, s_norm, ↓s_condV, s_condV, s_block_ret, s_block_normal, s_block_exit, s_block_iteN, ↓s_getp, ↓s_getp0, ↓s_get, s_get0, ↓s_con, ↓s_fn, ↓s_os0, ↓s_os1, ↓s_list0, ↓s_list1, ↓s_mov, ↓s_pick, ↓s_pickE, s_pickE, ↓s_bin, ↓s_un, ↓s_minmax, ↓s_call, ↓s_callv, ↓s_callV, ↓s_ext, s_same, b_eql, b_neq, b_lss, b_leq, b_gtr, b_geq, b_add, b_sub, b_mul, b_eqlb, b_neqb, b_fnil, b_fnil', b_fnil2, b_fnil2', u_neg, u_not, m_two, s_end, s_end', s_end_iteN, s_res0, s_res1, s_tup1, s_tup2, ↓iteN_true, ↓iteN_false, iteN_true, iteN_false, Nat.zero_add, List.nil_append, List.append_nil, Nat.reduceEqDiff, reduceIte, decide_true, decide_false, Bool.not_true, Bool.not_false, List.getElem?_cons_zero, List.getElem?_cons_succ, Bool.false_eq_true, if_true, if_false, beq_self_eq_true]
  exact fin _ (by rw [en]; exact (by (simp only [s_getp, s_getp0, Nat.reduceEqDiff, decide_false, decide_true, iteN_false, iteN_true, eL]; try rfl))) (by rw [en]; exact (by (simp only [s_getp, s_getp0, Nat.reduceEqDiff, decide_false, decide_true, iteN_false, iteN_true, eL]; try rfl))) (by rw [elw]; exact (by (simp only [s_getp, s_getp0, Nat.reduceEqDiff, decide_false, decide_true, iteN_false, iteN_true, eL]; try rfl))) (by rw [ely]; exact (by (simp only [s_getp, s_getp0, Nat.reduceEqDiff, decide_false, decide_true, iteN_false, iteN_true, eL]; try rfl))) (by (simp only [s_getp, s_getp0, Nat.reduceEqDiff, decide_false, decide_true, iteN_false, iteN_true, eL]; try rfl)) (by rw [elw]; exact (by (simp only [s_getp, s_getp0, Nat.reduceEqDiff, decide_false, decide_true, iteN_false, iteN_true, eL]; try rfl))) (by (simp only [s_getp, s_getp0, Nat.reduceEqDiff, decide_false, decide_true, iteN_false, iteN_true, eL]; try rfl))
end Go.Eng
