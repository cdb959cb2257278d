/- What functions of the program come to: own work. -/
import Derived.Test.YtpgocblbihbfpaaRcD
namespace Go.Eng
open Go
variable {E : Nat → Option Fn} {X : Orc}
set_option linter.unusedSimpArgs false
set_option linter.unusedVariables false
theorem RrF.row {lo : Nat} {h : H} {dn : List Rq} {a : Option (Nat × Nat)} {c : Option Nat} {e : Nat} (r : RrF lo h dn a c e) : RrS h dn a e := by
  rcases r with ⟨r, _⟩ | ⟨h1, q, md, ps, e1, e2, e3, g, al, hm, hq, hl⟩
  · exact .inl r
  · refine .inr ⟨q, 0, _, md, e1, e3, hq, g, by rw [flat_len (k := 2) (ral_len2 al), al.len]; omega, fun i o ho => ?_⟩
    obtain ⟨p, hp, b, cb, eb, rfl, s, _⟩ := al.get i o ho
    exact ⟨b, cb, eb, by rw [Nat.zero_add]; exact flat_get (ral_len2 al) i _ hp, s.src⟩
/-- what is read -/
theorem rd_of : ∀ (n : Nat) (b : List Nat), byt b = true → b.length ≤ n →
    (∀ o ∈ (rdV n b).1, rqOk o = true ∧ o.ok ∧ o.l.length ≤ b.length) ∧ rB (rdV n b).1 = b.take (rdV n b).2 ∧ (rdV n b).2 ≤ b.length ∧ dcV (b.drop (rdV n b).2) = none ∧ 13 * (rdV n b).1.length ≤ b.length := by
  intro n
  induction n with
  | zero =>
    intro b bb hb
    obtain rfl : b = [] := List.length_eq_zero_iff.1 (by omega)
    exact ⟨fun o ho => (by cases ho), rfl, Nat.le_refl _, rfl, Nat.le_refl _⟩
  | succ n ih =>
    intro b bb hb
    rw [rd_succ]
    cases hd : dcV b with
    | none =>
      refine ⟨fun o ho => (by cases ho), ?_, Nat.zero_le _, ?_, Nat.zero_le _⟩
      · simp [rB]
      · simp only [List.drop_zero]; exact hd
    | some z =>
      obtain ⟨o, k⟩ := z
      obtain ⟨f1, f2, f3, f4, f5⟩ := dc_of _ bb o k hd
      obtain ⟨g1, g2, g3, g4, g5⟩ := ih (b.drop k) (byt_drop bb _) (by rw [List.length_drop]; omega)
      rw [List.length_drop] at g1 g3 g5
      simp only
      refine ⟨fun o' ho => ?_, ?_, by omega, by rw [List.drop_drop] at g4; exact g4, ?_⟩
      · rcases List.mem_cons.1 ho with rfl | ho
        · exact ⟨f1, f2, by omega⟩
        · obtain ⟨k1, k2, k3⟩ := g1 o' ho; exact ⟨k1, k2, by omega⟩
      · have : rB (o :: (rdV n (b.drop k)).1) = rqB o ++ rB (rdV n (b.drop k)).1 := by unfold rB; rw [List.map_cons, List.flatten_cons]
        rw [this, g2, ← f3, List.take_add]
      · rw [List.length_cons]; omega
noncomputable def alR (k : Nat) : Orc := orX (pureX k_crc_steps stepsS) (pureX k aliveS)
theorem al_rd : NoRd (alR k_purserlaw16_alive) := by repeat' (first | exact fun _ _ => rfl | exact fun _ _ _ => rfl | exact fun _ => rfl | constructor)
theorem al_sm : NoSm (alR k_purserlaw16_alive) := by repeat' (first | exact fun _ _ => rfl | constructor)
theorem all_go (e : EnRd E) (x : NoRd X) (M : Nat) (hM : 50100 < M) (s : List Nat) (bs : byt s = true) (hs : s.length ≤ 50000) (at_ : Int) (a : Option (Nat × Nat)) (c : Option Nat) (ez : Nat) (sb : SB s a c ez) (h : H) (src : SrcH h a ez s) :
    ∃ h' ar cr er, callX E X (M + 25) (.fn k_record_All) [.slice a s.length c ez, .int .i64 at_] h = some (.tup [.slice ar (raR s at_).1.length cr er, .int .i64 ((raR s at_).2 : Int)], h') ∧ Kp h h' ∧ RrF h.next h' (raR s at_).1 ar cr er := by
  unfold raR
  by_cases hc : 0 ≤ at_ ∧ at_ ≤ s.length
  · rw [if_pos hc]
    obtain ⟨n, rfl⟩ := Int.eq_ofNat_of_zero_le hc.1
    exact all_ok e x M hM s bs hs n (by omega) a c ez sb h src
  · rw [if_neg hc]
    obtain ⟨h', r, k⟩ := all_bad e x (M + 23) s.length at_ (by omega) a c ez h
    exact ⟨h', none, some 0, 0, r, k, .inl ⟨rfl, rfl, rfl, rfl⟩⟩
set_option maxRecDepth 100000 in
set_option maxHeartbeats 4000000 in
theorem law_RecordOnly (e : EnRd E) (el : E k_purserlaw16_RecordOnly = some f_purserlaw16_RecordOnly) (M : Nat) (hM : 50100 < M) (s : List Nat) (bs : byt s = true) (at_ : Int) (a0 : Option (Nat × Nat)) (h : H) (ss : SrcH h a0 1 s) :
    ∃ h2, callX E (alR k_purserlaw16_alive) (M + 26) (.fn k_purserlaw16_RecordOnly) [.slice a0 s.length none 1, .int .i64 at_] h = some (.bool true, h2) := by
  rw [x_cfn el _ _ (Nat.le_of_ble_eq_true rfl) rfl]
  have x : NoRd (alR k_purserlaw16_alive) := al_rd
  have al : ∀ h, callX E (alR k_purserlaw16_alive) (M + 25) (.fn k_purserlaw16_alive) [] h = some (.bool true, h) := fun h => x_known rfl
  by_cases hs : 20000 < s.length
  · have d0 : decide ((20000 : Int) < (s.length : Int)) = true := decide_eq_true (by omega)
    generalize s.length = sl at *
    simp (config := {maxSteps := 2000000}) (disch := first | omega | rfl | (simp only [ofI_len, List.length_append, List.length_take, List.length_drop, List.length_cons, List.length_nil, List.length_replicate, List.length_set]; done) | (simp only [ofI_len, List.length_append, List.length_take, List.length_drop, List.length_cons, List.length_nil, List.length_replicate, List.length_set]; omega)) only [al, d0, ↓s_len, x_lenS, ↓b_xor32, ↓b_and32, ↓b_or32, ↓u_not32, b_xor32, b_and32, b_or32, u_not32, w32ad, ↓x_conv, x_convV, ↓x_fieldAddr, x_fieldV, ↓s_nilchk, x_nilchk, Nat.zero_add, Nat.add_zero, Nat.mul_one, ↓s_evD, ↓s_dnil, ↓s_dL, ↓s_dLg, ↓s_dR, ↓s_dRg, ↓s_dRj, ↓s_dRjg, ↓s_dB, ↓s_dBg, ↓s_dAlloc, ↓s_bindD, s_bindD, s_finD, s_finDx, s_addP0, s_addP1, s_addB, s_lookP, ↓s_bump0, ↓s_bump_get, s_bump_next, s_ok0, ↓s_ok1, s_okR0, ↓s_okR1, ↓s_okE, s_okE, s_okE1, s_nth0, s_nthS, Nat.add_zero, Bool.and_self, Bool.and_true, Bool.true_and, ↓l_loop, ↓l_succ, ↓l_normal, l_normal, l_exit, l_ret, l_iteN, ↓h_put_get, ↓h_new_get, ↓h_del_get, h_next_put, h_next_new, h_next_del, Nat.add_assoc, Nat.add_eq_left, Nat.left_eq_add, Nat.add_left_cancel_iff, ↓s_load, m_load, ↓m_load1, m_load1, ↓m_st, m_stE, m_storeI, m_storeE, w_zero, w_succ, ↓s_alloc, ↓x_idxA, ↓x_idxS, x_idxAE, x_idxSE, x_addrE, x_idx, x_lenS, ↓s_len, ↓x_buildS, x_buildE, ↓x_P0, ↓x_P1, x_fill0, x_filli, x_fills, x_fillb, c_int, List.length_cons, List.length_nil, List.cons_append, List.drop_succ_cons, List.drop_zero, List.drop_nil, List.nil_append, Int.reduceAdd, Int.reduceToNat, Int.reduceLT, Int.reduceLE, Nat.reduceAdd, Nat.reduceMul, Nat.reduceLeDiff, Int.reduceEq, Int.reduceSub, Int.cast_ofNat_Int, s_resc, s_consR, m_load4, m_store4, s_res0, ↓s_skip, ↓s_ops, ↓s_dops, ↓s_seq, ↓s_cond, ↓s_block, ↓s_exit, ↓s_ret, ↓s_scope, ↓s_nil, ↓s_op, ↓s_opg, ↓s_wanted', ↓s_wantV, s_wantV, s_wantV0, beq_true, beq_false, ↓s_bindS, s_bindS, ↓s_bindE, s_bindE, s_bindE_ret, s_bindE_exit, s_bindE_iteN, s_norm, ↓s_condV, s_condV, s_block_ret, s_block_normal, s_block_exit, s_block_iteN, ↓s_getp, ↓s_getp0, ↓s_get, s_get0, ↓s_con, ↓s_fn, ↓s_os0, ↓s_os1, ↓s_list0, ↓s_list1, ↓s_mov, ↓s_pick, ↓s_pickE, s_pickE, ↓s_bin, ↓s_un, ↓s_minmax, ↓s_call, ↓s_callv, ↓s_callV, ↓s_ext, s_same, b_eql, b_neq, b_lss, b_leq, b_gtr, b_geq, b_add, b_sub, b_mul, b_eqlb, b_neqb, b_fnil, b_fnil', b_fnil2, b_fnil2', u_neg, u_not, m_two, s_end, s_end', s_end_iteN, s_res0, s_res1, s_tup1, s_tup2, ↓iteN_true, ↓iteN_false, iteN_true, iteN_false, Nat.zero_add, List.nil_append, List.append_nil, Nat.reduceEqDiff, reduceIte, decide_true, decide_false, Bool.not_true, Bool.not_false, List.getElem?_cons_zero, List.getElem?_cons_succ, Bool.false_eq_true, if_true, if_false, beq_self_eq_true]
    exact ⟨_, rfl⟩
  have d0 : decide ((20000 : Int) < (s.length : Int)) = false := decide_eq_false (by omega)
  obtain ⟨h1, ar, cr, er, r1, k1, row⟩ := all_go e x M hM s bs (by omega) at_ a0 none 1 (SB.one _ _) h ss
  unfold raR at r1 row
  by_cases hat : 0 ≤ at_ ∧ at_ ≤ s.length
  · rw [if_pos hat] at r1 row
    obtain ⟨n, rfl⟩ := Int.eq_ofNat_of_zero_le hat.1
    simp only [Int.toNat_natCast] at r1 row
    have hn : n ≤ s.length := by omega
    obtain ⟨f1, f2, f3, f4, f5⟩ := rd_of s.length (s.drop n) (byt_drop bs _) (by rw [List.length_drop]; omega)
    rw [List.drop_drop] at f4
    rw [List.length_drop] at f3 f5
    obtain ⟨L, eL⟩ : ∃ L, (rdV s.length (s.drop n)).1 = L := ⟨_, rfl⟩
    obtain ⟨k, ek⟩ : ∃ L, (rdV s.length (s.drop n)).2 = L := ⟨_, rfl⟩
    rw [eL] at r1 row f1 f2 f5
    rw [ek] at r1 f2 f3 f4
    have lb : (rB L).length = k := by rw [f2, List.length_take, List.length_drop]; omega
    obtain ⟨h2, a2, c2, e2, r2, nw2⟩ := encode_go e.en x.en e.ck x.ck e.hd x.hd e.cm x.cm (M + 3) (by omega) L (by omega) (fun o ho => (f1 o ho).2.1) (fun o ho => by have := (f1 o ho).2.2; rw [List.length_drop] at this; omega) (by omega) ar cr er h1 row.row
    have e0 : enR L = (rB L, 0) := by unfold enR; rw [if_pos (List.all_eq_true.2 (fun o ho => (f1 o ho).1))]
    rw [e0] at r2 nw2
    simp only at r2 nw2
    obtain ⟨h3, k3, r3⟩ := decode_goB e.de e.rh e.cm x.cm x.de x.rh (M + 3) (by omega) s bs (by omega) (n + k) (by omega) a0 none 1 (SB.one _ _) h2 ((ss.mono k1).mono nw2.kp)
    rw [f4] at r3
    replace r3 : callX E (alR k_purserlaw16_alive) (M + 25) (.fn k_record_Decode) [.slice a0 s.length none 1, .int .i64 ((n + k : Nat) : Int)] h2 = some (.tup [.agg [.int .i64 0, .slice none 0 (some 0) 0], .int .i64 0, .int .i64 160], h3) := r3
    replace r2 : callX E (alR k_purserlaw16_alive) (M + 25) (.fn k_record_Encode) [.slice ar L.length cr er] h1 = _ := r2
    obtain ⟨h4, e4⟩ : ∃ h4, (h3.new (.cells [.int .i64 0, .slice none 0 (some 0) 0] .rw)).put h3.next (.cells [.int .i64 0, .slice none 0 (some 0) 0] .rw) = h4 := ⟨_, rfl⟩
    have k4 : Kp h3 h4 := by rw [← e4]; (repeat (first | exact Kp.refl _ | refine Kp.put ?_ _ (by first | omega | (simp only [h_next_put, h_next_new, h_next_del]; omega)) | refine Kp.del ?_ (by first | omega | (simp only [h_next_put, h_next_new, h_next_del]; omega)) | refine Kp.trans ?_ (Kp.new _ _)))
    have s1 := str_src (((nw2.wb.kp k3).kp k4).src) (by rw [f2]; exact byt_take (byt_drop bs _) _) c2
    have s2 := str_src (((((((ss.mono k1).mono nw2.kp).mono k3).mono k4).drop n).take k)) (byt_take (byt_drop bs _) _) none
    have lt : ((s.drop n).take k).length = k := by rw [List.length_take, List.length_drop]; omega
    rw [lt] at s2
    rw [lb] at s1 r2
    rw [f2] at s1
    have sv : slcV 1 (some (.int .i64 (n : Int))) (some (.int .i64 ((n + k : Nat) : Int))) none (.slice a0 s.length none 1) = some (.slice (upA a0 n) k none 1) := by
      rw [slcV_lhA _ _ _ _ _ _ (by omega) (by omega), Nat.add_sub_cancel_left]
    have q1 : decide ((n : Int) < 0) = false := decide_eq_false (by omega)
    have q2 : decide ((s.length : Int) < (n : Int)) = false := decide_eq_false (by omega)
    have q3 : decide ((n : Int) ≤ ((n + k : Nat) : Int)) = true := decide_eq_true (by omega)
    have q4 : decide ((s.drop n).take k = (s.drop n).take k) = true := decide_eq_true rfl
    obtain ⟨NK, eNK⟩ : ∃ x, n + k = x := ⟨_, rfl⟩
    rw [eNK] at r1 r3 sv q3
    generalize (s.drop n).take k = W at *
    generalize s.length = sl at *
    generalize L.length = LL at *
    simp (config := {maxSteps := 2000000}) (disch := first | omega | rfl | (simp only [ofI_len, List.length_append, List.length_take, List.length_drop, List.length_cons, List.length_nil, List.length_replicate, List.length_set]; done) | (simp only [ofI_len, List.length_append, List.length_take, List.length_drop, List.length_cons, List.length_nil, List.length_replicate, List.length_set]; omega)) only [al, d0, r1, r2, r3, e4, st2i, st2ir, s1, s2, sv, q1, q2, q3, q4, b_seq, ↓ns_b2s, ↓x_slcS, x_M0, x_M1, ↓s_len, x_lenS, ↓b_xor32, ↓b_and32, ↓b_or32, ↓u_not32, b_xor32, b_and32, b_or32, u_not32, w32ad, ↓x_conv, x_convV, ↓x_fieldAddr, x_fieldV, ↓s_nilchk, x_nilchk, Nat.zero_add, Nat.add_zero, Nat.mul_one, ↓s_evD, ↓s_dnil, ↓s_dL, ↓s_dLg, ↓s_dR, ↓s_dRg, ↓s_dRj, ↓s_dRjg, ↓s_dB, ↓s_dBg, ↓s_dAlloc, ↓s_bindD, s_bindD, s_finD, s_finDx, s_addP0, s_addP1, s_addB, s_lookP, ↓s_bump0, ↓s_bump_get, s_bump_next, s_ok0, ↓s_ok1, s_okR0, ↓s_okR1, ↓s_okE, s_okE, s_okE1, s_nth0, s_nthS, Nat.add_zero, Bool.and_self, Bool.and_true, Bool.true_and, ↓l_loop, ↓l_succ, ↓l_normal, l_normal, l_exit, l_ret, l_iteN, ↓h_put_get, ↓h_new_get, ↓h_del_get, h_next_put, h_next_new, h_next_del, Nat.add_assoc, Nat.add_eq_left, Nat.left_eq_add, Nat.add_left_cancel_iff, ↓s_load, m_load, ↓m_load1, m_load1, ↓m_st, m_stE, m_storeI, m_storeE, w_zero, w_succ, ↓s_alloc, ↓x_idxA, ↓x_idxS, x_idxAE, x_idxSE, x_addrE, x_idx, x_lenS, ↓s_len, ↓x_buildS, x_buildE, ↓x_P0, ↓x_P1, x_fill0, x_filli, x_fills, x_fillb, c_int, List.length_cons, List.length_nil, List.cons_append, List.drop_succ_cons, List.drop_zero, List.drop_nil, List.nil_append, Int.reduceAdd, Int.reduceToNat, Int.reduceLT, Int.reduceLE, Nat.reduceAdd, Nat.reduceMul, Nat.reduceLeDiff, Int.reduceEq, Int.reduceSub, Int.cast_ofNat_Int, s_resc, s_consR, m_load4, m_store4, s_res0, ↓s_skip, ↓s_ops, ↓s_dops, ↓s_seq, ↓s_cond, ↓s_block, ↓s_exit, ↓s_ret, ↓s_scope, ↓s_nil, ↓s_op, ↓s_opg, ↓s_wanted', ↓s_wantV, s_wantV, s_wantV0, beq_true, beq_false, ↓s_bindS, s_bindS, ↓s_bindE, s_bindE, s_bindE_ret, s_bindE_exit, s_bindE_iteN, s_norm, ↓s_condV, s_condV, s_block_ret, s_block_normal, s_block_exit, s_block_iteN, ↓s_getp, ↓s_getp0, ↓s_get, s_get0, ↓s_con, ↓s_fn, ↓s_os0, ↓s_os1, ↓s_list0, ↓s_list1, ↓s_mov, ↓s_pick, ↓s_pickE, s_pickE, ↓s_bin, ↓s_un, ↓s_minmax, ↓s_call, ↓s_callv, ↓s_callV, ↓s_ext, s_same, b_eql, b_neq, b_lss, b_leq, b_gtr, b_geq, b_add, b_sub, b_mul, b_eqlb, b_neqb, b_fnil, b_fnil', b_fnil2, b_fnil2', u_neg, u_not, m_two, s_end, s_end', s_end_iteN, s_res0, s_res1, s_tup1, s_tup2, ↓iteN_true, ↓iteN_false, iteN_true, iteN_false, Nat.zero_add, List.nil_append, List.append_nil, Nat.reduceEqDiff, reduceIte, decide_true, decide_false, Bool.not_true, Bool.not_false, List.getElem?_cons_zero, List.getElem?_cons_succ, Bool.false_eq_true, if_true, if_false, beq_self_eq_true]
    exact ⟨_, rfl⟩
  · rw [if_neg hat] at r1 row
    simp only [List.length_nil] at r1
    rcases (show at_ < 0 ∨ (s.length : Int) < at_ by omega) with hc | hc
    · have q1 : decide (at_ < 0) = true := decide_eq_true hc
      generalize s.length = sl at *
      simp (config := {maxSteps := 2000000}) (disch := first | omega | rfl | (simp only [ofI_len, List.length_append, List.length_take, List.length_drop, List.length_cons, List.length_nil, List.length_replicate, List.length_set]; done) | (simp only [ofI_len, List.length_append, List.length_take, List.length_drop, List.length_cons, List.length_nil, List.length_replicate, List.length_set]; omega)) only [al, d0, r1, q1, ↓s_len, x_lenS, ↓b_xor32, ↓b_and32, ↓b_or32, ↓u_not32, b_xor32, b_and32, b_or32, u_not32, w32ad, ↓x_conv, x_convV, ↓x_fieldAddr, x_fieldV, ↓s_nilchk, x_nilchk, Nat.zero_add, Nat.add_zero, Nat.mul_one, ↓s_evD, ↓s_dnil, ↓s_dL, ↓s_dLg, ↓s_dR, ↓s_dRg, ↓s_dRj, ↓s_dRjg, ↓s_dB, ↓s_dBg, ↓s_dAlloc, ↓s_bindD, s_bindD, s_finD, s_finDx, s_addP0, s_addP1, s_addB, s_lookP, ↓s_bump0, ↓s_bump_get, s_bump_next, s_ok0, ↓s_ok1, s_okR0, ↓s_okR1, ↓s_okE, s_okE, s_okE1, s_nth0, s_nthS, Nat.add_zero, Bool.and_self, Bool.and_true, Bool.true_and, ↓l_loop, ↓l_succ, ↓l_normal, l_normal, l_exit, l_ret, l_iteN, ↓h_put_get, ↓h_new_get, ↓h_del_get, h_next_put, h_next_new, h_next_del, Nat.add_assoc, Nat.add_eq_left, Nat.left_eq_add, Nat.add_left_cancel_iff, ↓s_load, m_load, ↓m_load1, m_load1, ↓m_st, m_stE, m_storeI, m_storeE, w_zero, w_succ, ↓s_alloc, ↓x_idxA, ↓x_idxS, x_idxAE, x_idxSE, x_addrE, x_idx, x_lenS, ↓s_len, ↓x_buildS, x_buildE, ↓x_P0, ↓x_P1, x_fill0, x_filli, x_fills, x_fillb, c_int, List.length_cons, List.length_nil, List.cons_append, List.drop_succ_cons, List.drop_zero, List.drop_nil, List.nil_append, Int.reduceAdd, Int.reduceToNat, Int.reduceLT, Int.reduceLE, Nat.reduceAdd, Nat.reduceMul, Nat.reduceLeDiff, Int.reduceEq, Int.reduceSub, Int.cast_ofNat_Int, s_resc, s_consR, m_load4, m_store4, s_res0, ↓s_skip, ↓s_ops, ↓s_dops, ↓s_seq, ↓s_cond, ↓s_block, ↓s_exit, ↓s_ret, ↓s_scope, ↓s_nil, ↓s_op, ↓s_opg, ↓s_wanted', ↓s_wantV, s_wantV, s_wantV0, beq_true, beq_false, ↓s_bindS, s_bindS, ↓s_bindE, s_bindE, s_bindE_ret, s_bindE_exit, s_bindE_iteN, s_norm, ↓s_condV, s_condV, s_block_ret, s_block_normal, s_block_exit, s_block_iteN, ↓s_getp, ↓s_getp0, ↓s_get, s_get0, ↓s_con, ↓s_fn, ↓s_os0, ↓s_os1, ↓s_list0, ↓s_list1, ↓s_mov, ↓s_pick, ↓s_pickE, s_pickE, ↓s_bin, ↓s_un, ↓s_minmax, ↓s_call, ↓s_callv, ↓s_callV, ↓s_ext, s_same, b_eql, b_neq, b_lss, b_leq, b_gtr, b_geq, b_add, b_sub, b_mul, b_eqlb, b_neqb, b_fnil, b_fnil', b_fnil2, b_fnil2', u_neg, u_not, m_two, s_end, s_end', s_end_iteN, s_res0, s_res1, s_tup1, s_tup2, ↓iteN_true, ↓iteN_false, iteN_true, iteN_false, Nat.zero_add, List.nil_append, List.append_nil, Nat.reduceEqDiff, reduceIte, decide_true, decide_false, Bool.not_true, Bool.not_false, List.getElem?_cons_zero, List.getElem?_cons_succ, Bool.false_eq_true, if_true, if_false, beq_self_eq_true]
      exact ⟨_, rfl⟩
    · have q1 : decide (at_ < 0) = false := decide_eq_false (by omega)
      have q2 : decide ((s.length : Int) < at_) = true := decide_eq_true hc
      generalize s.length = sl at *
      simp (config := {maxSteps := 2000000}) (disch := first | omega | rfl | (simp only [ofI_len, List.length_append, List.length_take, List.length_drop, List.length_cons, List.length_nil, List.length_replicate, List.length_set]; done) | (simp only [ofI_len, List.length_append, List.length_take, List.length_drop, List.length_cons, List.length_nil, List.length_replicate, List.length_set]; omega)) only [al, d0, r1, q1, q2, ↓s_len, x_lenS, ↓b_xor32, ↓b_and32, ↓b_or32, ↓u_not32, b_xor32, b_and32, b_or32, u_not32, w32ad, ↓x_conv, x_convV, ↓x_fieldAddr, x_fieldV, ↓s_nilchk, x_nilchk, Nat.zero_add, Nat.add_zero, Nat.mul_one, ↓s_evD, ↓s_dnil, ↓s_dL, ↓s_dLg, ↓s_dR, ↓s_dRg, ↓s_dRj, ↓s_dRjg, ↓s_dB, ↓s_dBg, ↓s_dAlloc, ↓s_bindD, s_bindD, s_finD, s_finDx, s_addP0, s_addP1, s_addB, s_lookP, ↓s_bump0, ↓s_bump_get, s_bump_next, s_ok0, ↓s_ok1, s_okR0, ↓s_okR1, ↓s_okE, s_okE, s_okE1, s_nth0, s_nthS, Nat.add_zero, Bool.and_self, Bool.and_true, Bool.true_and, ↓l_loop, ↓l_succ, ↓l_normal, l_normal, l_exit, l_ret, l_iteN, ↓h_put_get, ↓h_new_get, ↓h_del_get, h_next_put, h_next_new, h_next_del, Nat.add_assoc, Nat.add_eq_left, Nat.left_eq_add, Nat.add_left_cancel_iff, ↓s_load, m_load, ↓m_load1, m_load1, ↓m_st, m_stE, m_storeI, m_storeE, w_zero, w_succ, ↓s_alloc, ↓x_idxA, ↓x_idxS, x_idxAE, x_idxSE, x_addrE, x_idx, x_lenS, ↓s_len, ↓x_buildS, x_buildE, ↓x_P0, ↓x_P1, x_fill0, x_filli, x_fills, x_fillb, c_int, List.length_cons, List.length_nil, List.cons_append, List.drop_succ_cons, List.drop_zero, List.drop_nil, List.nil_append, Int.reduceAdd, Int.reduceToNat, Int.reduceLT, Int.reduceLE, Nat.reduceAdd, Nat.reduceMul, Nat.reduceLeDiff, Int.reduceEq, Int.reduceSub, Int.cast_ofNat_Int, s_resc, s_consR, m_load4, m_store4, s_res0, ↓s_skip, ↓s_ops, ↓s_dops, ↓s_seq, ↓s_cond, ↓s_block, ↓s_exit, ↓s_ret, ↓s_scope, ↓s_nil, ↓s_op, ↓s_opg, ↓s_wanted', ↓s_wantV, s_wantV, s_wantV0, beq_true, beq_false, ↓s_bindS, s_bindS, ↓s_bindE, s_bindE, s_bindE_ret, s_bindE_exit, s_bindE_iteN, s_norm, ↓s_condV, s_condV, s_block_ret, s_block_normal, s_block_exit, s_block_iteN, ↓s_getp, ↓s_getp0, ↓s_get, s_get0, ↓s_con, ↓s_fn, ↓s_os0, ↓s_os1, ↓s_list0, ↓s_list1, ↓s_mov, ↓s_pick, ↓s_pickE, s_pickE, ↓s_bin, ↓s_un, ↓s_minmax, ↓s_call, ↓s_callv, ↓s_callV, ↓s_ext, s_same, b_eql, b_neq, b_lss, b_leq, b_gtr, b_geq, b_add, b_sub, b_mul, b_eqlb, b_neqb, b_fnil, b_fnil', b_fnil2, b_fnil2', u_neg, u_not, m_two, s_end, s_end', s_end_iteN, s_res0, s_res1, s_tup1, s_tup2, ↓iteN_true, ↓iteN_false, iteN_true, iteN_false, Nat.zero_add, List.nil_append, List.append_nil, Nat.reduceEqDiff, reduceIte, decide_true, decide_false, Bool.not_true, Bool.not_false, List.getElem?_cons_zero, List.getElem?_cons_succ, Bool.false_eq_true, if_true, if_false, beq_self_eq_true]
      exact ⟨_, rfl⟩
end Go.Eng
namespace Go.Eng
open Go
variable {E : Nat → Option Fn} {X : Orc}
set_option linter.unusedSimpArgs false
set_option linter.unusedVariables false
theorem app_2 (h : H) (b s : List Nat) (hl : b.length + s.length ≤ 1000000) : ∃ v h1 a c e h', appendC (h.new (.cells [] .rw)) 1 1 (.slice (some (h.next, 0)) 0 (some 0) 1) (some (b.length, ofI .u8 b)) = some (v, h1) ∧ Kp h h1 ∧ appendC h1 1 1 v (some (s.length, ofI .u8 s)) = some (.slice a (b ++ s).length c e, h') ∧ Kp h h' ∧ SrcH h' a e (b ++ s) ∧ (b ++ s ≠ [] → c = none) ∧ e = 1 := by
  by_cases hb : b = []
  · subst hb
    have e0 : appendC (h.new (.cells [] .rw)) 1 1 (.slice (some (h.next, 0)) 0 (some 0) 1) (some (([] : List Nat).length, ofI .u8 [])) = some (.slice (some (h.next, 0)) 0 (some 0) 1, h.new (.cells [] .rw)) := appN _ _ _ _ _ _
    refine ⟨.slice (some (h.next, 0)) 0 (some 0) 1, h.new (.cells [] .rw), ?_⟩
    cases hn : s.length with
    | zero =>
      have l0 : s = [] := List.length_eq_zero_iff.1 hn
      subst l0
      exact ⟨some (h.next, 0), some 0, 1, _, e0, Kp.new _ _, appN _ _ _ _ _ _, Kp.new _ _, .inl rfl, fun h => absurd rfl h, rfl⟩
    | succ n =>
      obtain ⟨h1, e1⟩ : ∃ h1, h.new (.cells [] .rw) = h1 := ⟨_, rfl⟩
      have g : h1.get h.next = some (.cells [] .rw) := by rw [← e1]; exact h_new_same _ _
      have k1 : Kp h h1 := by rw [← e1]; exact Kp.new _ _
      rw [e1] at e0 ⊢
      refine ⟨some (h1.next, 0), none, 1, h1.new (.cells (ofI .u8 s) .rw), e0, k1, ?_, k1.trans (Kp.new _ _), .inr ⟨h1.next, 0, _, .rw, rfl, rfl, Nat.lt_succ_self _, h_new_same _ _, by rw [ofI_len]; simp, by rw [List.drop_zero]; exact List.take_of_length_le (by rw [ofI_len]; exact Nat.le_refl _)⟩, fun _ => rfl, rfl⟩
      rw [List.nil_append, hn]
      unfold appendC
      simp only
      have r : (roomy (0 + (n + 1)) 1 && (Nat.beq 1 1 || (some (h.next, 0) : Option (Nat × Nat)).isNone) && (ofI .u8 s).all plainV) = true := by
        rw [plain_ofI]; have : roomy (0 + (n + 1)) 1 = true := by simp [roomy]; simp at hl; omega
        rw [this]; rfl
      have f : fullC (some 0) (0 + (n + 1)) = true := by
        show Nat.blt 0 (0 + (n + 1)) = true
        simp
      rw [r]
      simp only [_root_.cond_true, g, f]
      have rd : readN ([] : List V) 0 (0 * 1) = some [] := rfl
      simp only [rd, List.nil_append, Nat.zero_add]
  · obtain ⟨n, hn⟩ : ∃ n, b.length = n + 1 := ⟨b.length - 1, by have := List.length_pos_iff.2 hb; omega⟩
    obtain ⟨h1, e1⟩ : ∃ h1, h.new (.cells [] .rw) = h1 := ⟨_, rfl⟩
    have g : h1.get h.next = some (.cells [] .rw) := by rw [← e1]; exact h_new_same _ _
    have k1 : Kp h h1 := by rw [← e1]; exact Kp.new _ _
    have n1 := k1.1
    have wb : Wb (h1.new (.cells (ofI .u8 b) .rw)) b (some (h1.next, 0)) none 1 := .inr ⟨by omega, h1.next, .rw, rfl, rfl, rfl, h_new_same _ _, rfl, Nat.lt_succ_self _⟩
    obtain ⟨a', c', e', h', r2, wb2, nx, fr, ow⟩ := ap_wb _ b s _ _ _ wb hl
    refine ⟨.slice (some (h1.next, 0)) b.length none 1, h1.new (.cells (ofI .u8 b) .rw), a', c', e', h', ?_, k1.trans (Kp.new _ _), r2, ⟨by have : (h1.new (.cells (ofI .u8 b) .rw)).next = h1.next + 1 := rfl; omega, fun i hi => by rw [fr i (by have : (h1.new (.cells (ofI .u8 b) .rw)).next = h1.next + 1 := rfl; omega) (fun e => by cases e; omega), h_new_ne _ _ (by omega), k1.2 _ hi]⟩, wb2.src, fun hne => ?_, ?_⟩
    · rw [e1, hn]
      unfold appendC
      simp only
      have r : (roomy (0 + (n + 1)) 1 && (Nat.beq 1 1 || (some (h.next, 0) : Option (Nat × Nat)).isNone) && (ofI .u8 b).all plainV) = true := by
        rw [plain_ofI]; have : roomy (0 + (n + 1)) 1 = true := by simp [roomy]; omega
        rw [this]; rfl
      have f : fullC (some 0) (0 + (n + 1)) = true := by
        show Nat.blt 0 (0 + (n + 1)) = true
        simp
      rw [r]
      simp only [_root_.cond_true, g, f]
      have rd : readN ([] : List V) 0 (0 * 1) = some [] := rfl
      simp only [rd, List.nil_append, Nat.zero_add]
    · rcases wb2 with ⟨w1, _⟩ | ⟨_, _, _, _, w3, _⟩
      · exact absurd w1 hne
      · exact w3
    · rcases wb2 with ⟨w1, _⟩ | ⟨_, _, _, _, _, w3, _⟩
      · rw [List.append_eq_nil_iff] at w1; exact absurd w1.1 hb
      · exact w3
/-! are records great? -/
structure GrI (v : V) (n : Nat) (h0 : H) (i : Nat) (T : Tr V) (h : H) : Prop where
  il : i ≤ n
  t0 : evO T (.t 0) = v
  t3 : evO T (.t 3) = .int .i64 (i : Int)
  hh : h = h0
def grR (ops : List Rq) : Bool := decide (60 < ops.length) || ops.any (fun o => decide (500 < o.l.length))
theorem gr_or (ops : List Rq) : (∀ o ∈ ops, ¬ 500 < o.l.length) ∨ ∃ (j : Nat) (o : Rq), ops[j]? = some o ∧ 500 < o.l.length ∧ ∀ (i : Nat) (o' : Rq), i < j → ops[i]? = some o' → ¬ 500 < o'.l.length := by
  induction ops with
  | nil => exact .inl (fun o ho => by cases ho)
  | cons a r ih =>
    by_cases ha : 500 < a.l.length
    · exact .inr ⟨0, a, rfl, ha, fun i o' hi => by omega⟩
    · rcases ih with ih | ⟨j, o, h1, h2, h3⟩
      · exact .inl (fun o ho => by rcases List.mem_cons.1 ho with rfl | ho; exact ha; exact ih o ho)
      · refine .inr ⟨j + 1, o, by simpa using h1, h2, fun i o' hi ho => ?_⟩
        cases i with
        | zero => simp at ho; subst ho; exact ha
        | succ i => simp at ho; exact h3 i o' (by omega) ho
theorem great_go (e : E k_purserref16_Great = some f_purserref16_Great) (x : ∀ a h, X (.fn k_purserref16_Great) a h = none) (M : Nat) (hM : 100 < M) (ops : List Rq) (hb : ops.length < 9223372036854775807) (a : Option (Nat × Nat)) (c : Option Nat) (ez : Nat) (h : H) (row : RrS h ops a ez) :
    callX E X (M + 1) (.fn k_purserref16_Great) [.slice a ops.length c ez] h = some (.int .i64 (if grR ops = true then 1 else 0), h) := by
  rw [x_cfn e _ _ (Nat.le_of_ble_eq_true rfl) (x _ _)]
  unfold grR
  by_cases hl : 60 < ops.length
  · have d0 : decide ((60 : Int) < (ops.length : Int)) = true := decide_eq_true (by omega)
    rw [decide_eq_true hl, Bool.true_or, if_pos rfl]
    generalize ops.length = n at *
    simp (config := {maxSteps := 2000000}) (disch := first | omega | (simp only [List.length_cons, List.length_nil, List.length_append, List.length_drop]; omega)) only [d0, ↓s_len, x_lenS, ↓b_xor32, ↓b_and32, ↓b_or32, ↓u_not32, b_xor32, b_and32, b_or32, u_not32, w32ad, ↓x_conv, x_convV, ↓x_fieldAddr, x_fieldV, ↓s_nilchk, x_nilchk, Nat.zero_add, Nat.add_zero, Nat.mul_one, ↓l_loop, ↓l_succ, ↓l_normal, l_normal, l_exit, l_ret, l_iteN, ↓h_put_get, ↓h_new_get, ↓h_del_get, h_next_put, h_next_new, h_next_del, Nat.add_assoc, Nat.add_eq_left, Nat.left_eq_add, Nat.add_left_cancel_iff, ↓s_load, m_load, ↓m_load1, m_load1, ↓m_st, m_stE, m_storeI, m_storeE, w_zero, w_succ, ↓s_alloc, ↓x_idxA, ↓x_idxS, x_idxAE, x_idxSE, x_addrE, x_idx, x_lenS, ↓s_len, ↓x_buildS, x_buildE, ↓x_P0, ↓x_P1, x_fill0, x_filli, x_fills, x_fillb, c_int, List.length_cons, List.length_nil, List.cons_append, List.drop_succ_cons, List.drop_zero, List.drop_nil, List.nil_append, Int.reduceAdd, Int.reduceToNat, Int.reduceLT, Int.reduceLE, Nat.reduceAdd, Nat.reduceMul, Nat.reduceLeDiff, Int.reduceEq, Int.reduceSub, Int.cast_ofNat_Int, s_resc, s_consR, m_load4, m_store4, s_res0, ↓s_skip, ↓s_ops, ↓s_dops, ↓s_seq, ↓s_cond, ↓s_block, ↓s_exit, ↓s_ret, ↓s_scope, ↓s_nil, ↓s_op, ↓s_opg, ↓s_wanted', ↓s_wantV, s_wantV, s_wantV0, beq_true, beq_false, ↓s_bindS, s_bindS, ↓s_bindE, s_bindE, s_bindE_ret, s_bindE_exit, s_bindE_iteN, s_norm, ↓s_condV, s_condV, s_block_ret, s_block_normal, s_block_exit, s_block_iteN, ↓s_getp, ↓s_getp0, ↓s_get, s_get0, ↓s_con, ↓s_fn, ↓s_os0, ↓s_os1, ↓s_list0, ↓s_list1, ↓s_mov, ↓s_pick, ↓s_pickE, s_pickE, ↓s_bin, ↓s_un, ↓s_minmax, ↓s_call, ↓s_callv, ↓s_callV, ↓s_ext, s_same, b_eql, b_neq, b_lss, b_leq, b_gtr, b_geq, b_add, b_sub, b_mul, b_eqlb, b_neqb, b_fnil, b_fnil', b_fnil2, b_fnil2', u_neg, u_not, m_two, s_end, s_end', s_end_iteN, s_res0, s_res1, s_tup1, s_tup2, ↓iteN_true, ↓iteN_false, iteN_true, iteN_false, Nat.zero_add, List.nil_append, List.append_nil, Nat.reduceEqDiff, reduceIte, decide_true, decide_false, Bool.not_true, Bool.not_false, List.getElem?_cons_zero, List.getElem?_cons_succ, Bool.false_eq_true, if_true, if_false, beq_self_eq_true]
    try rfl
  rw [decide_eq_false hl, Bool.false_or]
  have d0 : decide ((60 : Int) < (ops.length : Int)) = false := decide_eq_false (by omega)
  have fin : ∀ T, GrI (.slice a ops.length c ez) ops.length h 0 T h → fnEnd [.tmp 2] (bindE (blockE 0 (loopN (evC (callX E X M) 20 M none L_purserref16_Great_0) M ⟨T, [], h⟩)) (evC (callX E X M) 20 M none R_purserref16_Great_0)) = some (.int .i64 (if (ops.any (fun o => decide (500 < o.l.length))) = true then 1 else 0), h) := by
    intro T I
    have step : ∀ (i : Nat) (T : Tr V) (h' : H) (o : Rq), ops[i]? = some o → ¬ 500 < o.l.length → GrI (.slice a ops.length c ez) ops.length h i T h' → ∃ T' h'', evC (callX E X M) 20 M none L_purserref16_Great_0 ⟨T, [], h'⟩ = some (.normal, ⟨T', [], h''⟩) ∧ GrI (.slice a ops.length c ez) ops.length h (i + 1) T' h'' := by
      intro i T h' o ho hv ⟨_, t0, t3, hh⟩
      subst hh
      have hi : i < ops.length := (List.getElem?_eq_some_iff.1 ho).1
      have c0 : decide ((i : Int) < (ops.length : Int)) = true := decide_eq_true (by omega)
      have wi : wr .i64 ((i : Int) + 1) = ((i + 1 : Nat) : Int) := by rw [wr_i64 (by omega)]; omega
      have ix : idx (i : Int) ops.length = some i := idxn hi
      obtain ⟨q, off, vs, md, b, cb, eb, rfl, rfl, hq, g, ld, sb, cg⟩ := rr_at row i o ho
      rw [Nat.add_assoc] at cg
      have d1 : decide ((500 : Int) < (o.l.length : Int)) = false := decide_eq_false (by omega)
      have i1 : i + 1 ≤ ops.length := hi
      generalize o.l.length = w at *
      obtain ⟨n, en⟩ : ∃ n, ops.length = n := ⟨_, rfl⟩
      rw [en] at t0 c0 ix
      refine ⟨_, _, by
        simp (config := {maxSteps := 2000000}) (disch := first | omega | (simp only [List.length_cons, List.length_nil, List.length_append, List.length_drop]; omega)) only [L_purserref16_Great_0, t0, t3, g, cg, c0, wi, ix, d1, ↓s_len, x_lenS, ↓b_xor32, ↓b_and32, ↓b_or32, ↓u_not32, b_xor32, b_and32, b_or32, u_not32, w32ad, ↓x_conv, x_convV, ↓x_fieldAddr, x_fieldV, ↓s_nilchk, x_nilchk, Nat.zero_add, Nat.add_zero, Nat.mul_one, ↓l_loop, ↓l_succ, ↓l_normal, l_normal, l_exit, l_ret, l_iteN, ↓h_put_get, ↓h_new_get, ↓h_del_get, h_next_put, h_next_new, h_next_del, Nat.add_assoc, Nat.add_eq_left, Nat.left_eq_add, Nat.add_left_cancel_iff, ↓s_load, m_load, ↓m_load1, m_load1, ↓m_st, m_stE, m_storeI, m_storeE, w_zero, w_succ, ↓s_alloc, ↓x_idxA, ↓x_idxS, x_idxAE, x_idxSE, x_addrE, x_idx, x_lenS, ↓s_len, ↓x_buildS, x_buildE, ↓x_P0, ↓x_P1, x_fill0, x_filli, x_fills, x_fillb, c_int, List.length_cons, List.length_nil, List.cons_append, List.drop_succ_cons, List.drop_zero, List.drop_nil, List.nil_append, Int.reduceAdd, Int.reduceToNat, Int.reduceLT, Int.reduceLE, Nat.reduceAdd, Nat.reduceMul, Nat.reduceLeDiff, Int.reduceEq, Int.reduceSub, Int.cast_ofNat_Int, s_resc, s_consR, m_load4, m_store4, s_res0, ↓s_skip, ↓s_ops, ↓s_dops, ↓s_seq, ↓s_cond, ↓s_block, ↓s_exit, ↓s_ret, ↓s_scope, ↓s_nil, ↓s_op, ↓s_opg, ↓s_wanted', ↓s_wantV, s_wantV, s_wantV0, beq_true, beq_false, ↓s_bindS, s_bindS, ↓s_bindE, s_bindE, s_bindE_ret, s_bindE_exit, s_bindE_iteN, s_norm, ↓s_condV, s_condV, s_block_ret, s_block_normal, s_block_exit, s_block_iteN, ↓s_getp, ↓s_getp0, ↓s_get, s_get0, ↓s_con, ↓s_fn, ↓s_os0, ↓s_os1, ↓s_list0, ↓s_list1, ↓s_mov, ↓s_pick, ↓s_pickE, s_pickE, ↓s_bin, ↓s_un, ↓s_minmax, ↓s_call, ↓s_callv, ↓s_callV, ↓s_ext, s_same, b_eql, b_neq, b_lss, b_leq, b_gtr, b_geq, b_add, b_sub, b_mul, b_eqlb, b_neqb, b_fnil, b_fnil', b_fnil2, b_fnil2', u_neg, u_not, m_two, s_end, s_end', s_end_iteN, s_res0, s_res1, s_tup1, s_tup2, ↓iteN_true, ↓iteN_false, iteN_true, iteN_false, Nat.zero_add, List.nil_append, List.append_nil, Nat.reduceEqDiff, reduceIte, decide_true, decide_false, Bool.not_true, Bool.not_false, List.getElem?_cons_zero, List.getElem?_cons_succ, Bool.false_eq_true, if_true, if_false, beq_self_eq_true]
        exact rfl, ⟨i1, by rw [en]; exact (by (simp only [s_getp, s_getp0, Nat.reduceEqDiff, decide_false, decide_true, iteN_false, iteN_true, t0]; try rfl)), (by (simp only [s_getp, s_getp0, Nat.reduceEqDiff, decide_false, decide_true, iteN_false, iteN_true, t3]; try rfl)), rfl⟩⟩
    rcases gr_or ops with hall | ⟨j, o, h1, h2, h3⟩
    · have e0 : ops.any (fun o => decide (500 < o.l.length)) = false := List.any_eq_false.2 (fun o ho => by have := hall o ho; simp; omega)
      rw [e0, if_neg (by simp)]
      obtain ⟨T', h', r, hh⟩ := loop_go (f := evC (callX E X M) 20 M none L_purserref16_Great_0) (GrI (.slice a ops.length c ez) ops.length h) ops.length (.exit 0) (by intro h; cases h) (fun T h' => h' = h) (fun i T h' hi I => step i T h' _ (List.getElem?_eq_getElem hi) (hall _ (List.getElem_mem hi)) I) (fun T h' I => by
        obtain ⟨il, t0, t3, hh⟩ := I
        have c0 : decide ((ops.length : Int) < (ops.length : Int)) = false := decide_eq_false (by omega)
        obtain ⟨n, en⟩ : ∃ n, ops.length = n := ⟨_, rfl⟩
        rw [en] at t0 t3 c0
        refine ⟨_, _, by
          simp (config := {maxSteps := 2000000}) (disch := first | omega | (simp only [List.length_cons, List.length_nil, List.length_append, List.length_drop]; omega)) only [L_purserref16_Great_0, t0, t3, c0, ↓s_len, x_lenS, ↓b_xor32, ↓b_and32, ↓b_or32, ↓u_not32, b_xor32, b_and32, b_or32, u_not32, w32ad, ↓x_conv, x_convV, ↓x_fieldAddr, x_fieldV, ↓s_nilchk, x_nilchk, Nat.zero_add, Nat.add_zero, Nat.mul_one, ↓l_loop, ↓l_succ, ↓l_normal, l_normal, l_exit, l_ret, l_iteN, ↓h_put_get, ↓h_new_get, ↓h_del_get, h_next_put, h_next_new, h_next_del, Nat.add_assoc, Nat.add_eq_left, Nat.left_eq_add, Nat.add_left_cancel_iff, ↓s_load, m_load, ↓m_load1, m_load1, ↓m_st, m_stE, m_storeI, m_storeE, w_zero, w_succ, ↓s_alloc, ↓x_idxA, ↓x_idxS, x_idxAE, x_idxSE, x_addrE, x_idx, x_lenS, ↓s_len, ↓x_buildS, x_buildE, ↓x_P0, ↓x_P1, x_fill0, x_filli, x_fills, x_fillb, c_int, List.length_cons, List.length_nil, List.cons_append, List.drop_succ_cons, List.drop_zero, List.drop_nil, List.nil_append, Int.reduceAdd, Int.reduceToNat, Int.reduceLT, Int.reduceLE, Nat.reduceAdd, Nat.reduceMul, Nat.reduceLeDiff, Int.reduceEq, Int.reduceSub, Int.cast_ofNat_Int, s_resc, s_consR, m_load4, m_store4, s_res0, ↓s_skip, ↓s_ops, ↓s_dops, ↓s_seq, ↓s_cond, ↓s_block, ↓s_exit, ↓s_ret, ↓s_scope, ↓s_nil, ↓s_op, ↓s_opg, ↓s_wanted', ↓s_wantV, s_wantV, s_wantV0, beq_true, beq_false, ↓s_bindS, s_bindS, ↓s_bindE, s_bindE, s_bindE_ret, s_bindE_exit, s_bindE_iteN, s_norm, ↓s_condV, s_condV, s_block_ret, s_block_normal, s_block_exit, s_block_iteN, ↓s_getp, ↓s_getp0, ↓s_get, s_get0, ↓s_con, ↓s_fn, ↓s_os0, ↓s_os1, ↓s_list0, ↓s_list1, ↓s_mov, ↓s_pick, ↓s_pickE, s_pickE, ↓s_bin, ↓s_un, ↓s_minmax, ↓s_call, ↓s_callv, ↓s_callV, ↓s_ext, s_same, b_eql, b_neq, b_lss, b_leq, b_gtr, b_geq, b_add, b_sub, b_mul, b_eqlb, b_neqb, b_fnil, b_fnil', b_fnil2, b_fnil2', u_neg, u_not, m_two, s_end, s_end', s_end_iteN, s_res0, s_res1, s_tup1, s_tup2, ↓iteN_true, ↓iteN_false, iteN_true, iteN_false, Nat.zero_add, List.nil_append, List.append_nil, Nat.reduceEqDiff, reduceIte, decide_true, decide_false, Bool.not_true, Bool.not_false, List.getElem?_cons_zero, List.getElem?_cons_succ, Bool.false_eq_true, if_true, if_false, beq_self_eq_true]
          exact rfl, hh⟩) ops.length 0 (by omega) M (by omega) T h I
      rw [r, hh]
      simp (config := {maxSteps := 2000000}) (disch := first | omega | (simp only [List.length_cons, List.length_nil, List.length_append, List.length_drop]; omega)) only [R_purserref16_Great_0, ↓b_xor32, ↓b_and32, ↓b_or32, ↓u_not32, b_xor32, b_and32, b_or32, u_not32, w32ad, ↓x_conv, x_convV, ↓x_fieldAddr, x_fieldV, ↓s_nilchk, x_nilchk, Nat.zero_add, Nat.add_zero, Nat.mul_one, ↓l_loop, ↓l_succ, ↓l_normal, l_normal, l_exit, l_ret, l_iteN, ↓h_put_get, ↓h_new_get, ↓h_del_get, h_next_put, h_next_new, h_next_del, Nat.add_assoc, Nat.add_eq_left, Nat.left_eq_add, Nat.add_left_cancel_iff, ↓s_load, m_load, ↓m_load1, m_load1, ↓m_st, m_stE, m_storeI, m_storeE, w_zero, w_succ, ↓s_alloc, ↓x_idxA, ↓x_idxS, x_idxAE, x_idxSE, x_addrE, x_idx, x_lenS, ↓s_len, ↓x_buildS, x_buildE, ↓x_P0, ↓x_P1, x_fill0, x_filli, x_fills, x_fillb, c_int, List.length_cons, List.length_nil, List.cons_append, List.drop_succ_cons, List.drop_zero, List.drop_nil, List.nil_append, Int.reduceAdd, Int.reduceToNat, Int.reduceLT, Int.reduceLE, Nat.reduceAdd, Nat.reduceMul, Nat.reduceLeDiff, Int.reduceEq, Int.reduceSub, Int.cast_ofNat_Int, s_resc, s_consR, m_load4, m_store4, s_res0, ↓s_skip, ↓s_ops, ↓s_dops, ↓s_seq, ↓s_cond, ↓s_block, ↓s_exit, ↓s_ret, ↓s_scope, ↓s_nil, ↓s_op, ↓s_opg, ↓s_wanted', ↓s_wantV, s_wantV, s_wantV0, beq_true, beq_false, ↓s_bindS, s_bindS, ↓s_bindE, s_bindE, s_bindE_ret, s_bindE_exit, s_bindE_iteN, s_norm, ↓s_condV, s_condV, s_block_ret, s_block_normal, s_block_exit, s_block_iteN, ↓s_getp, ↓s_getp0, ↓s_get, s_get0, ↓s_con, ↓s_fn, ↓s_os0, ↓s_os1, ↓s_list0, ↓s_list1, ↓s_mov, ↓s_pick, ↓s_pickE, s_pickE, ↓s_bin, ↓s_un, ↓s_minmax, ↓s_call, ↓s_callv, ↓s_callV, ↓s_ext, s_same, b_eql, b_neq, b_lss, b_leq, b_gtr, b_geq, b_add, b_sub, b_mul, b_eqlb, b_neqb, b_fnil, b_fnil', b_fnil2, b_fnil2', u_neg, u_not, m_two, s_end, s_end', s_end_iteN, s_res0, s_res1, s_tup1, s_tup2, ↓iteN_true, ↓iteN_false, iteN_true, iteN_false, Nat.zero_add, List.nil_append, List.append_nil, Nat.reduceEqDiff, reduceIte, decide_true, decide_false, Bool.not_true, Bool.not_false, List.getElem?_cons_zero, List.getElem?_cons_succ, Bool.false_eq_true, if_true, if_false, beq_self_eq_true]
      try rfl
    · have e0 : ops.any (fun o => decide (500 < o.l.length)) = true := List.any_eq_true.2 ⟨o, List.mem_of_getElem? h1, by simpa using h2⟩
      rw [e0, if_pos rfl]
      have hj : j < ops.length := (List.getElem?_eq_some_iff.1 h1).1
      obtain ⟨T', h', r, t2, hh⟩ := loop_go (f := evC (callX E X M) 20 M none L_purserref16_Great_0) (GrI (.slice a ops.length c ez) ops.length h) j .ret (by intro h; cases h) (fun T h' => evO T (.t 2) = .int .i64 1 ∧ h' = h) (fun i T h' hi I => step i T h' _ (List.getElem?_eq_getElem (by omega)) (h3 i _ hi (List.getElem?_eq_getElem (by omega))) I) (fun T h' I => by
        obtain ⟨il, t0, t3, hh⟩ := I
        subst hh
        have c0 : decide ((j : Int) < (ops.length : Int)) = true := decide_eq_true (by omega)
        have ix : idx (j : Int) ops.length = some j := idxn hj
        obtain ⟨q, off, vs, md, b, cb, eb, rfl, rfl, hq, g, ld, sb, cg⟩ := rr_at row j o h1
        rw [Nat.add_assoc] at cg
        have d1 : decide ((500 : Int) < (o.l.length : Int)) = true := decide_eq_true (by omega)
        generalize o.l.length = w at *
        obtain ⟨n, en⟩ : ∃ n, ops.length = n := ⟨_, rfl⟩
        rw [en] at t0 c0 ix
        refine ⟨_, _, by
          simp (config := {maxSteps := 2000000}) (disch := first | omega | (simp only [List.length_cons, List.length_nil, List.length_append, List.length_drop]; omega)) only [L_purserref16_Great_0, t0, t3, g, cg, c0, ix, d1, ↓s_len, x_lenS, ↓b_xor32, ↓b_and32, ↓b_or32, ↓u_not32, b_xor32, b_and32, b_or32, u_not32, w32ad, ↓x_conv, x_convV, ↓x_fieldAddr, x_fieldV, ↓s_nilchk, x_nilchk, Nat.zero_add, Nat.add_zero, Nat.mul_one, ↓l_loop, ↓l_succ, ↓l_normal, l_normal, l_exit, l_ret, l_iteN, ↓h_put_get, ↓h_new_get, ↓h_del_get, h_next_put, h_next_new, h_next_del, Nat.add_assoc, Nat.add_eq_left, Nat.left_eq_add, Nat.add_left_cancel_iff, ↓s_load, m_load, ↓m_load1, m_load1, ↓m_st, m_stE, m_storeI, m_storeE, w_zero, w_succ, ↓s_alloc, ↓x_idxA, ↓x_idxS, x_idxAE, x_idxSE, x_addrE, x_idx, x_lenS, ↓s_len, ↓x_buildS, x_buildE, ↓x_P0, ↓x_P1, x_fill0, x_filli, x_fills, x_fillb, c_int, List.length_cons, List.length_nil, List.cons_append, List.drop_succ_cons, List.drop_zero, List.drop_nil, List.nil_append, Int.reduceAdd, Int.reduceToNat, Int.reduceLT, Int.reduceLE, Nat.reduceAdd, Nat.reduceMul, Nat.reduceLeDiff, Int.reduceEq, Int.reduceSub, Int.cast_ofNat_Int, s_resc, s_consR, m_load4, m_store4, s_res0, ↓s_skip, ↓s_ops, ↓s_dops, ↓s_seq, ↓s_cond, ↓s_block, ↓s_exit, ↓s_ret, ↓s_scope, ↓s_nil, ↓s_op, ↓s_opg, ↓s_wanted', ↓s_wantV, s_wantV, s_wantV0, beq_true, beq_false, ↓s_bindS, s_bindS, ↓s_bindE, s_bindE, s_bindE_ret, s_bindE_exit, s_bindE_iteN, s_norm, ↓s_condV, s_condV, s_block_ret, s_block_normal, s_block_exit, s_block_iteN, ↓s_getp, ↓s_getp0, ↓s_get, s_get0, ↓s_con, ↓s_fn, ↓s_os0, ↓s_os1, ↓s_list0, ↓s_list1, ↓s_mov, ↓s_pick, ↓s_pickE, s_pickE, ↓s_bin, ↓s_un, ↓s_minmax, ↓s_call, ↓s_callv, ↓s_callV, ↓s_ext, s_same, b_eql, b_neq, b_lss, b_leq, b_gtr, b_geq, b_add, b_sub, b_mul, b_eqlb, b_neqb, b_fnil, b_fnil', b_fnil2, b_fnil2', u_neg, u_not, m_two, s_end, s_end', s_end_iteN, s_res0, s_res1, s_tup1, s_tup2, ↓iteN_true, ↓iteN_false, iteN_true, iteN_false, Nat.zero_add, List.nil_append, List.append_nil, Nat.reduceEqDiff, reduceIte, decide_true, decide_false, Bool.not_true, Bool.not_false, List.getElem?_cons_zero, List.getElem?_cons_succ, Bool.false_eq_true, if_true, if_false, beq_self_eq_true]
          exact rfl, (by (simp only [s_getp, s_getp0, Nat.reduceEqDiff, decide_false, decide_true, iteN_false, iteN_true, t0]; try rfl)), rfl⟩) j 0 (by omega) M (by omega) T h I
      rw [r, hh]
      simp (config := {maxSteps := 2000000}) (disch := first | omega | (simp only [List.length_cons, List.length_nil, List.length_append, List.length_drop]; omega)) only [t2, ↓b_xor32, ↓b_and32, ↓b_or32, ↓u_not32, b_xor32, b_and32, b_or32, u_not32, w32ad, ↓x_conv, x_convV, ↓x_fieldAddr, x_fieldV, ↓s_nilchk, x_nilchk, Nat.zero_add, Nat.add_zero, Nat.mul_one, ↓l_loop, ↓l_succ, ↓l_normal, l_normal, l_exit, l_ret, l_iteN, ↓h_put_get, ↓h_new_get, ↓h_del_get, h_next_put, h_next_new, h_next_del, Nat.add_assoc, Nat.add_eq_left, Nat.left_eq_add, Nat.add_left_cancel_iff, ↓s_load, m_load, ↓m_load1, m_load1, ↓m_st, m_stE, m_storeI, m_storeE, w_zero, w_succ, ↓s_alloc, ↓x_idxA, ↓x_idxS, x_idxAE, x_idxSE, x_addrE, x_idx, x_lenS, ↓s_len, ↓x_buildS, x_buildE, ↓x_P0, ↓x_P1, x_fill0, x_filli, x_fills, x_fillb, c_int, List.length_cons, List.length_nil, List.cons_append, List.drop_succ_cons, List.drop_zero, List.drop_nil, List.nil_append, Int.reduceAdd, Int.reduceToNat, Int.reduceLT, Int.reduceLE, Nat.reduceAdd, Nat.reduceMul, Nat.reduceLeDiff, Int.reduceEq, Int.reduceSub, Int.cast_ofNat_Int, s_resc, s_consR, m_load4, m_store4, s_res0, ↓s_skip, ↓s_ops, ↓s_dops, ↓s_seq, ↓s_cond, ↓s_block, ↓s_exit, ↓s_ret, ↓s_scope, ↓s_nil, ↓s_op, ↓s_opg, ↓s_wanted', ↓s_wantV, s_wantV, s_wantV0, beq_true, beq_false, ↓s_bindS, s_bindS, ↓s_bindE, s_bindE, s_bindE_ret, s_bindE_exit, s_bindE_iteN, s_norm, ↓s_condV, s_condV, s_block_ret, s_block_normal, s_block_exit, s_block_iteN, ↓s_getp, ↓s_getp0, ↓s_get, s_get0, ↓s_con, ↓s_fn, ↓s_os0, ↓s_os1, ↓s_list0, ↓s_list1, ↓s_mov, ↓s_pick, ↓s_pickE, s_pickE, ↓s_bin, ↓s_un, ↓s_minmax, ↓s_call, ↓s_callv, ↓s_callV, ↓s_ext, s_same, b_eql, b_neq, b_lss, b_leq, b_gtr, b_geq, b_add, b_sub, b_mul, b_eqlb, b_neqb, b_fnil, b_fnil', b_fnil2, b_fnil2', u_neg, u_not, m_two, s_end, s_end', s_end_iteN, s_res0, s_res1, s_tup1, s_tup2, ↓iteN_true, ↓iteN_false, iteN_true, iteN_false, Nat.zero_add, List.nil_append, List.append_nil, Nat.reduceEqDiff, reduceIte, decide_true, decide_false, Bool.not_true, Bool.not_false, List.getElem?_cons_zero, List.getElem?_cons_succ, Bool.false_eq_true, if_true, if_false, beq_self_eq_true]
      try rfl
  obtain ⟨R, eR⟩ : ∃ R, R_purserref16_Great_0 = R := ⟨_, rfl⟩
  obtain ⟨Lo, eL⟩ : ∃ R, L_purserref16_Great_0 = R := ⟨_, rfl⟩
  rw [eR, eL] at fin ⊢
  simp (config := {maxSteps := 2000000}) (disch := first | omega | (simp only [List.length_cons, List.length_nil, List.length_append, List.length_drop]; omega)) only [d0, ↓s_len, x_lenS, ↓b_xor32, ↓b_and32, ↓b_or32, ↓u_not32, b_xor32, b_and32, b_or32, u_not32, w32ad, ↓x_conv, x_convV, ↓x_fieldAddr, x_fieldV, ↓s_nilchk, x_nilchk, Nat.zero_add, Nat.add_zero, Nat.mul_one, ↓l_loop, ↓l_succ, ↓l_normal, l_normal, l_exit, l_ret, l_iteN, ↓h_put_get, ↓h_new_get, ↓h_del_get, h_next_put, h_next_new, h_next_del, Nat.add_assoc, Nat.add_eq_left, Nat.left_eq_add, Nat.add_left_cancel_iff, ↓s_load, m_load, ↓m_load1, m_load1, ↓m_st, m_stE, m_storeI, m_storeE, w_zero, w_succ, ↓s_alloc, ↓x_idxA, ↓x_idxS, x_idxAE, x_idxSE, x_addrE, x_idx, x_lenS, ↓s_len, ↓x_buildS, x_buildE, ↓x_P0, ↓x_P1, x_fill0, x_filli, x_fills, x_fillb, c_int, List.length_cons, List.length_nil, List.cons_append, List.drop_succ_cons, List.drop_zero, List.drop_nil, List.nil_append, Int.reduceAdd, Int.reduceToNat, Int.reduceLT, Int.reduceLE, Nat.reduceAdd, Nat.reduceMul, Nat.reduceLeDiff, Int.reduceEq, Int.reduceSub, Int.cast_ofNat_Int, s_resc, s_consR, m_load4, m_store4, s_res0, ↓s_skip, ↓s_ops, ↓s_dops, ↓s_seq, ↓s_cond, ↓s_block, ↓s_exit, ↓s_ret, ↓s_scope, ↓s_nil, ↓s_op, ↓s_opg, ↓s_wanted', ↓s_wantV, s_wantV, s_wantV0, beq_true, beq_false, ↓s_bindS, s_bindS, ↓s_bindE, s_bindE, s_bindE_ret, s_bindE_exit, s_bindE_iteN, s_norm, ↓s_condV, s_condV, s_block_ret, s_block_normal, s_block_exit, s_block_iteN, ↓s_getp, ↓s_getp0, ↓s_get, s_get0, ↓s_con, ↓s_fn, ↓s_os0, ↓s_os1, ↓s_list0, ↓s_list1, ↓s_mov, ↓s_pick, ↓s_pickE, s_pickE, ↓s_bin, ↓s_un, ↓s_minmax, ↓s_call, ↓s_callv, ↓s_callV, ↓s_ext, s_same, b_eql, b_neq, b_lss, b_leq, b_gtr, b_geq, b_add, b_sub, b_mul, b_eqlb, b_neqb, b_fnil, b_fnil', b_fnil2, b_fnil2', u_neg, u_not, m_two, s_end, s_end', s_end_iteN, s_res0, s_res1, s_tup1, s_tup2, ↓iteN_true, ↓iteN_false, iteN_true, iteN_false, Nat.zero_add, List.nil_append, List.append_nil, Nat.reduceEqDiff, reduceIte, decide_true, decide_false, Bool.not_true, Bool.not_false, List.getElem?_cons_zero, List.getElem?_cons_succ, Bool.false_eq_true, if_true, if_false, beq_self_eq_true]
  exact fin _ ⟨by omega, (by (simp only [s_getp, s_getp0, Nat.reduceEqDiff, decide_false, decide_true, iteN_false, iteN_true, eL]; try rfl)), (by (simp only [s_getp, s_getp0, Nat.reduceEqDiff, decide_false, decide_true, iteN_false, iteN_true, eL]; try rfl)), rfl⟩
/-! bytes of records -/
theorem rB_cons (o : Rq) (r : List Rq) : rB (o :: r) = rqB o ++ rB r := by unfold rB; rw [List.map_cons, List.flatten_cons]
theorem rB_app (a b : List Rq) : rB (a ++ b) = rB a ++ rB b := by unfold rB; rw [List.map_append, List.flatten_append]
theorem rqB_byt (o : Rq) (h : rqOk o = true) (ok : o.ok) : byt (rqB o) = true := by
  unfold rqOk at h
  simp only [Bool.and_eq_true, decide_eq_true_eq] at h
  unfold rqB mkB4
  refine byt_app (byt_app (byt_iff.2 (fun y hy => ?_)) (leN_byt _ _)) (byt_app ok.bl (leN_byt _ _))
  rcases List.mem_cons.1 hy with rfl | hy
  · omega
  · exact byt_iff.1 (leN_byt 4 _) y hy
theorem rB_byt (ops : List Rq) (hv : ∀ o ∈ ops, rqOk o = true) (ok : ∀ o ∈ ops, o.ok) : byt (rB ops) = true := by
  induction ops with
  | nil => rfl
  | cons a r ih => rw [rB_cons]; exact byt_app (rqB_byt a (hv a (List.mem_cons_self ..)) (ok a (List.mem_cons_self ..))) (ih (fun o ho => hv o (List.mem_cons_of_mem _ ho)) (fun o ho => ok o (List.mem_cons_of_mem _ ho)))
theorem rB_ge (ops : List Rq) : 13 * ops.length ≤ (rB ops).length := by
  induction ops with
  | nil => exact Nat.zero_le _
  | cons a r ih => rw [rB_cons, List.length_append, rqB_len, List.length_cons]; omega
theorem rB_small (ops : List Rq) (h : ∀ o ∈ ops, ¬ 500 < o.l.length) : (rB ops).length ≤ 513 * ops.length := by
  induction ops with
  | nil => exact Nat.zero_le _
  | cons a r ih =>
    have h1 := h a (List.mem_cons_self ..)
    have h2 := ih (fun o ho => h o (List.mem_cons_of_mem _ ho))
    rw [rB_cons, List.length_append, rqB_len, List.length_cons]; omega
theorem rd_none (n : Nat) (r : List Nat) (h : dcV r = none) : rdV n r = ([], 0) := by
  cases n with
  | zero => rfl
  | succ n => rw [rd_succ, h]
/-- records that stand ahead of something that is none are read -/
theorem rd_join (ops : List Rq) (hv : ∀ o ∈ ops, rqOk o = true) (r : List Nat) (hr : dcV r = none) : ∀ n, ops.length ≤ n → rdV n (rB ops ++ r) = (ops, (rB ops).length) := by
  induction ops with
  | nil => intro n _; exact rd_none n r hr
  | cons a t ih =>
    intro n hn
    obtain ⟨n, rfl⟩ : ∃ m, n = m + 1 := ⟨n - 1, by rw [List.length_cons] at hn; omega⟩
    rw [rB_cons, List.append_assoc, rd_succ, dc_ok a (hv a (List.mem_cons_self ..)) (fun l => onV_lt 0 l)]
    simp only
    rw [List.drop_left' rfl, ih (fun o ho => hv o (List.mem_cons_of_mem _ ho)) n (by rw [List.length_cons] at hn; omega), List.length_append]
theorem dc_more (r t : List Nat) (br : byt r = true) (o : Rq) (k : Nat) (h : dcV r = some (o, k)) : dcV (r ++ t) = some (o, k) := by
  obtain ⟨f1, f2, f3, f4, f5⟩ := dc_of r br o k h
  have e : r ++ t = rqB o ++ (r.drop k ++ t) := by rw [← f3, ← List.append_assoc, List.take_append_drop]
  rw [e, dc_ok o f1 (fun l => onV_lt 0 l), rqB_len, f4]
/-- a part of a record is none -/
theorem dc_part (o : Rq) (ho : rqOk o = true) (ok : o.ok) (k : Nat) (hk : k < (rqB o).length) : dcV ((rqB o).take k) = none := by
  cases h : dcV ((rqB o).take k) with
  | none => rfl
  | some z =>
    obtain ⟨p, m⟩ := z
    have bt := byt_take (rqB_byt o ho ok) k
    have h1 := dc_more _ ((rqB o).drop k) bt p m h
    rw [List.take_append_drop] at h1
    have h2 := dc_ok o ho (fun l => onV_lt 0 l) []
    rw [List.append_nil, h1] at h2
    cases h2
    obtain ⟨_, _, _, _, f5⟩ := dc_of _ bt _ _ h
    rw [List.length_take] at f5
    omega
theorem first_not (P : Nat → Prop) [DecidablePred P] (n : Nat) (h : ¬ P n) : ∃ w, w ≤ n ∧ ¬ P w ∧ ∀ i, i < w → P i := by
  induction n with
  | zero => exact ⟨0, Nat.le_refl _, h, fun i hi => by omega⟩
  | succ n ih =>
    by_cases hn : P n
    · by_cases hall : ∀ i, i < n + 1 → P i
      · exact ⟨n + 1, Nat.le_refl _, h, hall⟩
      · have : ∃ i, i < n + 1 ∧ ¬ P i := Classical.byContradiction (fun hc => hall (fun i hi => Classical.byContradiction (fun hp => hc ⟨i, hi, hp⟩)))
        obtain ⟨i, hi, hp⟩ := this
        have : ∃ w, w ≤ i ∧ ¬ P w ∧ ∀ j, j < w → P j := by
          clear hall h ih hn
          induction i using Nat.strongRecOn with
          | ind i ih =>
            by_cases hx : ∃ j, j < i ∧ ¬ P j
            · obtain ⟨j, hj, hq⟩ := hx
              obtain ⟨w, h1, h2, h3⟩ := ih j hj (by omega) hq
              exact ⟨w, by omega, h2, h3⟩
            · exact ⟨i, Nat.le_refl _, hp, fun j hj => Classical.byContradiction (fun hq => hx ⟨j, hj, hq⟩)⟩
        obtain ⟨w, h1, h2, h3⟩ := this
        exact ⟨w, by omega, h2, h3⟩
    · obtain ⟨w, h1, h2, h3⟩ := ih hn
      exact ⟨w, by omega, h2, h3⟩
/-- the first bytes of records' -/
theorem rB_cut (ops : List Rq) (hv : ∀ o ∈ ops, rqOk o = true) (ok : ∀ o ∈ ops, o.ok) (w cut : Nat) (hw : w ≤ ops.length) (h1 : (rB (ops.take w)).length ≤ cut) (h2 : ∀ o, ops[w]? = some o → cut < (rB (ops.take (w + 1))).length) (hc : cut ≤ (rB ops).length) (n : Nat) (hn : w ≤ n) : rdV n ((rB ops).take cut) = (ops.take w, (rB (ops.take w)).length) := by
  have lw : (ops.take w).length = w := by rw [List.length_take]; omega
  have e1 : rB ops = rB (ops.take w) ++ rB (ops.drop w) := by rw [← rB_app, List.take_append_drop]
  have e2 : (rB ops).take cut = rB (ops.take w) ++ (rB (ops.drop w)).take (cut - (rB (ops.take w)).length) := by
    rw [e1, List.take_append]
    congr 1
    exact List.take_of_length_le h1
  rw [e2]
  refine rd_join _ (fun o ho => hv o (List.mem_of_mem_take ho)) _ ?_ n (by omega)
  cases ho : ops[w]? with
  | none =>
    have : ops.drop w = [] := List.drop_eq_nil_of_le (by rw [List.getElem?_eq_none_iff] at ho; exact ho)
    rw [this]; rw [show rB [] = [] from rfl, List.take_nil]; rfl
  | some o =>
    have ed : ops.drop w = o :: ops.drop (w + 1) := by
      have hlt : w < ops.length := (List.getElem?_eq_some_iff.1 ho).1
      rw [List.drop_eq_getElem_cons hlt]
      rw [List.getElem?_eq_getElem hlt] at ho; cases ho; rfl
    have h3 := h2 o ho
    rw [rB_succ ops w o ho, List.length_append] at h3
    rw [ed, rB_cons, List.take_append_of_le_length (by omega)]
    have om := List.mem_of_getElem? ho
    exact dc_part o (hv o om) (ok o om) _ (by omega)
theorem sl2_hiA (n b : Nat) (a : Option (Nat × Nat)) (k : IntKind) (hb : b ≤ n) : slcV 2 none (some (.int k (b : Int))) none (.slice a n none 2) = some (.slice a b none 2) := by
  unfold slcV
  simp only [Nat.beq_refl, Bool.true_or, _root_.cond_true, Option.getD_none, x_bnd _ _ _ _ hb, x_bnd0]
  cases a <;> simp [upA, subC]
end Go.Eng
namespace Go.Eng
open Go
variable {E : Nat → Option Fn} {X : Orc}
set_option linter.unusedSimpArgs false
set_option linter.unusedVariables false
theorem Wb.hiR {h : H} {w : List Nat} {a : Option (Nat × Nat)} {c : Option Nat} {e : Nat} (s : Wb h w a c e) (hi : Nat) (k : IntKind) (h1 : hi ≤ w.length) : ∃ c', slcV 1 none (some (.int k (hi : Int))) none (.slice a w.length c e) = some (.slice a hi c' 1) := by
  rcases s with ⟨rfl, rfl, rfl, rfl⟩ | ⟨_, q, md, rfl, rfl, rfl, _⟩
  · rw [List.length_nil] at h1
    obtain rfl : hi = 0 := by omega
    exact ⟨some 0, rfl⟩
  · exact ⟨none, slcV_hiA _ _ _ _ h1⟩
theorem RqsH.row {h : H} {a : Option (Nat × Nat)} {ops : List Rq} (r : RqsH h a ops) : RrS h ops a 2 := by
  obtain ⟨parts, al, r⟩ := r
  have pl : ∀ p ∈ parts, p.length = 2 := by
    clear r
    induction al with
    | nil => intro p hp; cases hp
    | cons h1 _ ih => intro p hp; rcases List.mem_cons.1 hp with rfl | hp
                      · obtain ⟨a, rfl, _⟩ := h1; rfl
                      · exact ih p hp
  rcases r with r | ⟨k, md, rfl, hk, g⟩
  · exact .inl r
  · refine .inr ⟨k, 0, _, md, rfl, rfl, hk, g, by rw [flat_len (k := 2) pl, al.len]; omega, fun i o ho => ?_⟩
    obtain ⟨p, hp, b, rfl, s⟩ := al.get i o ho
    exact ⟨b, none, 1, by rw [Nat.zero_add]; exact flat_get pl i _ hp, s⟩
structure WbI (ops : List Rq) (v0 v1 v8 v10 v11 v13 v14 : V) (cut : Nat) (h0 : H) (i : Nat) (T : Tr V) (h : H) : Prop where
  il : i ≤ ops.length
  t0 : evO T (.t 0) = v0
  t1 : evO T (.t 1) = v1
  t7 : evO T (.t 7) = .bool true
  t8 : evO T (.t 8) = v8
  t10 : evO T (.t 10) = v10
  t11 : evO T (.t 11) = v11
  t12 : evO T (.t 12) = .int .i64 (cut : Int)
  t13 : evO T (.t 13) = v13
  t14 : evO T (.t 14) = v14
  t15 : evO T (.t 15) = .int .i64 (i : Int)
  t16 : evO T (.t 16) = .int .i64 ((rB (ops.take i)).length : Int)
  hh : h = h0
theorem wb_round (Q : Orc) (m : Nat) (ops : List Rq) (hl : ops.length ≤ 60) (hs : ∀ o ∈ ops, ¬ 500 < o.l.length) (a : Option (Nat × Nat)) (v1 v8 v10 v11 v13 v14 : V) (cut : Nat) (h0 : H) (row : RrS h0 ops a 2) (i : Nat) (T : Tr V) (h : H) (I : WbI ops (.slice a ops.length none 2) v1 v8 v10 v11 v13 v14 cut h0 i T h) :
    (∀ o, ops[i]? = some o → (rB (ops.take (i + 1))).length ≤ cut → ∃ T' h', evC Q 124 m none L_purserlaw16_RecordBack_0 ⟨T, [], h⟩ = some (.normal, ⟨T', [], h'⟩) ∧ WbI ops (.slice a ops.length none 2) v1 v8 v10 v11 v13 v14 cut h0 (i + 1) T' h') ∧
    ((∀ o, ops[i]? = some o → cut < (rB (ops.take (i + 1))).length) → ∃ T' h', evC Q 124 m none L_purserlaw16_RecordBack_0 ⟨T, [], h⟩ = some (.exit 0, ⟨T', [], h'⟩) ∧ WbI ops (.slice a ops.length none 2) v1 v8 v10 v11 v13 v14 cut h0 i T' h') := by
  obtain ⟨il, t0, t1, t7, t8, t10, t11, t12, t13, t14, t15, t16, hh⟩ := I
  subst hh
  have lb := rB_small (ops.take i) (fun o ho => hs o (List.mem_of_mem_take ho))
  rw [List.length_take] at lb
  have one : ∀ o, ops[i]? = some o → ∃ q off vs md b cb eb, a = some (q, off) ∧ h.get q = some (.cells vs md) ∧ vs[off + (i * 2 + 1)]? = some (.slice b o.l.length cb eb) ∧ i < ops.length ∧ (rB (ops.take (i + 1))).length = (rB (ops.take i)).length + (13 + o.l.length) := fun o ho => by
    obtain ⟨q, off, vs, md, b, cb, eb, e1, e2, hq, g, ld, sb, cg⟩ := rr_at row i o ho
    exact ⟨q, off, vs, md, b, cb, eb, e1, g, by rw [← Nat.add_assoc]; exact cg, (List.getElem?_eq_some_iff.1 ho).1, by rw [rB_succ ops i o ho, List.length_append, rqB_len]⟩
  generalize hR : (rB (ops.take i)).length = r at *
  constructor
  · intro o ho hc
    obtain ⟨q, off, vs, md, b, cb, eb, rfl, g, cg, hi, e1⟩ := one o ho
    have so := hs o (List.mem_of_getElem? ho)
    rw [e1] at hc
    have c0 : decide ((i : Int) < (ops.length : Int)) = true := decide_eq_true (by omega)
    have ix : idx (i : Int) ops.length = some i := idxn hi
    have w1 : wr .i64 ((r : Int) + 13) = ((r + 13 : Nat) : Int) := by rw [wr_i64 (by omega)]; omega
    have w2 : wr .i64 (((r + 13 : Nat) : Int) + (o.l.length : Int)) = ((r + (13 + o.l.length) : Nat) : Int) := by rw [wr_i64 (by omega)]; omega
    have w3 : wr .i64 ((i : Int) + 1) = ((i + 1 : Nat) : Int) := by rw [wr_i64 (by omega)]; omega
    have d1 : decide (((r + (13 + o.l.length) : Nat) : Int) ≤ (cut : Int)) = true := decide_eq_true (by omega)
    have i1 : i + 1 ≤ ops.length := hi
    rw [← e1] at w2 d1
    obtain ⟨r2, er2⟩ : ∃ x, (rB (ops.take (i + 1))).length = x := ⟨_, rfl⟩
    rw [er2] at w2 d1
    generalize o.l.length = w at *
    obtain ⟨n, en⟩ : ∃ n, ops.length = n := ⟨_, rfl⟩
    obtain ⟨r13, er⟩ : ∃ n, r + 13 = n := ⟨_, rfl⟩
    rw [en] at t0 c0 ix
    rw [er] at w1 w2
    obtain ⟨T', r, u0, u1, u7, u8, u10, u11, u12, u13, u14, u15, u16⟩ : ∃ T', evC Q 124 m none L_purserlaw16_RecordBack_0 ⟨T, [], h⟩ = some (.normal, ⟨T', [], h⟩) ∧ evO T' (.t 0) = .slice (some (q, off)) n none 2 ∧ evO T' (.t 1) = v1 ∧ evO T' (.t 7) = .bool true ∧ evO T' (.t 8) = v8 ∧ evO T' (.t 10) = v10 ∧ evO T' (.t 11) = v11 ∧ evO T' (.t 12) = .int .i64 (cut : Int) ∧ evO T' (.t 13) = v13 ∧ evO T' (.t 14) = v14 ∧ evO T' (.t 15) = .int .i64 ((i + 1 : Nat) : Int) ∧ evO T' (.t 16) = .int .i64 (r2 : Int) := by
      exact ⟨_, by
        simp (config := {maxSteps := 2000000}) (disch := first | omega | (simp only [List.length_cons, List.length_nil, List.length_append, List.length_drop]; omega)) only [L_purserlaw16_RecordBack_0, t0, t12, t15, t16, g, cg, c0, ix, w1, w2, w3, d1, ↓s_len, x_lenS, ↓b_xor32, ↓b_and32, ↓b_or32, ↓u_not32, b_xor32, b_and32, b_or32, u_not32, w32ad, ↓x_conv, x_convV, ↓x_fieldAddr, x_fieldV, ↓s_nilchk, x_nilchk, Nat.zero_add, Nat.add_zero, Nat.mul_one, ↓l_loop, ↓l_succ, ↓l_normal, l_normal, l_exit, l_ret, l_iteN, ↓h_put_get, ↓h_new_get, ↓h_del_get, h_next_put, h_next_new, h_next_del, Nat.add_assoc, Nat.add_eq_left, Nat.left_eq_add, Nat.add_left_cancel_iff, ↓s_load, m_load, ↓m_load1, m_load1, ↓m_st, m_stE, m_storeI, m_storeE, w_zero, w_succ, ↓s_alloc, ↓x_idxA, ↓x_idxS, x_idxAE, x_idxSE, x_addrE, x_idx, x_lenS, ↓s_len, ↓x_buildS, x_buildE, ↓x_P0, ↓x_P1, x_fill0, x_filli, x_fills, x_fillb, c_int, List.length_cons, List.length_nil, List.cons_append, List.drop_succ_cons, List.drop_zero, List.drop_nil, List.nil_append, Int.reduceAdd, Int.reduceToNat, Int.reduceLT, Int.reduceLE, Nat.reduceAdd, Nat.reduceMul, Nat.reduceLeDiff, Int.reduceEq, Int.reduceSub, Int.cast_ofNat_Int, s_resc, s_consR, m_load4, m_store4, s_res0, ↓s_skip, ↓s_ops, ↓s_dops, ↓s_seq, ↓s_cond, ↓s_block, ↓s_exit, ↓s_ret, ↓s_scope, ↓s_nil, ↓s_op, ↓s_opg, ↓s_wanted', ↓s_wantV, s_wantV, s_wantV0, beq_true, beq_false, ↓s_bindS, s_bindS, ↓s_bindE, s_bindE, s_bindE_ret, s_bindE_exit, s_bindE_iteN, s_norm, ↓s_condV, s_condV, s_block_ret, s_block_normal, s_block_exit, s_block_iteN, ↓s_getp, ↓s_getp0, ↓s_get, s_get0, ↓s_con, ↓s_fn, ↓s_os0, ↓s_os1, ↓s_list0, ↓s_list1, ↓s_mov, ↓s_pick, ↓s_pickE, s_pickE, ↓s_bin, ↓s_un, ↓s_minmax, ↓s_call, ↓s_callv, ↓s_callV, ↓s_ext, s_same, b_eql, b_neq, b_lss, b_leq, b_gtr, b_geq, b_add, b_sub, b_mul, b_eqlb, b_neqb, b_fnil, b_fnil', b_fnil2, b_fnil2', u_neg, u_not, m_two, s_end, s_end', s_end_iteN, s_res0, s_res1, s_tup1, s_tup2, ↓iteN_true, ↓iteN_false, iteN_true, iteN_false, Nat.zero_add, List.nil_append, List.append_nil, Nat.reduceEqDiff, reduceIte, decide_true, decide_false, Bool.not_true, Bool.not_false, List.getElem?_cons_zero, List.getElem?_cons_succ, Bool.false_eq_true, if_true, if_false, beq_self_eq_true]
        exact rfl, (by (simp only [s_getp, s_getp0, Nat.reduceEqDiff, decide_false, decide_true, iteN_false, iteN_true, t0]; try rfl)), (by (simp only [s_getp, s_getp0, Nat.reduceEqDiff, decide_false, decide_true, iteN_false, iteN_true, t1]; try rfl)), (by (simp only [s_getp, s_getp0, Nat.reduceEqDiff, decide_false, decide_true, iteN_false, iteN_true, t7]; try rfl)), (by (simp only [s_getp, s_getp0, Nat.reduceEqDiff, decide_false, decide_true, iteN_false, iteN_true, t8]; try rfl)), (by (simp only [s_getp, s_getp0, Nat.reduceEqDiff, decide_false, decide_true, iteN_false, iteN_true, t10]; try rfl)), (by (simp only [s_getp, s_getp0, Nat.reduceEqDiff, decide_false, decide_true, iteN_false, iteN_true, t11]; try rfl)), (by (simp only [s_getp, s_getp0, Nat.reduceEqDiff, decide_false, decide_true, iteN_false, iteN_true, t12]; try rfl)), (by (simp only [s_getp, s_getp0, Nat.reduceEqDiff, decide_false, decide_true, iteN_false, iteN_true, t13]; try rfl)), (by (simp only [s_getp, s_getp0, Nat.reduceEqDiff, decide_false, decide_true, iteN_false, iteN_true, t14]; try rfl)), (by (simp only [s_getp, s_getp0, Nat.reduceEqDiff, decide_false, decide_true, iteN_false, iteN_true, t15]; try rfl)), (by (simp only [s_getp, s_getp0, Nat.reduceEqDiff, decide_false, decide_true, iteN_false, iteN_true, t16]; try rfl))⟩
    exact ⟨T', h, r, i1, by rw [en]; exact u0, u1, u7, u8, u10, u11, u12, u13, u14, u15, by rw [er2]; exact u16, rfl⟩
  · intro hc
    cases ho : ops[i]? with
    | none =>
      have hi : ops.length ≤ i := List.getElem?_eq_none_iff.1 ho
      have c0 : decide ((i : Int) < (ops.length : Int)) = false := decide_eq_false (by omega)
      obtain ⟨n, en⟩ : ∃ n, ops.length = n := ⟨_, rfl⟩
      rw [en] at t0 c0
      exact ⟨_, h, by
        simp (config := {maxSteps := 2000000}) (disch := first | omega | (simp only [List.length_cons, List.length_nil, List.length_append, List.length_drop]; omega)) only [L_purserlaw16_RecordBack_0, t0, t12, t15, t16, c0, ↓s_len, x_lenS, ↓b_xor32, ↓b_and32, ↓b_or32, ↓u_not32, b_xor32, b_and32, b_or32, u_not32, w32ad, ↓x_conv, x_convV, ↓x_fieldAddr, x_fieldV, ↓s_nilchk, x_nilchk, Nat.zero_add, Nat.add_zero, Nat.mul_one, ↓l_loop, ↓l_succ, ↓l_normal, l_normal, l_exit, l_ret, l_iteN, ↓h_put_get, ↓h_new_get, ↓h_del_get, h_next_put, h_next_new, h_next_del, Nat.add_assoc, Nat.add_eq_left, Nat.left_eq_add, Nat.add_left_cancel_iff, ↓s_load, m_load, ↓m_load1, m_load1, ↓m_st, m_stE, m_storeI, m_storeE, w_zero, w_succ, ↓s_alloc, ↓x_idxA, ↓x_idxS, x_idxAE, x_idxSE, x_addrE, x_idx, x_lenS, ↓s_len, ↓x_buildS, x_buildE, ↓x_P0, ↓x_P1, x_fill0, x_filli, x_fills, x_fillb, c_int, List.length_cons, List.length_nil, List.cons_append, List.drop_succ_cons, List.drop_zero, List.drop_nil, List.nil_append, Int.reduceAdd, Int.reduceToNat, Int.reduceLT, Int.reduceLE, Nat.reduceAdd, Nat.reduceMul, Nat.reduceLeDiff, Int.reduceEq, Int.reduceSub, Int.cast_ofNat_Int, s_resc, s_consR, m_load4, m_store4, s_res0, ↓s_skip, ↓s_ops, ↓s_dops, ↓s_seq, ↓s_cond, ↓s_block, ↓s_exit, ↓s_ret, ↓s_scope, ↓s_nil, ↓s_op, ↓s_opg, ↓s_wanted', ↓s_wantV, s_wantV, s_wantV0, beq_true, beq_false, ↓s_bindS, s_bindS, ↓s_bindE, s_bindE, s_bindE_ret, s_bindE_exit, s_bindE_iteN, s_norm, ↓s_condV, s_condV, s_block_ret, s_block_normal, s_block_exit, s_block_iteN, ↓s_getp, ↓s_getp0, ↓s_get, s_get0, ↓s_con, ↓s_fn, ↓s_os0, ↓s_os1, ↓s_list0, ↓s_list1, ↓s_mov, ↓s_pick, ↓s_pickE, s_pickE, ↓s_bin, ↓s_un, ↓s_minmax, ↓s_call, ↓s_callv, ↓s_callV, ↓s_ext, s_same, b_eql, b_neq, b_lss, b_leq, b_gtr, b_geq, b_add, b_sub, b_mul, b_eqlb, b_neqb, b_fnil, b_fnil', b_fnil2, b_fnil2', u_neg, u_not, m_two, s_end, s_end', s_end_iteN, s_res0, s_res1, s_tup1, s_tup2, ↓iteN_true, ↓iteN_false, iteN_true, iteN_false, Nat.zero_add, List.nil_append, List.append_nil, Nat.reduceEqDiff, reduceIte, decide_true, decide_false, Bool.not_true, Bool.not_false, List.getElem?_cons_zero, List.getElem?_cons_succ, Bool.false_eq_true, if_true, if_false, beq_self_eq_true]
        exact rfl, il, by rw [en]; exact (by (simp only [s_getp, s_getp0, Nat.reduceEqDiff, decide_false, decide_true, iteN_false, iteN_true, t0]; try rfl)), (by (simp only [s_getp, s_getp0, Nat.reduceEqDiff, decide_false, decide_true, iteN_false, iteN_true, t1]; try rfl)), (by (simp only [s_getp, s_getp0, Nat.reduceEqDiff, decide_false, decide_true, iteN_false, iteN_true, t7]; try rfl)), (by (simp only [s_getp, s_getp0, Nat.reduceEqDiff, decide_false, decide_true, iteN_false, iteN_true, t8]; try rfl)), (by (simp only [s_getp, s_getp0, Nat.reduceEqDiff, decide_false, decide_true, iteN_false, iteN_true, t10]; try rfl)), (by (simp only [s_getp, s_getp0, Nat.reduceEqDiff, decide_false, decide_true, iteN_false, iteN_true, t11]; try rfl)), (by (simp only [s_getp, s_getp0, Nat.reduceEqDiff, decide_false, decide_true, iteN_false, iteN_true, t12]; try rfl)), (by (simp only [s_getp, s_getp0, Nat.reduceEqDiff, decide_false, decide_true, iteN_false, iteN_true, t13]; try rfl)), (by (simp only [s_getp, s_getp0, Nat.reduceEqDiff, decide_false, decide_true, iteN_false, iteN_true, t14]; try rfl)), (by (simp only [s_getp, s_getp0, Nat.reduceEqDiff, decide_false, decide_true, iteN_false, iteN_true, t15]; try rfl)), by rw [hR]; exact (by (simp only [s_getp, s_getp0, Nat.reduceEqDiff, decide_false, decide_true, iteN_false, iteN_true, t16]; try rfl)), rfl⟩
    | some o =>
      obtain ⟨q, off, vs, md, b, cb, eb, rfl, g, cg, hi, e1⟩ := one o ho
      have so := hs o (List.mem_of_getElem? ho)
      have hc := hc o ho
      rw [e1] at hc
      have c0 : decide ((i : Int) < (ops.length : Int)) = true := decide_eq_true (by omega)
      have ix : idx (i : Int) ops.length = some i := idxn hi
      have w1 : wr .i64 ((r : Int) + 13) = ((r + 13 : Nat) : Int) := by rw [wr_i64 (by omega)]; omega
      have w2 : wr .i64 (((r + 13 : Nat) : Int) + (o.l.length : Int)) = ((r + (13 + o.l.length) : Nat) : Int) := by rw [wr_i64 (by omega)]; omega
      have d1 : decide (((r + (13 + o.l.length) : Nat) : Int) ≤ (cut : Int)) = false := decide_eq_false (by omega)
      clear hc e1
      generalize r + (13 + o.l.length) = r2 at *
      generalize o.l.length = w at *
      obtain ⟨n, en⟩ : ∃ n, ops.length = n := ⟨_, rfl⟩
      obtain ⟨r13, er⟩ : ∃ n, r + 13 = n := ⟨_, rfl⟩
      rw [en] at t0 c0 ix
      rw [er] at w1 w2
      exact ⟨_, h, by
        simp (config := {maxSteps := 2000000}) (disch := first | omega | (simp only [List.length_cons, List.length_nil, List.length_append, List.length_drop]; omega)) only [L_purserlaw16_RecordBack_0, t0, t12, t15, t16, g, cg, c0, ix, w1, w2, d1, ↓s_len, x_lenS, ↓b_xor32, ↓b_and32, ↓b_or32, ↓u_not32, b_xor32, b_and32, b_or32, u_not32, w32ad, ↓x_conv, x_convV, ↓x_fieldAddr, x_fieldV, ↓s_nilchk, x_nilchk, Nat.zero_add, Nat.add_zero, Nat.mul_one, ↓l_loop, ↓l_succ, ↓l_normal, l_normal, l_exit, l_ret, l_iteN, ↓h_put_get, ↓h_new_get, ↓h_del_get, h_next_put, h_next_new, h_next_del, Nat.add_assoc, Nat.add_eq_left, Nat.left_eq_add, Nat.add_left_cancel_iff, ↓s_load, m_load, ↓m_load1, m_load1, ↓m_st, m_stE, m_storeI, m_storeE, w_zero, w_succ, ↓s_alloc, ↓x_idxA, ↓x_idxS, x_idxAE, x_idxSE, x_addrE, x_idx, x_lenS, ↓s_len, ↓x_buildS, x_buildE, ↓x_P0, ↓x_P1, x_fill0, x_filli, x_fills, x_fillb, c_int, List.length_cons, List.length_nil, List.cons_append, List.drop_succ_cons, List.drop_zero, List.drop_nil, List.nil_append, Int.reduceAdd, Int.reduceToNat, Int.reduceLT, Int.reduceLE, Nat.reduceAdd, Nat.reduceMul, Nat.reduceLeDiff, Int.reduceEq, Int.reduceSub, Int.cast_ofNat_Int, s_resc, s_consR, m_load4, m_store4, s_res0, ↓s_skip, ↓s_ops, ↓s_dops, ↓s_seq, ↓s_cond, ↓s_block, ↓s_exit, ↓s_ret, ↓s_scope, ↓s_nil, ↓s_op, ↓s_opg, ↓s_wanted', ↓s_wantV, s_wantV, s_wantV0, beq_true, beq_false, ↓s_bindS, s_bindS, ↓s_bindE, s_bindE, s_bindE_ret, s_bindE_exit, s_bindE_iteN, s_norm, ↓s_condV, s_condV, s_block_ret, s_block_normal, s_block_exit, s_block_iteN, ↓s_getp, ↓s_getp0, ↓s_get, s_get0, ↓s_con, ↓s_fn, ↓s_os0, ↓s_os1, ↓s_list0, ↓s_list1, ↓s_mov, ↓s_pick, ↓s_pickE, s_pickE, ↓s_bin, ↓s_un, ↓s_minmax, ↓s_call, ↓s_callv, ↓s_callV, ↓s_ext, s_same, b_eql, b_neq, b_lss, b_leq, b_gtr, b_geq, b_add, b_sub, b_mul, b_eqlb, b_neqb, b_fnil, b_fnil', b_fnil2, b_fnil2', u_neg, u_not, m_two, s_end, s_end', s_end_iteN, s_res0, s_res1, s_tup1, s_tup2, ↓iteN_true, ↓iteN_false, iteN_true, iteN_false, Nat.zero_add, List.nil_append, List.append_nil, Nat.reduceEqDiff, reduceIte, decide_true, decide_false, Bool.not_true, Bool.not_false, List.getElem?_cons_zero, List.getElem?_cons_succ, Bool.false_eq_true, if_true, if_false, beq_self_eq_true]
        exact rfl, il, by rw [en]; exact (by (simp only [s_getp, s_getp0, Nat.reduceEqDiff, decide_false, decide_true, iteN_false, iteN_true, t0]; try rfl)), (by (simp only [s_getp, s_getp0, Nat.reduceEqDiff, decide_false, decide_true, iteN_false, iteN_true, t1]; try rfl)), (by (simp only [s_getp, s_getp0, Nat.reduceEqDiff, decide_false, decide_true, iteN_false, iteN_true, t7]; try rfl)), (by (simp only [s_getp, s_getp0, Nat.reduceEqDiff, decide_false, decide_true, iteN_false, iteN_true, t8]; try rfl)), (by (simp only [s_getp, s_getp0, Nat.reduceEqDiff, decide_false, decide_true, iteN_false, iteN_true, t10]; try rfl)), (by (simp only [s_getp, s_getp0, Nat.reduceEqDiff, decide_false, decide_true, iteN_false, iteN_true, t11]; try rfl)), (by (simp only [s_getp, s_getp0, Nat.reduceEqDiff, decide_false, decide_true, iteN_false, iteN_true, t12]; try rfl)), (by (simp only [s_getp, s_getp0, Nat.reduceEqDiff, decide_false, decide_true, iteN_false, iteN_true, t13]; try rfl)), (by (simp only [s_getp, s_getp0, Nat.reduceEqDiff, decide_false, decide_true, iteN_false, iteN_true, t14]; try rfl)), (by (simp only [s_getp, s_getp0, Nat.reduceEqDiff, decide_false, decide_true, iteN_false, iteN_true, t15]; try rfl)), by rw [hR]; exact (by (simp only [s_getp, s_getp0, Nat.reduceEqDiff, decide_false, decide_true, iteN_false, iteN_true, t16]; try rfl)), rfl⟩
set_option maxRecDepth 100000 in
set_option maxHeartbeats 4000000 in
theorem law_RecordBack (e : EnRd E) (es : EnSm E) (eg : E k_purserref16_Great = some f_purserref16_Great) (el : E k_purserlaw16_RecordBack = some f_purserlaw16_RecordBack) (M : Nat) (hM : 50200 < M) (ops : List Rq) (ok : ∀ o ∈ ops, o.ok) (hb : ops.length < 9223372036854775807) (ah : List Nat) (ba : byt ah = true) (x : Nat) (x1 : x < 65536) (a0 a1 : Option (Nat × Nat)) (h : H) (oh : RqsH h a0 ops) (ss : SrcH h a1 1 ah) :
    ∃ h2, callX E (alR k_purserlaw16_alive) (M + 26) (.fn k_purserlaw16_RecordBack) [.slice a0 ops.length none 2, .slice a1 ah.length none 1, .int .u16 (x : Int)] h = some (.bool true, h2) := by
  rw [x_cfn el _ _ (Nat.le_of_ble_eq_true rfl) rfl]
  have xr : NoRd (alR k_purserlaw16_alive) := al_rd
  have xs : NoSm (alR k_purserlaw16_alive) := al_sm
  have al : ∀ h, callX E (alR k_purserlaw16_alive) (M + 25) (.fn k_purserlaw16_alive) [] h = some (.bool true, h) := fun h => x_known rfl
  have row : RrS h ops a0 2 := oh.row
  have gr := great_go (X := alR k_purserlaw16_alive) eg (fun _ _ => rfl) (M + 24) (by omega) ops hb a0 none 2 h row
  have y1 : decide ((0 : Int) < 1) = true := rfl
  have y0 : decide ((0 : Int) < 0) = false := rfl
  cases hgr : grR ops with
  | true =>
    rw [hgr, if_pos rfl] at gr
    generalize ah.length = sl at *
    generalize ops.length = L at *
    simp (config := {maxSteps := 2000000}) (disch := first | omega | rfl | (simp only [ofI_len, List.length_append, List.length_take, List.length_drop, List.length_cons, List.length_nil, List.length_replicate, List.length_set]; done) | (simp only [ofI_len, List.length_append, List.length_take, List.length_drop, List.length_cons, List.length_nil, List.length_replicate, List.length_set]; omega)) only [al, gr, y1, ↓s_len, x_lenS, ↓b_xor32, ↓b_and32, ↓b_or32, ↓u_not32, b_xor32, b_and32, b_or32, u_not32, w32ad, ↓x_conv, x_convV, ↓x_fieldAddr, x_fieldV, ↓s_nilchk, x_nilchk, Nat.zero_add, Nat.add_zero, Nat.mul_one, ↓s_evD, ↓s_dnil, ↓s_dL, ↓s_dLg, ↓s_dR, ↓s_dRg, ↓s_dRj, ↓s_dRjg, ↓s_dB, ↓s_dBg, ↓s_dAlloc, ↓s_bindD, s_bindD, s_finD, s_finDx, s_addP0, s_addP1, s_addB, s_lookP, ↓s_bump0, ↓s_bump_get, s_bump_next, s_ok0, ↓s_ok1, s_okR0, ↓s_okR1, ↓s_okE, s_okE, s_okE1, s_nth0, s_nthS, Nat.add_zero, Bool.and_self, Bool.and_true, Bool.true_and, ↓l_loop, ↓l_succ, ↓l_normal, l_normal, l_exit, l_ret, l_iteN, ↓h_put_get, ↓h_new_get, ↓h_del_get, h_next_put, h_next_new, h_next_del, Nat.add_assoc, Nat.add_eq_left, Nat.left_eq_add, Nat.add_left_cancel_iff, ↓s_load, m_load, ↓m_load1, m_load1, ↓m_st, m_stE, m_storeI, m_storeE, w_zero, w_succ, ↓s_alloc, ↓x_idxA, ↓x_idxS, x_idxAE, x_idxSE, x_addrE, x_idx, x_lenS, ↓s_len, ↓x_buildS, x_buildE, ↓x_P0, ↓x_P1, x_fill0, x_filli, x_fills, x_fillb, c_int, List.length_cons, List.length_nil, List.cons_append, List.drop_succ_cons, List.drop_zero, List.drop_nil, List.nil_append, Int.reduceAdd, Int.reduceToNat, Int.reduceLT, Int.reduceLE, Nat.reduceAdd, Nat.reduceMul, Nat.reduceLeDiff, Int.reduceEq, Int.reduceSub, Int.cast_ofNat_Int, s_resc, s_consR, m_load4, m_store4, s_res0, ↓s_skip, ↓s_ops, ↓s_dops, ↓s_seq, ↓s_cond, ↓s_block, ↓s_exit, ↓s_ret, ↓s_scope, ↓s_nil, ↓s_op, ↓s_opg, ↓s_wanted', ↓s_wantV, s_wantV, s_wantV0, beq_true, beq_false, ↓s_bindS, s_bindS, ↓s_bindE, s_bindE, s_bindE_ret, s_bindE_exit, s_bindE_iteN, s_norm, ↓s_condV, s_condV, s_block_ret, s_block_normal, s_block_exit, s_block_iteN, ↓s_getp, ↓s_getp0, ↓s_get, s_get0, ↓s_con, ↓s_fn, ↓s_os0, ↓s_os1, ↓s_list0, ↓s_list1, ↓s_mov, ↓s_pick, ↓s_pickE, s_pickE, ↓s_bin, ↓s_un, ↓s_minmax, ↓s_call, ↓s_callv, ↓s_callV, ↓s_ext, s_same, b_eql, b_neq, b_lss, b_leq, b_gtr, b_geq, b_add, b_sub, b_mul, b_eqlb, b_neqb, b_fnil, b_fnil', b_fnil2, b_fnil2', u_neg, u_not, m_two, s_end, s_end', s_end_iteN, s_res0, s_res1, s_tup1, s_tup2, ↓iteN_true, ↓iteN_false, iteN_true, iteN_false, Nat.zero_add, List.nil_append, List.append_nil, Nat.reduceEqDiff, reduceIte, decide_true, decide_false, Bool.not_true, Bool.not_false, List.getElem?_cons_zero, List.getElem?_cons_succ, Bool.false_eq_true, if_true, if_false, beq_self_eq_true]
    exact ⟨_, rfl⟩
  | false =>
  rw [hgr, if_neg (by simp)] at gr
  unfold grR at hgr
  rw [Bool.or_eq_false_iff] at hgr
  have hl : ops.length ≤ 60 := by have := of_decide_eq_false hgr.1; omega
  have hs : ∀ o ∈ ops, ¬ 500 < o.l.length := fun o ho => by have := List.any_eq_false.1 hgr.2 o ho; simpa using this
  clear hgr
  by_cases ha : 50 < ah.length
  · have d0 : decide ((50 : Int) < (ah.length : Int)) = true := decide_eq_true (by omega)
    generalize ah.length = sl at *
    generalize ops.length = L at *
    simp (config := {maxSteps := 2000000}) (disch := first | omega | rfl | (simp only [ofI_len, List.length_append, List.length_take, List.length_drop, List.length_cons, List.length_nil, List.length_replicate, List.length_set]; done) | (simp only [ofI_len, List.length_append, List.length_take, List.length_drop, List.length_cons, List.length_nil, List.length_replicate, List.length_set]; omega)) only [al, gr, y0, d0, ↓s_len, x_lenS, ↓b_xor32, ↓b_and32, ↓b_or32, ↓u_not32, b_xor32, b_and32, b_or32, u_not32, w32ad, ↓x_conv, x_convV, ↓x_fieldAddr, x_fieldV, ↓s_nilchk, x_nilchk, Nat.zero_add, Nat.add_zero, Nat.mul_one, ↓s_evD, ↓s_dnil, ↓s_dL, ↓s_dLg, ↓s_dR, ↓s_dRg, ↓s_dRj, ↓s_dRjg, ↓s_dB, ↓s_dBg, ↓s_dAlloc, ↓s_bindD, s_bindD, s_finD, s_finDx, s_addP0, s_addP1, s_addB, s_lookP, ↓s_bump0, ↓s_bump_get, s_bump_next, s_ok0, ↓s_ok1, s_okR0, ↓s_okR1, ↓s_okE, s_okE, s_okE1, s_nth0, s_nthS, Nat.add_zero, Bool.and_self, Bool.and_true, Bool.true_and, ↓l_loop, ↓l_succ, ↓l_normal, l_normal, l_exit, l_ret, l_iteN, ↓h_put_get, ↓h_new_get, ↓h_del_get, h_next_put, h_next_new, h_next_del, Nat.add_assoc, Nat.add_eq_left, Nat.left_eq_add, Nat.add_left_cancel_iff, ↓s_load, m_load, ↓m_load1, m_load1, ↓m_st, m_stE, m_storeI, m_storeE, w_zero, w_succ, ↓s_alloc, ↓x_idxA, ↓x_idxS, x_idxAE, x_idxSE, x_addrE, x_idx, x_lenS, ↓s_len, ↓x_buildS, x_buildE, ↓x_P0, ↓x_P1, x_fill0, x_filli, x_fills, x_fillb, c_int, List.length_cons, List.length_nil, List.cons_append, List.drop_succ_cons, List.drop_zero, List.drop_nil, List.nil_append, Int.reduceAdd, Int.reduceToNat, Int.reduceLT, Int.reduceLE, Nat.reduceAdd, Nat.reduceMul, Nat.reduceLeDiff, Int.reduceEq, Int.reduceSub, Int.cast_ofNat_Int, s_resc, s_consR, m_load4, m_store4, s_res0, ↓s_skip, ↓s_ops, ↓s_dops, ↓s_seq, ↓s_cond, ↓s_block, ↓s_exit, ↓s_ret, ↓s_scope, ↓s_nil, ↓s_op, ↓s_opg, ↓s_wanted', ↓s_wantV, s_wantV, s_wantV0, beq_true, beq_false, ↓s_bindS, s_bindS, ↓s_bindE, s_bindE, s_bindE_ret, s_bindE_exit, s_bindE_iteN, s_norm, ↓s_condV, s_condV, s_block_ret, s_block_normal, s_block_exit, s_block_iteN, ↓s_getp, ↓s_getp0, ↓s_get, s_get0, ↓s_con, ↓s_fn, ↓s_os0, ↓s_os1, ↓s_list0, ↓s_list1, ↓s_mov, ↓s_pick, ↓s_pickE, s_pickE, ↓s_bin, ↓s_un, ↓s_minmax, ↓s_call, ↓s_callv, ↓s_callV, ↓s_ext, s_same, b_eql, b_neq, b_lss, b_leq, b_gtr, b_geq, b_add, b_sub, b_mul, b_eqlb, b_neqb, b_fnil, b_fnil', b_fnil2, b_fnil2', u_neg, u_not, m_two, s_end, s_end', s_end_iteN, s_res0, s_res1, s_tup1, s_tup2, ↓iteN_true, ↓iteN_false, iteN_true, iteN_false, Nat.zero_add, List.nil_append, List.append_nil, Nat.reduceEqDiff, reduceIte, decide_true, decide_false, Bool.not_true, Bool.not_false, List.getElem?_cons_zero, List.getElem?_cons_succ, Bool.false_eq_true, if_true, if_false, beq_self_eq_true]
    exact ⟨_, rfl⟩
  have d0 : decide ((50 : Int) < (ah.length : Int)) = false := decide_eq_false (by omega)
  have lB := rB_small ops hs
  obtain ⟨h1, a2, c2, e2, r1, nw1⟩ := encode_go e.en xr.en e.ck xr.ck e.hd xr.hd e.cm xr.cm (M + 3) (by omega) ops (by omega) ok (fun o ho => by have := hs o ho; omega) (by omega) a0 none 2 h row
  have z0 : decide ((0 : Int) = 0) = true := rfl
  have z1 : decide ((160 : Int) = 0) = false := rfl
  replace r1 : callX E (alR k_purserlaw16_alive) (M + 25) (.fn k_record_Encode) [.slice a0 ops.length none 2] h = _ := r1
  unfold enR at r1 nw1
  cases hall : ops.all rqOk with
  | false =>
    rw [hall, if_neg (by simp)] at r1
    simp only [List.length_nil] at r1
    generalize ah.length = sl at *
    generalize ops.length = L at *
    simp (config := {maxSteps := 2000000}) (disch := first | omega | rfl | (simp only [ofI_len, List.length_append, List.length_take, List.length_drop, List.length_cons, List.length_nil, List.length_replicate, List.length_set]; done) | (simp only [ofI_len, List.length_append, List.length_take, List.length_drop, List.length_cons, List.length_nil, List.length_replicate, List.length_set]; omega)) only [al, gr, y0, d0, r1, z1, ↓s_len, x_lenS, ↓b_xor32, ↓b_and32, ↓b_or32, ↓u_not32, b_xor32, b_and32, b_or32, u_not32, w32ad, ↓x_conv, x_convV, ↓x_fieldAddr, x_fieldV, ↓s_nilchk, x_nilchk, Nat.zero_add, Nat.add_zero, Nat.mul_one, ↓s_evD, ↓s_dnil, ↓s_dL, ↓s_dLg, ↓s_dR, ↓s_dRg, ↓s_dRj, ↓s_dRjg, ↓s_dB, ↓s_dBg, ↓s_dAlloc, ↓s_bindD, s_bindD, s_finD, s_finDx, s_addP0, s_addP1, s_addB, s_lookP, ↓s_bump0, ↓s_bump_get, s_bump_next, s_ok0, ↓s_ok1, s_okR0, ↓s_okR1, ↓s_okE, s_okE, s_okE1, s_nth0, s_nthS, Nat.add_zero, Bool.and_self, Bool.and_true, Bool.true_and, ↓l_loop, ↓l_succ, ↓l_normal, l_normal, l_exit, l_ret, l_iteN, ↓h_put_get, ↓h_new_get, ↓h_del_get, h_next_put, h_next_new, h_next_del, Nat.add_assoc, Nat.add_eq_left, Nat.left_eq_add, Nat.add_left_cancel_iff, ↓s_load, m_load, ↓m_load1, m_load1, ↓m_st, m_stE, m_storeI, m_storeE, w_zero, w_succ, ↓s_alloc, ↓x_idxA, ↓x_idxS, x_idxAE, x_idxSE, x_addrE, x_idx, x_lenS, ↓s_len, ↓x_buildS, x_buildE, ↓x_P0, ↓x_P1, x_fill0, x_filli, x_fills, x_fillb, c_int, List.length_cons, List.length_nil, List.cons_append, List.drop_succ_cons, List.drop_zero, List.drop_nil, List.nil_append, Int.reduceAdd, Int.reduceToNat, Int.reduceLT, Int.reduceLE, Nat.reduceAdd, Nat.reduceMul, Nat.reduceLeDiff, Int.reduceEq, Int.reduceSub, Int.cast_ofNat_Int, s_resc, s_consR, m_load4, m_store4, s_res0, ↓s_skip, ↓s_ops, ↓s_dops, ↓s_seq, ↓s_cond, ↓s_block, ↓s_exit, ↓s_ret, ↓s_scope, ↓s_nil, ↓s_op, ↓s_opg, ↓s_wanted', ↓s_wantV, s_wantV, s_wantV0, beq_true, beq_false, ↓s_bindS, s_bindS, ↓s_bindE, s_bindE, s_bindE_ret, s_bindE_exit, s_bindE_iteN, s_norm, ↓s_condV, s_condV, s_block_ret, s_block_normal, s_block_exit, s_block_iteN, ↓s_getp, ↓s_getp0, ↓s_get, s_get0, ↓s_con, ↓s_fn, ↓s_os0, ↓s_os1, ↓s_list0, ↓s_list1, ↓s_mov, ↓s_pick, ↓s_pickE, s_pickE, ↓s_bin, ↓s_un, ↓s_minmax, ↓s_call, ↓s_callv, ↓s_callV, ↓s_ext, s_same, b_eql, b_neq, b_lss, b_leq, b_gtr, b_geq, b_add, b_sub, b_mul, b_eqlb, b_neqb, b_fnil, b_fnil', b_fnil2, b_fnil2', u_neg, u_not, m_two, s_end, s_end', s_end_iteN, s_res0, s_res1, s_tup1, s_tup2, ↓iteN_true, ↓iteN_false, iteN_true, iteN_false, Nat.zero_add, List.nil_append, List.append_nil, Nat.reduceEqDiff, reduceIte, decide_true, decide_false, Bool.not_true, Bool.not_false, List.getElem?_cons_zero, List.getElem?_cons_succ, Bool.false_eq_true, if_true, if_false, beq_self_eq_true]
    exact ⟨_, rfl⟩
  | true =>
  rw [hall, if_pos rfl] at r1 nw1
  simp only at r1 nw1
  have hv := List.all_eq_true.1 hall
  have bw := rB_byt ops hv ok
  have ge := rB_ge ops
  obtain ⟨v5, h5, a6, c6, e6, h6, ap5, k5, ap6, k6, s6, cn6, ez6⟩ := app_2 h1 ah (rB ops) (by omega)
  have sc5 := ((ss.mono nw1.kp).mono (Kp.new h1 (.cells [] .rw))).cellz none
  have sc6 := ((nw1.wb.src.mono k5)).cellz c2
  obtain ⟨h7, a7, c7, e7, r7, k7, row7⟩ := all_ok e xr M (by omega) (ah ++ rB ops) (byt_app ba bw) (by rw [List.length_append]; omega) ah.length (by rw [List.length_append]; omega) a6 c6 e6 ⟨cn6, fun _ => .inl ez6⟩ h6 s6
  have jo := rd_join ops hv [] rfl
  simp only [List.append_nil] at jo
  rw [List.drop_left' rfl, jo _ (by rw [List.length_append]; omega)] at r7 row7
  simp only at r7 row7
  obtain ⟨B, eB⟩ : ∃ B, (rB ops).length = B := ⟨_, rfl⟩
  obtain ⟨cut, ecut⟩ : ∃ c, x % (B + 1) = c := ⟨_, rfl⟩
  have hcut : cut ≤ B := by have := Nat.mod_lt x (show 0 < B + 1 by omega); omega
  have wx : wr .i64 (x : Int) = (x : Int) := wr_i64 (by omega)
  have wB : wr .i64 ((B : Int) + 1) = ((B + 1 : Nat) : Int) := by rw [wr_i64 (by omega)]; omega
  have rem : ∀ (e : EqK) (h : H), binV .rem e h (.int .i64 (x : Int)) (.int .i64 ((B + 1 : Nat) : Int)) = some (.int .i64 (cut : Int)) := fun e h => by
    rw [b_rem _ _ _ _ _ (by omega), ← ecut]; rfl
  have wb7 := (nw1.wb.kp k6).kp k7
  obtain ⟨c8, sl8⟩ := wb7.hiR cut .i64 (by omega)
  have sb8 : SB ((rB ops).take cut) a2 c8 1 := ⟨fun hne => by
    rcases wb7 with ⟨q1, _⟩ | ⟨_, q, md, q2, q3, q4, _⟩
    · rw [q1] at hne; simp at hne
    · rw [q2, q3, q4, slcV_hiA _ _ _ _ (by omega)] at sl8; cases sl8; rfl, fun _ => .inl rfl⟩
  have lt8 : ((rB ops).take cut).length = cut := by rw [List.length_take]; omega
  obtain ⟨h9, a9, c9, e9, r9, k9, row9⟩ := all_ok e xr M (by omega) ((rB ops).take cut) (byt_take bw _) (by omega) 0 (by omega) a2 c8 1 sb8 h7 ((wb7.src.take cut).e1)
  obtain ⟨w, hw, nw, bw'⟩ := first_not (fun i => i < ops.length ∧ (rB (ops.take (i + 1))).length ≤ cut) ops.length (by omega)
  have hw1 : (rB (ops.take w)).length ≤ cut := by
    cases w with
    | zero => simp [rB]
    | succ w => exact (bw' w (by omega)).2
  have hw2 : ∀ o, ops[w]? = some o → cut < (rB (ops.take (w + 1))).length := fun o ho => by
    have := (List.getElem?_eq_some_iff.1 ho).1
    exact Nat.lt_of_not_le (fun hc => nw ⟨this, hc⟩)
  have lw : (ops.take w).length = w := by rw [List.length_take]; omega
  rw [List.drop_zero, rB_cut ops hv ok w cut hw hw1 hw2 (by omega) _ (by rw [lt8]; have := rB_ge (ops.take w); rw [lw] at this; omega), lt8, Nat.zero_add] at r9
  rw [List.drop_zero, rB_cut ops hv ok w cut hw hw1 hw2 (by omega) _ (by rw [lt8]; have := rB_ge (ops.take w); rw [lw] at this; omega)] at row9
  simp only at r9 row9
  rw [lw] at r9
  have k69 := k7.trans k9
  have k09 := (nw1.kp.trans k6).trans k69
  have row' := row.mono k09
  -- the loop and what follows
  have fin : ∀ T, WbI ops (.slice a0 ops.length none 2) (.slice a1 ah.length none 1) (.slice a2 B c2 e2) (.slice a7 ops.length c7 e7) (.int .i64 ((ah.length + B : Nat) : Int)) (.slice a9 w c9 e9) (.int .i64 ((rB (ops.take w)).length : Int)) cut h9 0 T h9 → ∃ h2, fnEnd [.tmp 6] (bindE (blockE 0 (loopN (evC (callX E (alR k_purserlaw16_alive) (M + 25)) 124 (M + 25) none L_purserlaw16_RecordBack_0) (M + 25) ⟨T, [], h9⟩)) (evC (callX E (alR k_purserlaw16_alive) (M + 25)) 124 (M + 25) none R_purserlaw16_RecordBack_0)) = some (.bool true, h2) := by
    intro T I
    obtain ⟨T', h', rr, J⟩ := loop_go (f := evC (callX E (alR k_purserlaw16_alive) (M + 25)) 124 (M + 25) none L_purserlaw16_RecordBack_0) (WbI ops (.slice a0 ops.length none 2) (.slice a1 ah.length none 1) (.slice a2 B c2 e2) (.slice a7 ops.length c7 e7) (.int .i64 ((ah.length + B : Nat) : Int)) (.slice a9 w c9 e9) (.int .i64 ((rB (ops.take w)).length : Int)) cut h9) w (.exit 0) (by intro h; cases h) (WbI ops (.slice a0 ops.length none 2) (.slice a1 ah.length none 1) (.slice a2 B c2 e2) (.slice a7 ops.length c7 e7) (.int .i64 ((ah.length + B : Nat) : Int)) (.slice a9 w c9 e9) (.int .i64 ((rB (ops.take w)).length : Int)) cut h9 w) (fun i T h' hi I => (wb_round _ _ ops hl hs a0 _ _ _ _ _ _ cut h9 row' i T h' I).1 _ (List.getElem?_eq_getElem (by omega)) (bw' i hi).2) (fun T h' I => (wb_round _ _ ops hl hs a0 _ _ _ _ _ _ cut h9 row' w T h' I).2 hw2) w 0 (by omega) (M + 25) (by omega) T h9 I
    rw [rr]
    obtain ⟨il, t0, t1, t7, t8, t10, t11, t12, t13, t14, t15, t16, hh⟩ := J
    subst hh
    obtain ⟨h10, r10, k10⟩ := rsame_go es xs (M + 20) ops ops (by omega) (by omega) (by omega) ok ok a7 a0 c7 none e7 2 h' ((row7.row.mono k9)) row'
    rw [decide_eq_true rfl] at r10
    replace r10 : callX E (alR k_purserlaw16_alive) (M + 25) (.fn k_record_Same) [.slice a7 ops.length c7 e7, .slice a0 ops.length none 2] h' = _ := r10
    have okw : ∀ o ∈ ops.take w, o.ok := fun o ho => ok o (List.mem_of_mem_take ho)
    obtain ⟨h11, r11, k11⟩ := rsame_go es xs (M + 20) (ops.take w) (ops.take w) (by omega) (by omega) (by omega) okw okw a9 a0 c9 none e9 2 h10 (row9.row.mono k10) ((row'.mono k10).take w)
    rw [decide_eq_true rfl, lw] at r11
    replace r11 : callX E (alR k_purserlaw16_alive) (M + 25) (.fn k_record_Same) [.slice a9 w c9 e9, .slice a0 w none 2] h10 = _ := r11
    have sl2 := sl2_hiA ops.length w a0 .i64 hw
    have w1 : wr .i64 ((ah.length : Int) + (B : Int)) = ((ah.length + B : Nat) : Int) := by rw [wr_i64 (by omega)]; omega
    have q1 : decide (((ah.length + B : Nat) : Int) = ((ah.length + B : Nat) : Int)) = true := decide_eq_true rfl
    have q2 : decide ((w : Int) = (w : Int)) = true := decide_eq_true rfl
    have q3 : decide (((rB (ops.take w)).length : Int) = ((rB (ops.take w)).length : Int)) = true := decide_eq_true rfl
    generalize (rB (ops.take w)).length = rw_ at *
    generalize ah.length + B = AB at *
    generalize ah.length = sl at *
    generalize ops.length = L at *
    simp (config := {maxSteps := 2000000}) (disch := first | omega | rfl | (simp only [ofI_len, List.length_append, List.length_take, List.length_drop, List.length_cons, List.length_nil, List.length_replicate, List.length_set]; done) | (simp only [ofI_len, List.length_append, List.length_take, List.length_drop, List.length_cons, List.length_nil, List.length_replicate, List.length_set]; omega)) only [R_purserlaw16_RecordBack_0, t0, t1, t7, t8, t10, t11, t12, t13, t14, t15, t16, r10, r11, sl2, w1, q1, q2, q3, ↓x_slcS, x_M0, x_M1, ↓s_len, x_lenS, ↓b_xor32, ↓b_and32, ↓b_or32, ↓u_not32, b_xor32, b_and32, b_or32, u_not32, w32ad, ↓x_conv, x_convV, ↓x_fieldAddr, x_fieldV, ↓s_nilchk, x_nilchk, Nat.zero_add, Nat.add_zero, Nat.mul_one, ↓s_evD, ↓s_dnil, ↓s_dL, ↓s_dLg, ↓s_dR, ↓s_dRg, ↓s_dRj, ↓s_dRjg, ↓s_dB, ↓s_dBg, ↓s_dAlloc, ↓s_bindD, s_bindD, s_finD, s_finDx, s_addP0, s_addP1, s_addB, s_lookP, ↓s_bump0, ↓s_bump_get, s_bump_next, s_ok0, ↓s_ok1, s_okR0, ↓s_okR1, ↓s_okE, s_okE, s_okE1, s_nth0, s_nthS, Nat.add_zero, Bool.and_self, Bool.and_true, Bool.true_and, ↓l_loop, ↓l_succ, ↓l_normal, l_normal, l_exit, l_ret, l_iteN, ↓h_put_get, ↓h_new_get, ↓h_del_get, h_next_put, h_next_new, h_next_del, Nat.add_assoc, Nat.add_eq_left, Nat.left_eq_add, Nat.add_left_cancel_iff, ↓s_load, m_load, ↓m_load1, m_load1, ↓m_st, m_stE, m_storeI, m_storeE, w_zero, w_succ, ↓s_alloc, ↓x_idxA, ↓x_idxS, x_idxAE, x_idxSE, x_addrE, x_idx, x_lenS, ↓s_len, ↓x_buildS, x_buildE, ↓x_P0, ↓x_P1, x_fill0, x_filli, x_fills, x_fillb, c_int, List.length_cons, List.length_nil, List.cons_append, List.drop_succ_cons, List.drop_zero, List.drop_nil, List.nil_append, Int.reduceAdd, Int.reduceToNat, Int.reduceLT, Int.reduceLE, Nat.reduceAdd, Nat.reduceMul, Nat.reduceLeDiff, Int.reduceEq, Int.reduceSub, Int.cast_ofNat_Int, s_resc, s_consR, m_load4, m_store4, s_res0, ↓s_skip, ↓s_ops, ↓s_dops, ↓s_seq, ↓s_cond, ↓s_block, ↓s_exit, ↓s_ret, ↓s_scope, ↓s_nil, ↓s_op, ↓s_opg, ↓s_wanted', ↓s_wantV, s_wantV, s_wantV0, beq_true, beq_false, ↓s_bindS, s_bindS, ↓s_bindE, s_bindE, s_bindE_ret, s_bindE_exit, s_bindE_iteN, s_norm, ↓s_condV, s_condV, s_block_ret, s_block_normal, s_block_exit, s_block_iteN, ↓s_getp, ↓s_getp0, ↓s_get, s_get0, ↓s_con, ↓s_fn, ↓s_os0, ↓s_os1, ↓s_list0, ↓s_list1, ↓s_mov, ↓s_pick, ↓s_pickE, s_pickE, ↓s_bin, ↓s_un, ↓s_minmax, ↓s_call, ↓s_callv, ↓s_callV, ↓s_ext, s_same, b_eql, b_neq, b_lss, b_leq, b_gtr, b_geq, b_add, b_sub, b_mul, b_eqlb, b_neqb, b_fnil, b_fnil', b_fnil2, b_fnil2', u_neg, u_not, m_two, s_end, s_end', s_end_iteN, s_res0, s_res1, s_tup1, s_tup2, ↓iteN_true, ↓iteN_false, iteN_true, iteN_false, Nat.zero_add, List.nil_append, List.append_nil, Nat.reduceEqDiff, reduceIte, decide_true, decide_false, Bool.not_true, Bool.not_false, List.getElem?_cons_zero, List.getElem?_cons_succ, Bool.false_eq_true, if_true, if_false, beq_self_eq_true]
    exact ⟨_, rfl⟩
  obtain ⟨R, eR⟩ : ∃ R, R_purserlaw16_RecordBack_0 = R := ⟨_, rfl⟩
  obtain ⟨Lo, eL⟩ : ∃ R, L_purserlaw16_RecordBack_0 = R := ⟨_, rfl⟩
  rw [eR, eL] at fin ⊢
  rw [eB] at r1 ap6 sc6 r7 sl8
  have eA : (ah ++ rB ops).length = ah.length + B := by rw [List.length_append, eB]
  rw [eA] at ap6 r7
  rw [show ah.length + B = ah.length + B from rfl] at r7
  have l0 : (rB (ops.take 0)).length = 0 := rfl
  generalize (rB (ops.take w)).length = rw_ at *
  generalize ah.length + B = AB at *
  generalize ah.length = sl at *
  obtain ⟨L, eLn⟩ : ∃ L, ops.length = L := ⟨_, rfl⟩
  rw [eLn] at r1 r7 gr fin ⊢
  replace r9 : callX E (alR k_purserlaw16_alive) (M + 25) (.fn k_record_All) [.slice a2 cut c8 1, .int .i64 0] h7 = _ := r9
  obtain ⟨B1, eB1⟩ : ∃ b, B + 1 = b := ⟨_, rfl⟩
  rw [eB1] at wB rem
  simp (config := {maxSteps := 2000000}) (disch := first | omega | rfl | (simp only [ofI_len, List.length_append, List.length_take, List.length_drop, List.length_cons, List.length_nil, List.length_replicate, List.length_set]; done) | (simp only [ofI_len, List.length_append, List.length_take, List.length_drop, List.length_cons, List.length_nil, List.length_replicate, List.length_set]; omega)) only [al, gr, y0, d0, r1, z0, sc5, ap5, sc6, ap6, r7, wx, wB, rem, sl8, r9, ↓s_append, ↓x_slcS, x_M0, x_M1, ↓s_len, x_lenS, ↓b_xor32, ↓b_and32, ↓b_or32, ↓u_not32, b_xor32, b_and32, b_or32, u_not32, w32ad, ↓x_conv, x_convV, ↓x_fieldAddr, x_fieldV, ↓s_nilchk, x_nilchk, Nat.zero_add, Nat.add_zero, Nat.mul_one, ↓s_evD, ↓s_dnil, ↓s_dL, ↓s_dLg, ↓s_dR, ↓s_dRg, ↓s_dRj, ↓s_dRjg, ↓s_dB, ↓s_dBg, ↓s_dAlloc, ↓s_bindD, s_bindD, s_finD, s_finDx, s_addP0, s_addP1, s_addB, s_lookP, ↓s_bump0, ↓s_bump_get, s_bump_next, s_ok0, ↓s_ok1, s_okR0, ↓s_okR1, ↓s_okE, s_okE, s_okE1, s_nth0, s_nthS, Nat.add_zero, Bool.and_self, Bool.and_true, Bool.true_and, ↓l_loop, ↓l_succ, ↓l_normal, l_normal, l_exit, l_ret, l_iteN, ↓h_put_get, ↓h_new_get, ↓h_del_get, h_next_put, h_next_new, h_next_del, Nat.add_assoc, Nat.add_eq_left, Nat.left_eq_add, Nat.add_left_cancel_iff, ↓s_load, m_load, ↓m_load1, m_load1, ↓m_st, m_stE, m_storeI, m_storeE, w_zero, w_succ, ↓s_alloc, ↓x_idxA, ↓x_idxS, x_idxAE, x_idxSE, x_addrE, x_idx, x_lenS, ↓s_len, ↓x_buildS, x_buildE, ↓x_P0, ↓x_P1, x_fill0, x_filli, x_fills, x_fillb, c_int, List.length_cons, List.length_nil, List.cons_append, List.drop_succ_cons, List.drop_zero, List.drop_nil, List.nil_append, Int.reduceAdd, Int.reduceToNat, Int.reduceLT, Int.reduceLE, Nat.reduceAdd, Nat.reduceMul, Nat.reduceLeDiff, Int.reduceEq, Int.reduceSub, Int.cast_ofNat_Int, s_resc, s_consR, m_load4, m_store4, s_res0, ↓s_skip, ↓s_ops, ↓s_dops, ↓s_seq, ↓s_cond, ↓s_block, ↓s_exit, ↓s_ret, ↓s_scope, ↓s_nil, ↓s_op, ↓s_opg, ↓s_wanted', ↓s_wantV, s_wantV, s_wantV0, beq_true, beq_false, ↓s_bindS, s_bindS, ↓s_bindE, s_bindE, s_bindE_ret, s_bindE_exit, s_bindE_iteN, s_norm, ↓s_condV, s_condV, s_block_ret, s_block_normal, s_block_exit, s_block_iteN, ↓s_getp, ↓s_getp0, ↓s_get, s_get0, ↓s_con, ↓s_fn, ↓s_os0, ↓s_os1, ↓s_list0, ↓s_list1, ↓s_mov, ↓s_pick, ↓s_pickE, s_pickE, ↓s_bin, ↓s_un, ↓s_minmax, ↓s_call, ↓s_callv, ↓s_callV, ↓s_ext, s_same, b_eql, b_neq, b_lss, b_leq, b_gtr, b_geq, b_add, b_sub, b_mul, b_eqlb, b_neqb, b_fnil, b_fnil', b_fnil2, b_fnil2', u_neg, u_not, m_two, s_end, s_end', s_end_iteN, s_res0, s_res1, s_tup1, s_tup2, ↓iteN_true, ↓iteN_false, iteN_true, iteN_false, Nat.zero_add, List.nil_append, List.append_nil, Nat.reduceEqDiff, reduceIte, decide_true, decide_false, Bool.not_true, Bool.not_false, List.getElem?_cons_zero, List.getElem?_cons_succ, Bool.false_eq_true, if_true, if_false, beq_self_eq_true]
  exact fin _ ⟨Nat.zero_le _, (by (simp only [s_getp, s_getp0, Nat.reduceEqDiff, decide_false, decide_true, iteN_false, iteN_true, l0]; try rfl)), (by (simp only [s_getp, s_getp0, Nat.reduceEqDiff, decide_false, decide_true, iteN_false, iteN_true, l0]; try rfl)), (by (simp only [s_getp, s_getp0, Nat.reduceEqDiff, decide_false, decide_true, iteN_false, iteN_true, l0]; try rfl)), (by (simp only [s_getp, s_getp0, Nat.reduceEqDiff, decide_false, decide_true, iteN_false, iteN_true, l0]; try rfl)), (by (simp only [s_getp, s_getp0, Nat.reduceEqDiff, decide_false, decide_true, iteN_false, iteN_true, l0]; try rfl)), (by (simp only [s_getp, s_getp0, Nat.reduceEqDiff, decide_false, decide_true, iteN_false, iteN_true, l0]; try rfl)), (by (simp only [s_getp, s_getp0, Nat.reduceEqDiff, decide_false, decide_true, iteN_false, iteN_true, l0]; try rfl)), (by (simp only [s_getp, s_getp0, Nat.reduceEqDiff, decide_false, decide_true, iteN_false, iteN_true, l0]; try rfl)), (by (simp only [s_getp, s_getp0, Nat.reduceEqDiff, decide_false, decide_true, iteN_false, iteN_true, l0]; try rfl)), (by (simp only [s_getp, s_getp0, Nat.reduceEqDiff, decide_false, decide_true, iteN_false, iteN_true, l0]; try rfl)), by rw [l0]; exact (by (simp only [s_getp, s_getp0, Nat.reduceEqDiff, decide_false, decide_true, iteN_false, iteN_true, eR]; try rfl)), rfl⟩
end Go.Eng
