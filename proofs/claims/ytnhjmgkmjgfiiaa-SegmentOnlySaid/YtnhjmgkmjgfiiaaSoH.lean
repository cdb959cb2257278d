/- What functions of the program come to: own work. -/
import Derived.Test.YtnhjmgkmjgfiiaaSoE
namespace Go.Eng
open Go
variable {E : Nat → Option Fn} {X : Orc}
set_option linter.unusedSimpArgs false
set_option linter.unusedVariables false
end Go.Eng
namespace Go.Eng
open Go
variable {E : Nat → Option Fn} {X : Orc}
set_option linter.unusedSimpArgs false
set_option linter.unusedVariables false
/-! nothing but groups is read -/
structure OnV (s : List Nat) (at_ num : Nat) (r : List (List Rq) × Nat) : Prop where
  lo : at_ ≤ r.2
  hi : r.2 ≤ s.length
  nw : num + r.1.length ≤ 18446744073709551616
  ok : ∀ i g, r.1[i]? = some g → sgOk (num + i) g = true
  el : ∀ g ∈ r.1, ∀ o ∈ g, o.ok ∧ o.l.length ≤ s.length
  b : (s.drop at_).take (r.2 - at_) = gsB num r.1
  no : (num + r.1.length) % 18446744073709551616 = 0 ∨ ∀ n, s.length < n → gaV ((num + r.1.length) % 18446744073709551616) n (s.drop r.2) [] = none
theorem on_of (s : List Nat) (bs : byt s = true) : ∀ (n at_ num : Nat), at_ ≤ s.length → num < 18446744073709551616 → s.length - at_ < n → OnV s at_ num (grV s n at_ num) := by
  intro n
  induction n with
  | zero => intro at_ num h1 h2 h3; omega
  | succ n ih =>
    intro at_ num hat hn hf
    rw [gr_succ]
    by_cases hz : num = 0
    · rw [if_pos hz]
      subst hz
      exact ⟨Nat.le_refl _, hat, by simp, fun i g h => by simp at h, fun g h => by simp at h, by simp [gsB], .inl rfl⟩
    rw [if_neg hz]
    cases hg : gaV num (s.length + 1) (s.drop at_) [] with
    | none =>
      rw [gaR_none hg, if_pos rfl]
      refine ⟨Nat.le_refl _, hat, by simp; omega, fun i g h => by simp at h, fun g h => by simp at h, by simp [gsB], .inr (fun n hn' => ?_)⟩
      rw [List.length_nil, Nat.add_zero, Nat.mod_eq_of_lt hn, ga_fuel num n (s.length + 1) _ _ (byt_drop bs _) (by rw [List.length_drop]; omega) (by rw [List.length_drop]; omega)]
      exact hg
    | some w =>
      obtain ⟨g, j⟩ := w
      rw [gaR_some hg, if_neg (by simp)]
      obtain ⟨g', q1, q2, q3, q4, q5, q6⟩ := ga_of num _ _ _ g j (byt_drop bs _) hg
      rw [List.nil_append] at q1
      subst q1
      rw [List.length_drop] at q5
      obtain ⟨f1, f2, f3, f4, f5, f6, f7⟩ := ih (at_ + j) ((num + 1) % 18446744073709551616) (by omega) (Nat.mod_lt _ (by omega)) (by omega)
      simp only
      generalize hr : grV s n (at_ + j) ((num + 1) % 18446744073709551616) = r at *
      have wrap : r.1 = [] ∨ num + 1 < 18446744073709551616 := by
        by_cases hw : num + 1 < 18446744073709551616
        · exact .inr hw
        · left
          have e0 : (num + 1) % 18446744073709551616 = 0 := by omega
          rw [e0] at f4
          cases hc : r.1 with
          | nil => rfl
          | cons a t =>
            have := f4 0 a (by rw [hc]; rfl)
            exact absurd (sgOk_ok this).1 (by omega)
      have so : sgOk num g = true := by
        unfold sgOk noM
        simp only [Bool.and_eq_true, decide_eq_true_eq, List.all_eq_true]
        exact ⟨⟨⟨by omega, q2⟩, fun o ho => (q3 o ho).1⟩, fun o ho => (q3 o ho).2.1⟩
      have hb : (s.drop at_).take j = sgB num g := q4
      refine ⟨by simp only; omega, f2, ?_, ?_, ?_, ?_, ?_⟩
      · simp only [List.length_cons]
        rcases wrap with w | w
        · rw [w]; simp; omega
        · rw [Nat.mod_eq_of_lt w] at f3; omega
      · intro i g' hi
        cases i with
        | zero => simp at hi; subst hi; exact so
        | succ i =>
          have hi' : r.1[i]? = some g' := by simpa using hi
          rcases wrap with w | w
          · rw [w] at hi'; simp at hi'
          · have := f4 i g' hi'
            rw [Nat.mod_eq_of_lt w] at this
            rw [show num + (i + 1) = num + 1 + i by omega]; exact this
      · intro g' hg'
        rcases List.mem_cons.1 hg' with rfl | hg'
        · exact fun o ho => ⟨(q3 o ho).2.2.1, by have := (q3 o ho).2.2.2; rw [List.length_drop] at this; omega⟩
        · exact f5 g' hg'
      · simp only
        have e1 : r.2 - at_ = j + (r.2 - (at_ + j)) := by omega
        rw [e1, List.take_add, hb, List.drop_drop, f6]
        show _ = sgB num g ++ gsB (num + 1) r.1
        rcases wrap with w | w
        · rw [w]; rfl
        · rw [Nat.mod_eq_of_lt w]
      · simp only [List.length_cons]
        have e2 : (num + (r.1.length + 1)) % 18446744073709551616 = ((num + 1) % 18446744073709551616 + r.1.length) % 18446744073709551616 := by omega
        rw [e2]; exact f7
theorem gs_small : ∀ (gs : List (List Rq)) (n i : Nat) (g : List Rq), gs[i]? = some g → (sgB (n + i) g).length + (gsB n (gs.take i)).length ≤ (gsB n gs).length := by
  intro gs n i g h
  rw [gsB_split n gs i g h, List.length_append, List.length_append]; omega
end Go.Eng
namespace Go.Eng
open Go
variable {E : Nat → Option Fn} {X : Orc}
set_option linter.unusedSimpArgs false
set_option linter.unusedVariables false
structure OnI (gs : List (List Rq)) (num : Nat) (v0 v6 v7 : V) (h0 : H) (i : Nat) (T : Tr V) (h : H) : Prop where
  il : i ≤ gs.length
  t0 : evO T (.t 0) = v0
  t1 : evO T (.t 1) = .int .u64 (num : Int)
  t5 : evO T (.t 5) = .bool true
  t6 : evO T (.t 6) = v6
  t7 : evO T (.t 7) = v7
  t30 : evO T (.t 30) = .int .i64 (gs.length : Int)
  t31 : evO T (.t 31) = .int .i64 (i : Int)
  st : ∃ a c e, evO T (.t 8) = .slice a (gsB num (gs.take i)).length c e ∧ Nw h0 h (gsB num (gs.take i)) a c e
theorem on_step (e : EnSg E) (x : NoSg X) (M : Nat) (hM : 1000000 < M) (m : Nat) (gs : List (List Rq)) (num : Nat) (hn : num + gs.length ≤ 18446744073709551616) (hB : (gsB num gs).length ≤ 20000) (ok : ∀ g ∈ gs, ∀ o ∈ g, o.ok ∧ o.l.length ≤ 20000) (hok : ∀ i g, gs[i]? = some g → sgOk (num + i) g = true) (am : Option (Nat × Nat)) (cm_ : Option Nat) (em : Nat) (v0 v7 : V) (h0 : H) (K : Nat → Prop) (row : GsK K h0 gs am em) (i : Nat) (hi : i < gs.length) (T : Tr V) (h : H) (I : OnI gs num v0 (.slice am gs.length cm_ em) v7 h0 i T h) :
    ∃ T' h', evC (callX E X (M + 26)) 87 m none L_purserlaw17_SegmentOnly_0 ⟨T, [], h⟩ = some (.normal, ⟨T', [], h'⟩) ∧ OnI gs num v0 (.slice am gs.length cm_ em) v7 h0 (i + 1) T' h' := by
  obtain ⟨_, t0, t1, t5, t6, t7, t30, t31, ⟨a, c, eo, t8, nw⟩⟩ := I
  have hg : gs[i]? = some gs[i] := List.getElem?_eq_getElem hi
  have gm := List.mem_of_getElem? hg
  have sok := hok i _ hg
  have okg := ok _ gm
  have oa := gsB_succ num gs i _ hg
  have os := gs_small gs num i _ hg
  have ge := gsB_ge gs num
  obtain ⟨q, off, vs, md, b, cb, eb, rfl, rfl, hq, gq0, cg, rg, _⟩ := gs_at (row.kp nw.kp) i _ hg
  generalize gs[i] = g at *
  have sg := sgB_ge (num + i) g
  have sl := sgB_len (num + i) g
  have c0 : decide ((i : Int) < (gs.length : Int)) = true := decide_eq_true (by omega)
  have wi : wr .i64 ((i : Int) + 1) = ((i + 1 : Nat) : Int) := by rw [wr_i64 (by omega)]; omega
  have wu : wr .u64 (i : Int) = (i : Int) := u64n _ (by omega)
  have wn : wr .u64 ((num : Int) + (i : Int)) = ((num + i : Nat) : Int) := by rw [wr_u64 (by omega)]; omega
  have ix : idx (i : Int) gs.length = some i := idxn hi
  obtain ⟨h1, a2, c2, e2, r1, nw1⟩ := segenc_go e x (M + 3) (by omega) (num + i) (by omega) g (by omega) (fun o ho => (okg o ho).1) (fun o ho => by have := (okg o ho).2; omega) (by omega) b cb eb h rg.row
  unfold sgR at r1 nw1
  rw [if_pos sok] at r1 nw1
  simp only at r1 nw1
  replace r1 : callX E X (M + 26) (.fn k_segment_Encode) [.int .u64 ((num + i : Nat) : Int), .slice b g.length cb eb] h = some (.tup [.slice a2 (sgB (num + i) g).length c2 e2, .int .i64 0], h1) := r1
  have i1 : i + 1 ≤ gs.length := hi
  have z0 : decide ((0 : Int) = 0) = true := rfl
  obtain ⟨n, en⟩ : ∃ n, gs.length = n := ⟨_, rfl⟩
  obtain ⟨a3, c3, e3, h2, ap, nw2, n2, f2, o2⟩ := (nw.more nw1.kp).ap (sgB (num + i) g) (by omega)
  have sc := nw1.wb.src.cellz c2
  rw [← oa] at ap nw2
  obtain ⟨O1, eO1⟩ : ∃ O, (gsB num (gs.take (i + 1))).length = O := ⟨_, rfl⟩
  rw [eO1] at ap
  obtain ⟨nn, enn⟩ : ∃ n, num + i = n := ⟨_, rfl⟩
  rw [enn] at wn r1 sc ap
  obtain ⟨gl, egl⟩ : ∃ n, g.length = n := ⟨_, rfl⟩
  rw [egl] at cg r1
  obtain ⟨BL, eBL⟩ : ∃ n, (sgB nn g).length = n := ⟨_, rfl⟩
  obtain ⟨CB, eCB⟩ : ∃ n, ofI .u8 (sgB nn g) = n := ⟨_, rfl⟩
  rw [eBL] at r1 sc ap
  rw [eCB] at sc ap
  obtain ⟨OL, eOL⟩ : ∃ n, (gsB num (gs.take i)).length = n := ⟨_, rfl⟩
  rw [eOL] at t8 ap
  rw [en] at t6 t30 c0 ix
  obtain ⟨T', r, u0, u1, u5, u6, u7, u30, u31, u8⟩ : ∃ T', evC (callX E X (M + 26)) 87 m none L_purserlaw17_SegmentOnly_0 ⟨T, [], h⟩ = some (.normal, ⟨T', [], h2⟩) ∧ evO T' (.t 0) = v0 ∧ evO T' (.t 1) = .int .u64 (num : Int) ∧ evO T' (.t 5) = .bool true ∧ evO T' (.t 6) = .slice (some (q, off)) n cm_ 1 ∧ evO T' (.t 7) = v7 ∧ evO T' (.t 30) = .int .i64 (n : Int) ∧ evO T' (.t 31) = .int .i64 ((i + 1 : Nat) : Int) ∧ evO T' (.t 8) = .slice a3 O1 c3 e3 := by
    exact ⟨_, by
      simp (config := {maxSteps := 2000000}) (disch := first | omega | (simp only [List.length_cons, List.length_nil, List.length_append, List.length_drop]; omega)) only [L_purserlaw17_SegmentOnly_0, t1, t5, t6, t30, t31, t8, gq0, cg, c0, wi, ix, wu, wn, r1, z0, sc, ap, ↓s_append, ↓s_len, x_lenS, ↓b_xor32, ↓b_and32, ↓b_or32, ↓u_not32, b_xor32, b_and32, b_or32, u_not32, w32ad, ↓x_conv, x_convV, ↓x_fieldAddr, x_fieldV, ↓s_nilchk, x_nilchk, Nat.zero_add, Nat.add_zero, Nat.mul_one, ↓s_evD, ↓s_dnil, ↓s_dL, ↓s_dLg, ↓s_dR, ↓s_dRg, ↓s_dRj, ↓s_dRjg, ↓s_dB, ↓s_dBg, ↓s_dAlloc, ↓s_bindD, s_bindD, s_finD, s_finDx, s_addP0, s_addP1, s_addB, s_lookP, ↓s_bump0, ↓s_bump_get, s_bump_next, s_ok0, ↓s_ok1, s_okR0, ↓s_okR1, ↓s_okE, s_okE, s_okE1, s_nth0, s_nthS, Nat.add_zero, Bool.and_self, Bool.and_true, Bool.true_and, ↓l_loop, ↓l_succ, ↓l_normal, l_normal, l_exit, l_ret, l_iteN, ↓h_put_get, ↓h_new_get, ↓h_del_get, h_next_put, h_next_new, h_next_del, Nat.add_assoc, Nat.add_eq_left, Nat.left_eq_add, Nat.add_left_cancel_iff, ↓s_load, m_load, ↓m_load1, m_load1, ↓m_st, m_stE, m_storeI, m_storeE, w_zero, w_succ, ↓s_alloc, ↓x_idxA, ↓x_idxS, x_idxAE, x_idxSE, x_addrE, x_idx, x_lenS, ↓s_len, ↓x_buildS, x_buildE, ↓x_P0, ↓x_P1, x_fill0, x_filli, x_fills, x_fillb, c_int, List.length_cons, List.length_nil, List.cons_append, List.drop_succ_cons, List.drop_zero, List.drop_nil, List.nil_append, Int.reduceAdd, Int.reduceToNat, Int.reduceLT, Int.reduceLE, Nat.reduceAdd, Nat.reduceMul, Nat.reduceLeDiff, Int.reduceEq, Int.reduceSub, Int.cast_ofNat_Int, s_resc, s_consR, m_load4, m_store4, s_res0, ↓s_skip, ↓s_ops, ↓s_dops, ↓s_seq, ↓s_cond, ↓s_block, ↓s_exit, ↓s_ret, ↓s_scope, ↓s_nil, ↓s_op, ↓s_opg, ↓s_wanted', ↓s_wantV, s_wantV, s_wantV0, beq_true, beq_false, ↓s_bindS, s_bindS, ↓s_bindE, s_bindE, s_bindE_ret, s_bindE_exit, s_bindE_iteN, s_norm, ↓s_condV, s_condV, s_block_ret, s_block_normal, s_block_exit, s_block_iteN, ↓s_getp, ↓s_getp0, ↓s_get, s_get0, ↓s_con, ↓s_fn, ↓s_os0, ↓s_os1, ↓s_list0, ↓s_list1, ↓s_mov, ↓s_pick, ↓s_pickE, s_pickE, ↓s_bin, ↓s_un, ↓s_minmax, ↓s_call, ↓s_callv, ↓s_callV, ↓s_ext, s_same, b_eql, b_neq, b_lss, b_leq, b_gtr, b_geq, b_add, b_sub, b_mul, b_eqlb, b_neqb, b_fnil, b_fnil', b_fnil2, b_fnil2', u_neg, u_not, m_two, s_end, s_end', s_end_iteN, s_res0, s_res1, s_tup1, s_tup2, ↓iteN_true, ↓iteN_false, iteN_true, iteN_false, Nat.zero_add, List.nil_append, List.append_nil, Nat.reduceEqDiff, reduceIte, decide_true, decide_false, Bool.not_true, Bool.not_false, List.getElem?_cons_zero, List.getElem?_cons_succ, Bool.false_eq_true, if_true, if_false, beq_self_eq_true]
      exact rfl, (by (simp only [s_getp, s_getp0, Nat.reduceEqDiff, decide_false, decide_true, iteN_false, iteN_true, t0]; try rfl)), (by (simp only [s_getp, s_getp0, Nat.reduceEqDiff, decide_false, decide_true, iteN_false, iteN_true, t1]; try rfl)), (by (simp only [s_getp, s_getp0, Nat.reduceEqDiff, decide_false, decide_true, iteN_false, iteN_true, t5]; try rfl)), (by (simp only [s_getp, s_getp0, Nat.reduceEqDiff, decide_false, decide_true, iteN_false, iteN_true, t6]; try rfl)), (by (simp only [s_getp, s_getp0, Nat.reduceEqDiff, decide_false, decide_true, iteN_false, iteN_true, t7]; try rfl)), (by (simp only [s_getp, s_getp0, Nat.reduceEqDiff, decide_false, decide_true, iteN_false, iteN_true, t30]; try rfl)), (by (simp only [s_getp, s_getp0, Nat.reduceEqDiff, decide_false, decide_true, iteN_false, iteN_true, t31]; try rfl)), (by (simp only [s_getp, s_getp0, Nat.reduceEqDiff, decide_false, decide_true, iteN_false, iteN_true, t8]; try rfl))⟩
  exact ⟨T', h2, r, i1, u0, u1, u5, by rw [en]; exact u6, u7, by rw [en]; exact u30, u31, a3, c3, e3, by rw [eO1]; exact u8, nw2⟩
set_option maxRecDepth 100000 in
set_option maxHeartbeats 4000000 in
theorem law_SegmentOnly (e : EnSg E) (el : E k_purserlaw17_SegmentOnly = some f_purserlaw17_SegmentOnly) (M : Nat) (hM : 1000000 < M) (s : List Nat) (bs : byt s = true) (num : Nat) (hnum : num < 18446744073709551616) (a0 : Option (Nat × Nat)) (h : H) (ss : SrcH h a0 1 s) :
    ∃ h2, callX E (alR k_purserlaw17_alive) (M + 27) (.fn k_purserlaw17_SegmentOnly) [.slice a0 s.length none 1, .int .u64 (num : Int)] h = some (.bool true, h2) := by
  rw [x_cfn el _ _ (Nat.le_of_ble_eq_true rfl) rfl]
  have xs : NoSg (alR k_purserlaw17_alive) := al_sg
  have al : ∀ h, callX E (alR k_purserlaw17_alive) (M + 26) (.fn k_purserlaw17_alive) [] h = some (.bool true, h) := fun h => x_known rfl
  by_cases hs : 20000 < s.length
  · have d0 : decide ((20000 : Int) < (s.length : Int)) = true := decide_eq_true (by omega)
    generalize s.length = sl at *
    simp (config := {maxSteps := 2000000}) (disch := first | omega | rfl | (simp only [ofI_len, List.length_append, List.length_take, List.length_drop, List.length_cons, List.length_nil, List.length_replicate, List.length_set]; done) | (simp only [ofI_len, List.length_append, List.length_take, List.length_drop, List.length_cons, List.length_nil, List.length_replicate, List.length_set]; omega)) only [al, d0, ↓s_len, x_lenS, ↓b_xor32, ↓b_and32, ↓b_or32, ↓u_not32, b_xor32, b_and32, b_or32, u_not32, w32ad, ↓x_conv, x_convV, ↓x_fieldAddr, x_fieldV, ↓s_nilchk, x_nilchk, Nat.zero_add, Nat.add_zero, Nat.mul_one, ↓s_evD, ↓s_dnil, ↓s_dL, ↓s_dLg, ↓s_dR, ↓s_dRg, ↓s_dRj, ↓s_dRjg, ↓s_dB, ↓s_dBg, ↓s_dAlloc, ↓s_bindD, s_bindD, s_finD, s_finDx, s_addP0, s_addP1, s_addB, s_lookP, ↓s_bump0, ↓s_bump_get, s_bump_next, s_ok0, ↓s_ok1, s_okR0, ↓s_okR1, ↓s_okE, s_okE, s_okE1, s_nth0, s_nthS, Nat.add_zero, Bool.and_self, Bool.and_true, Bool.true_and, ↓l_loop, ↓l_succ, ↓l_normal, l_normal, l_exit, l_ret, l_iteN, ↓h_put_get, ↓h_new_get, ↓h_del_get, h_next_put, h_next_new, h_next_del, Nat.add_assoc, Nat.add_eq_left, Nat.left_eq_add, Nat.add_left_cancel_iff, ↓s_load, m_load, ↓m_load1, m_load1, ↓m_st, m_stE, m_storeI, m_storeE, w_zero, w_succ, ↓s_alloc, ↓x_idxA, ↓x_idxS, x_idxAE, x_idxSE, x_addrE, x_idx, x_lenS, ↓s_len, ↓x_buildS, x_buildE, ↓x_P0, ↓x_P1, x_fill0, x_filli, x_fills, x_fillb, c_int, List.length_cons, List.length_nil, List.cons_append, List.drop_succ_cons, List.drop_zero, List.drop_nil, List.nil_append, Int.reduceAdd, Int.reduceToNat, Int.reduceLT, Int.reduceLE, Nat.reduceAdd, Nat.reduceMul, Nat.reduceLeDiff, Int.reduceEq, Int.reduceSub, Int.cast_ofNat_Int, s_resc, s_consR, m_load4, m_store4, s_res0, ↓s_skip, ↓s_ops, ↓s_dops, ↓s_seq, ↓s_cond, ↓s_block, ↓s_exit, ↓s_ret, ↓s_scope, ↓s_nil, ↓s_op, ↓s_opg, ↓s_wanted', ↓s_wantV, s_wantV, s_wantV0, beq_true, beq_false, ↓s_bindS, s_bindS, ↓s_bindE, s_bindE, s_bindE_ret, s_bindE_exit, s_bindE_iteN, s_norm, ↓s_condV, s_condV, s_block_ret, s_block_normal, s_block_exit, s_block_iteN, ↓s_getp, ↓s_getp0, ↓s_get, s_get0, ↓s_con, ↓s_fn, ↓s_os0, ↓s_os1, ↓s_list0, ↓s_list1, ↓s_mov, ↓s_pick, ↓s_pickE, s_pickE, ↓s_bin, ↓s_un, ↓s_minmax, ↓s_call, ↓s_callv, ↓s_callV, ↓s_ext, s_same, b_eql, b_neq, b_lss, b_leq, b_gtr, b_geq, b_add, b_sub, b_mul, b_eqlb, b_neqb, b_fnil, b_fnil', b_fnil2, b_fnil2', u_neg, u_not, m_two, s_end, s_end', s_end_iteN, s_res0, s_res1, s_tup1, s_tup2, ↓iteN_true, ↓iteN_false, iteN_true, iteN_false, Nat.zero_add, List.nil_append, List.append_nil, Nat.reduceEqDiff, reduceIte, decide_true, decide_false, Bool.not_true, Bool.not_false, List.getElem?_cons_zero, List.getElem?_cons_succ, Bool.false_eq_true, if_true, if_false, beq_self_eq_true]
    exact ⟨_, rfl⟩
  have d0 : decide ((20000 : Int) < (s.length : Int)) = false := decide_eq_false (by omega)
  obtain ⟨h1, ar, cr, er, r1, k1, row⟩ := segread_go e xs M hM s bs (by omega) num hnum a0 none 1 (SB.one _ _) h ss
  have on := on_of s bs (s.length + 1) 0 num (Nat.zero_le _) hnum (by omega)
  unfold srR at r1 row
  generalize grV s (s.length + 1) 0 num = W at *
  obtain ⟨gs, en_⟩ := W
  obtain ⟨_, f2, f3, f4, f5, f6, f7⟩ := on
  simp only at r1 row f2 f3 f4 f5 f6 f7
  rw [List.drop_zero, Nat.sub_zero] at f6
  have lb : (gsB num gs).length = en_ := by rw [← f6, List.length_take]; omega
  have hB : (gsB num gs).length ≤ 20000 := by omega
  have fin : ∀ T, OnI gs num (.slice a0 s.length none 1) (.slice ar gs.length cr er) (.int .i64 (en_ : Int)) h1 0 T h1 → ∃ h2, fnEnd [.tmp 4] (bindE (blockE 0 (loopN (evC (callX E (alR k_purserlaw17_alive) (M + 26)) 87 (M + 26) none L_purserlaw17_SegmentOnly_0) (M + 26) ⟨T, [], h1⟩)) (evC (callX E (alR k_purserlaw17_alive) (M + 26)) 87 (M + 26) none R_purserlaw17_SegmentOnly_0)) = some (.bool true, h2) := by
    intro T I
    have ge := gsB_ge gs num
    obtain ⟨T', h', rr, J⟩ := loop_go (f := evC (callX E (alR k_purserlaw17_alive) (M + 26)) 87 (M + 26) none L_purserlaw17_SegmentOnly_0) (OnI gs num (.slice a0 s.length none 1) (.slice ar gs.length cr er) (.int .i64 (en_ : Int)) h1) gs.length (.exit 0) (by intro h; cases h) (OnI gs num (.slice a0 s.length none 1) (.slice ar gs.length cr er) (.int .i64 (en_ : Int)) h1 gs.length) (fun i T h' hi I => on_step e xs M hM _ gs num f3 hB (fun g hg o ho => ⟨(f5 g hg o ho).1, by have := (f5 g hg o ho).2; omega⟩) f4 ar cr er _ _ h1 _ row.gs i hi T h' I) (fun T h' I => by
      obtain ⟨il, t0, t1, t5, t6, t7, t30, t31, ⟨a, c, eo, t8, nw⟩⟩ := I
      have c0 : decide ((gs.length : Int) < (gs.length : Int)) = false := decide_eq_false (by omega)
      obtain ⟨O, eO⟩ : ∃ O, (gsB num (gs.take gs.length)).length = O := ⟨_, rfl⟩
      rw [eO] at t8
      obtain ⟨n, en⟩ : ∃ n, gs.length = n := ⟨_, rfl⟩
      rw [en] at t6 t30 t31 c0
      exact ⟨_, h', by
        simp (config := {maxSteps := 2000000}) (disch := first | omega | (simp only [List.length_cons, List.length_nil, List.length_append, List.length_drop]; omega)) only [L_purserlaw17_SegmentOnly_0, t30, t31, c0, ↓s_len, x_lenS, ↓b_xor32, ↓b_and32, ↓b_or32, ↓u_not32, b_xor32, b_and32, b_or32, u_not32, w32ad, ↓x_conv, x_convV, ↓x_fieldAddr, x_fieldV, ↓s_nilchk, x_nilchk, Nat.zero_add, Nat.add_zero, Nat.mul_one, ↓l_loop, ↓l_succ, ↓l_normal, l_normal, l_exit, l_ret, l_iteN, ↓h_put_get, ↓h_new_get, ↓h_del_get, h_next_put, h_next_new, h_next_del, Nat.add_assoc, Nat.add_eq_left, Nat.left_eq_add, Nat.add_left_cancel_iff, ↓s_load, m_load, ↓m_load1, m_load1, ↓m_st, m_stE, m_storeI, m_storeE, w_zero, w_succ, ↓s_alloc, ↓x_idxA, ↓x_idxS, x_idxAE, x_idxSE, x_addrE, x_idx, x_lenS, ↓s_len, ↓x_buildS, x_buildE, ↓x_P0, ↓x_P1, x_fill0, x_filli, x_fills, x_fillb, c_int, List.length_cons, List.length_nil, List.cons_append, List.drop_succ_cons, List.drop_zero, List.drop_nil, List.nil_append, Int.reduceAdd, Int.reduceToNat, Int.reduceLT, Int.reduceLE, Nat.reduceAdd, Nat.reduceMul, Nat.reduceLeDiff, Int.reduceEq, Int.reduceSub, Int.cast_ofNat_Int, s_resc, s_consR, m_load4, m_store4, s_res0, ↓s_skip, ↓s_ops, ↓s_dops, ↓s_seq, ↓s_cond, ↓s_block, ↓s_exit, ↓s_ret, ↓s_scope, ↓s_nil, ↓s_op, ↓s_opg, ↓s_wanted', ↓s_wantV, s_wantV, s_wantV0, beq_true, beq_false, ↓s_bindS, s_bindS, ↓s_bindE, s_bindE, s_bindE_ret, s_bindE_exit, s_bindE_iteN, s_norm, ↓s_condV, s_condV, s_block_ret, s_block_normal, s_block_exit, s_block_iteN, ↓s_getp, ↓s_getp0, ↓s_get, s_get0, ↓s_con, ↓s_fn, ↓s_os0, ↓s_os1, ↓s_list0, ↓s_list1, ↓s_mov, ↓s_pick, ↓s_pickE, s_pickE, ↓s_bin, ↓s_un, ↓s_minmax, ↓s_call, ↓s_callv, ↓s_callV, ↓s_ext, s_same, b_eql, b_neq, b_lss, b_leq, b_gtr, b_geq, b_add, b_sub, b_mul, b_eqlb, b_neqb, b_fnil, b_fnil', b_fnil2, b_fnil2', u_neg, u_not, m_two, s_end, s_end', s_end_iteN, s_res0, s_res1, s_tup1, s_tup2, ↓iteN_true, ↓iteN_false, iteN_true, iteN_false, Nat.zero_add, List.nil_append, List.append_nil, Nat.reduceEqDiff, reduceIte, decide_true, decide_false, Bool.not_true, Bool.not_false, List.getElem?_cons_zero, List.getElem?_cons_succ, Bool.false_eq_true, if_true, if_false, beq_self_eq_true]
        exact rfl, ⟨il, (by (simp only [s_getp, s_getp0, Nat.reduceEqDiff, decide_false, decide_true, iteN_false, iteN_true, t0]; try rfl)), (by (simp only [s_getp, s_getp0, Nat.reduceEqDiff, decide_false, decide_true, iteN_false, iteN_true, t1]; try rfl)), (by (simp only [s_getp, s_getp0, Nat.reduceEqDiff, decide_false, decide_true, iteN_false, iteN_true, t5]; try rfl)), by rw [en]; exact (by (simp only [s_getp, s_getp0, Nat.reduceEqDiff, decide_false, decide_true, iteN_false, iteN_true, t6]; try rfl)), (by (simp only [s_getp, s_getp0, Nat.reduceEqDiff, decide_false, decide_true, iteN_false, iteN_true, t7]; try rfl)), by rw [en]; exact (by (simp only [s_getp, s_getp0, Nat.reduceEqDiff, decide_false, decide_true, iteN_false, iteN_true, t30]; try rfl)), by rw [en]; exact (by (simp only [s_getp, s_getp0, Nat.reduceEqDiff, decide_false, decide_true, iteN_false, iteN_true, t31]; try rfl)), ⟨a, c, eo, by rw [eO]; exact (by (simp only [s_getp, s_getp0, Nat.reduceEqDiff, decide_false, decide_true, iteN_false, iteN_true, t8]; try rfl)), nw⟩⟩⟩) gs.length 0 (by omega) (M + 26) (by omega) T h1 I
    rw [rr]
    obtain ⟨il, t0, t1, t5, t6, t7, t30, t31, ⟨a, c, eo, t8, nw⟩⟩ := J
    rw [List.take_length] at t8 nw
    have sr1 := ss.mono (k1.trans nw.kp)
    have srd := sr1.drop en_
    have ld : (s.drop en_).length = s.length - en_ := List.length_drop ..
    obtain ⟨h2, a2, c2, e2, r2, k2, row2⟩ := segread_go e xs M hM (s.drop en_) (byt_drop bs _) (by omega) ((num + gs.length) % 18446744073709551616) (Nat.mod_lt _ (by omega)) (upA a0 en_) none 1 (SB.one _ _) h' srd
    have e0 : srR (s.drop en_) ((num + gs.length) % 18446744073709551616) = ([], 0) := by
      unfold srR
      rw [gr_succ]
      rcases f7 with f7 | f7
      · rw [if_pos f7]
      · by_cases hz : (num + gs.length) % 18446744073709551616 = 0
        · rw [if_pos hz]
        rw [if_neg hz, gaR_none, if_pos rfl]
        rw [List.drop_zero, ga_fuel _ _ (s.length + 1) _ _ (byt_drop bs _) (by omega) (by omega)]
        exact f7 _ (by omega)
    rw [e0, ld] at r2
    simp only [List.length_nil] at r2
    replace r2 : callX E (alR k_purserlaw17_alive) (M + 26) (.fn k_segment_Read) [.slice (upA a0 en_) (s.length - en_) none 1, .int .u64 (((num + gs.length) % 18446744073709551616 : Nat) : Int)] h' = some (.tup [.slice a2 0 c2 e2, .int .i64 0], h2) := r2
    have wu : wr .u64 (gs.length : Int) = (gs.length : Int) := u64n _ (by omega)
    have wn : wr .u64 ((num : Int) + (gs.length : Int)) = (((num + gs.length) % 18446744073709551616 : Nat) : Int) := by
      rw [wr_eq]
      simp only [IntKind.wrap, IntKind.bits, IntKind.signed]
      simp
    have s1 := str_src (nw.wb.kp k2).src (by rw [← f6]; exact byt_take bs _) c
    have s2 := str_src ((sr1.mono k2).take en_) (byt_take bs _) none
    have lt : (s.take en_).length = en_ := by rw [List.length_take]; omega
    rw [lt] at s2
    rw [lb] at t8 s1
    rw [← f6] at s1
    have sv1 := slcV_loA s.length en_ a0 .i64 f2
    have sv2 := slcV_hiA s.length en_ a0 .i64 f2
    have q1 : decide ((en_ : Int) < 0) = false := decide_eq_false (by omega)
    have q2 : decide ((s.length : Int) < (en_ : Int)) = false := decide_eq_false (by omega)
    have q4 : decide (s.take en_ = s.take en_) = true := decide_eq_true rfl
    have q5 : decide ((0 : Int) = 0) = true := rfl
    obtain ⟨n, en⟩ : ∃ n, gs.length = n := ⟨_, rfl⟩
    rw [en] at t6 wu wn r2
    obtain ⟨nm, enm⟩ : ∃ y, (num + n) % 18446744073709551616 = y := ⟨_, rfl⟩
    rw [enm] at wn r2
    obtain ⟨Q, eQ⟩ : ∃ Q, s.take en_ = Q := ⟨_, rfl⟩
    rw [eQ] at s1 s2 q4
    obtain ⟨sd, esd⟩ : ∃ n, s.length - en_ = n := ⟨_, rfl⟩
    rw [esd] at sv1 r2
    generalize s.length = sl at *
    simp (config := {maxSteps := 2000000}) (disch := first | omega | rfl | (simp only [ofI_len, List.length_append, List.length_take, List.length_drop, List.length_cons, List.length_nil, List.length_replicate, List.length_set]; done) | (simp only [ofI_len, List.length_append, List.length_take, List.length_drop, List.length_cons, List.length_nil, List.length_replicate, List.length_set]; omega)) only [R_purserlaw17_SegmentOnly_0, t0, t1, t5, t6, t7, t8, r2, s1, s2, sv1, sv2, wu, wn, q1, q2, q4, q5, b_seq, ↓ns_b2s, ↓x_slcS, x_M0, x_M1, ↓s_len, x_lenS, ↓b_xor32, ↓b_and32, ↓b_or32, ↓u_not32, b_xor32, b_and32, b_or32, u_not32, w32ad, ↓x_conv, x_convV, ↓x_fieldAddr, x_fieldV, ↓s_nilchk, x_nilchk, Nat.zero_add, Nat.add_zero, Nat.mul_one, ↓s_evD, ↓s_dnil, ↓s_dL, ↓s_dLg, ↓s_dR, ↓s_dRg, ↓s_dRj, ↓s_dRjg, ↓s_dB, ↓s_dBg, ↓s_dAlloc, ↓s_bindD, s_bindD, s_finD, s_finDx, s_addP0, s_addP1, s_addB, s_lookP, ↓s_bump0, ↓s_bump_get, s_bump_next, s_ok0, ↓s_ok1, s_okR0, ↓s_okR1, ↓s_okE, s_okE, s_okE1, s_nth0, s_nthS, Nat.add_zero, Bool.and_self, Bool.and_true, Bool.true_and, ↓l_loop, ↓l_succ, ↓l_normal, l_normal, l_exit, l_ret, l_iteN, ↓h_put_get, ↓h_new_get, ↓h_del_get, h_next_put, h_next_new, h_next_del, Nat.add_assoc, Nat.add_eq_left, Nat.left_eq_add, Nat.add_left_cancel_iff, ↓s_load, m_load, ↓m_load1, m_load1, ↓m_st, m_stE, m_storeI, m_storeE, w_zero, w_succ, ↓s_alloc, ↓x_idxA, ↓x_idxS, x_idxAE, x_idxSE, x_addrE, x_idx, x_lenS, ↓s_len, ↓x_buildS, x_buildE, ↓x_P0, ↓x_P1, x_fill0, x_filli, x_fills, x_fillb, c_int, List.length_cons, List.length_nil, List.cons_append, List.drop_succ_cons, List.drop_zero, List.drop_nil, List.nil_append, Int.reduceAdd, Int.reduceToNat, Int.reduceLT, Int.reduceLE, Nat.reduceAdd, Nat.reduceMul, Nat.reduceLeDiff, Int.reduceEq, Int.reduceSub, Int.cast_ofNat_Int, s_resc, s_consR, m_load4, m_store4, s_res0, ↓s_skip, ↓s_ops, ↓s_dops, ↓s_seq, ↓s_cond, ↓s_block, ↓s_exit, ↓s_ret, ↓s_scope, ↓s_nil, ↓s_op, ↓s_opg, ↓s_wanted', ↓s_wantV, s_wantV, s_wantV0, beq_true, beq_false, ↓s_bindS, s_bindS, ↓s_bindE, s_bindE, s_bindE_ret, s_bindE_exit, s_bindE_iteN, s_norm, ↓s_condV, s_condV, s_block_ret, s_block_normal, s_block_exit, s_block_iteN, ↓s_getp, ↓s_getp0, ↓s_get, s_get0, ↓s_con, ↓s_fn, ↓s_os0, ↓s_os1, ↓s_list0, ↓s_list1, ↓s_mov, ↓s_pick, ↓s_pickE, s_pickE, ↓s_bin, ↓s_un, ↓s_minmax, ↓s_call, ↓s_callv, ↓s_callV, ↓s_ext, s_same, b_eql, b_neq, b_lss, b_leq, b_gtr, b_geq, b_add, b_sub, b_mul, b_eqlb, b_neqb, b_fnil, b_fnil', b_fnil2, b_fnil2', u_neg, u_not, m_two, s_end, s_end', s_end_iteN, s_res0, s_res1, s_tup1, s_tup2, ↓iteN_true, ↓iteN_false, iteN_true, iteN_false, Nat.zero_add, List.nil_append, List.append_nil, Nat.reduceEqDiff, reduceIte, decide_true, decide_false, Bool.not_true, Bool.not_false, List.getElem?_cons_zero, List.getElem?_cons_succ, Bool.false_eq_true, if_true, if_false, beq_self_eq_true]
    exact ⟨_, rfl⟩
  obtain ⟨R, eR⟩ : ∃ R, R_purserlaw17_SegmentOnly_0 = R := ⟨_, rfl⟩
  obtain ⟨Lo, eL⟩ : ∃ R, L_purserlaw17_SegmentOnly_0 = R := ⟨_, rfl⟩
  rw [eR, eL] at fin ⊢
  have fin' := fun T q0 q1 q5 q6 q7 q30 q31 q8 => fin T ⟨Nat.zero_le _, q0, q1, q5, q6, q7, q30, q31, none, some 0, 0, q8, ⟨Kp.refl _, .nil _, fun _ _ e => by cases e⟩⟩
  clear fin
  have l0 : (gsB num (gs.take 0)).length = 0 := rfl
  rw [l0] at fin'
  replace r1 : callX E (alR k_purserlaw17_alive) (M + 26) (.fn k_segment_Read) [.slice a0 s.length none 1, .int .u64 (num : Int)] h = _ := r1
  generalize gs.length = n at *
  generalize s.length = sl at *
  simp (config := {maxSteps := 2000000}) (disch := first | omega | rfl | (simp only [ofI_len, List.length_append, List.length_take, List.length_drop, List.length_cons, List.length_nil, List.length_replicate, List.length_set]; done) | (simp only [ofI_len, List.length_append, List.length_take, List.length_drop, List.length_cons, List.length_nil, List.length_replicate, List.length_set]; omega)) only [al, d0, r1, ↓s_len, x_lenS, ↓b_xor32, ↓b_and32, ↓b_or32, ↓u_not32, b_xor32, b_and32, b_or32, u_not32, w32ad, ↓x_conv, x_convV, ↓x_fieldAddr, x_fieldV, ↓s_nilchk, x_nilchk, Nat.zero_add, Nat.add_zero, Nat.mul_one, ↓s_evD, ↓s_dnil, ↓s_dL, ↓s_dLg, ↓s_dR, ↓s_dRg, ↓s_dRj, ↓s_dRjg, ↓s_dB, ↓s_dBg, ↓s_dAlloc, ↓s_bindD, s_bindD, s_finD, s_finDx, s_addP0, s_addP1, s_addB, s_lookP, ↓s_bump0, ↓s_bump_get, s_bump_next, s_ok0, ↓s_ok1, s_okR0, ↓s_okR1, ↓s_okE, s_okE, s_okE1, s_nth0, s_nthS, Nat.add_zero, Bool.and_self, Bool.and_true, Bool.true_and, ↓l_loop, ↓l_succ, ↓l_normal, l_normal, l_exit, l_ret, l_iteN, ↓h_put_get, ↓h_new_get, ↓h_del_get, h_next_put, h_next_new, h_next_del, Nat.add_assoc, Nat.add_eq_left, Nat.left_eq_add, Nat.add_left_cancel_iff, ↓s_load, m_load, ↓m_load1, m_load1, ↓m_st, m_stE, m_storeI, m_storeE, w_zero, w_succ, ↓s_alloc, ↓x_idxA, ↓x_idxS, x_idxAE, x_idxSE, x_addrE, x_idx, x_lenS, ↓s_len, ↓x_buildS, x_buildE, ↓x_P0, ↓x_P1, x_fill0, x_filli, x_fills, x_fillb, c_int, List.length_cons, List.length_nil, List.cons_append, List.drop_succ_cons, List.drop_zero, List.drop_nil, List.nil_append, Int.reduceAdd, Int.reduceToNat, Int.reduceLT, Int.reduceLE, Nat.reduceAdd, Nat.reduceMul, Nat.reduceLeDiff, Int.reduceEq, Int.reduceSub, Int.cast_ofNat_Int, s_resc, s_consR, m_load4, m_store4, s_res0, ↓s_skip, ↓s_ops, ↓s_dops, ↓s_seq, ↓s_cond, ↓s_block, ↓s_exit, ↓s_ret, ↓s_scope, ↓s_nil, ↓s_op, ↓s_opg, ↓s_wanted', ↓s_wantV, s_wantV, s_wantV0, beq_true, beq_false, ↓s_bindS, s_bindS, ↓s_bindE, s_bindE, s_bindE_ret, s_bindE_exit, s_bindE_iteN, s_norm, ↓s_condV, s_condV, s_block_ret, s_block_normal, s_block_exit, s_block_iteN, ↓s_getp, ↓s_getp0, ↓s_get, s_get0, ↓s_con, ↓s_fn, ↓s_os0, ↓s_os1, ↓s_list0, ↓s_list1, ↓s_mov, ↓s_pick, ↓s_pickE, s_pickE, ↓s_bin, ↓s_un, ↓s_minmax, ↓s_call, ↓s_callv, ↓s_callV, ↓s_ext, s_same, b_eql, b_neq, b_lss, b_leq, b_gtr, b_geq, b_add, b_sub, b_mul, b_eqlb, b_neqb, b_fnil, b_fnil', b_fnil2, b_fnil2', u_neg, u_not, m_two, s_end, s_end', s_end_iteN, s_res0, s_res1, s_tup1, s_tup2, ↓iteN_true, ↓iteN_false, iteN_true, iteN_false, Nat.zero_add, List.nil_append, List.append_nil, Nat.reduceEqDiff, reduceIte, decide_true, decide_false, Bool.not_true, Bool.not_false, List.getElem?_cons_zero, List.getElem?_cons_succ, Bool.false_eq_true, if_true, if_false, beq_self_eq_true]
  exact fin' _ (by (simp only [s_getp, s_getp0, Nat.reduceEqDiff, decide_false, decide_true, iteN_false, iteN_true, eR]; try rfl)) (by (simp only [s_getp, s_getp0, Nat.reduceEqDiff, decide_false, decide_true, iteN_false, iteN_true, eR]; try rfl)) (by (simp only [s_getp, s_getp0, Nat.reduceEqDiff, decide_false, decide_true, iteN_false, iteN_true, eR]; try rfl)) (by (simp only [s_getp, s_getp0, Nat.reduceEqDiff, decide_false, decide_true, iteN_false, iteN_true, eR]; try rfl)) (by (simp only [s_getp, s_getp0, Nat.reduceEqDiff, decide_false, decide_true, iteN_false, iteN_true, eR]; try rfl)) (by (simp only [s_getp, s_getp0, Nat.reduceEqDiff, decide_false, decide_true, iteN_false, iteN_true, eR]; try rfl)) (by (simp only [s_getp, s_getp0, Nat.reduceEqDiff, decide_false, decide_true, iteN_false, iteN_true, eR]; try rfl)) (by (simp only [s_getp, s_getp0, Nat.reduceEqDiff, decide_false, decide_true, iteN_false, iteN_true, eR]; try rfl))
end Go.Eng
