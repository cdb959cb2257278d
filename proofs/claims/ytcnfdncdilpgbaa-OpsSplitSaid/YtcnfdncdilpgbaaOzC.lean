/- What functions of the program come to: own work. -/
import Derived.Test.YtcnfdncdilpgbaaOzB
namespace Go.Eng
open Go
variable {E : Nat → Option Fn} {X : Orc}
set_option linter.unusedSimpArgs false
set_option linter.unusedVariables false
theorem Wb.ow {h : H} {w : List Nat} {a : Option (Nat × Nat)} {c : Option Nat} {e : Nat} (s : Wb h w a c e) : Ow h w a e := by
  rcases s with ⟨h1, _⟩ | ⟨_, q, md, e1, _, e3, g, hm, hq⟩
  · exact .inl h1
  · exact .inr ⟨q, md, e1, e3, g, hm, hq⟩
structure RpI (v : V) (dn : List Oq) (at_ : Nat) (h0 : H) (T : Tr V) (h : H) : Prop where
  t0 : evO T (.t 0) = v
  st : ∃ a c e, evO T (.t 4) = .slice a dn.length c e ∧ RowF h0.next h dn a c e
  t5 : evO T (.t 5) = .int .i64 (at_ : Int)
  kp : Kp h0 h
def RpE (T : Tr V) : Prop := evO T (.t 2) = .slice none 0 (some 0) 0 ∧ evO T (.t 3) = .int .i64 100
theorem rp_step (e : EnRo E) (x : NoRo X) (M m : Nat) (s : List Nat) (bs : byt s = true) (hs : s.length ≤ 1000000) (a : Option (Nat × Nat)) (h0 : H) (src : SrcH h0 a 1 s) (dn : List Oq) (hd : dn.length ≤ 1000000) (at_ : Nat) (hat : at_ < s.length) (T : Tr V) (h : H) (I : RpI (.slice a s.length none 1) dn at_ h0 T h) :
    ∃ T' h', (fstV (s.drop at_) = none → evC (callX E X (M + 1)) 97 m none L_purserref10_Split_0 ⟨T, [], h⟩ = some (.ret, ⟨T', [], h'⟩) ∧ RpE T' ∧ Kp h0 h') ∧
      (∀ o k, fstV (s.drop at_) = some (o, k) → evC (callX E X (M + 1)) 97 m none L_purserref10_Split_0 ⟨T, [], h⟩ = some (.normal, ⟨T', [], h'⟩) ∧ RpI (.slice a s.length none 1) (dn ++ [o]) (at_ + k) h0 T' h') := by
  obtain ⟨t0, ⟨ar, cr, er, t4, row⟩, t5, kp⟩ := I
  obtain ⟨bi, off, vs, md, rfl, _, h3, h4, h5, h6⟩ := src.resolve_left (fun h => by rw [h] at hat; simp at hat)
  have gv : h.get bi = some (.cells vs md) := by rw [kp.2 _ h3, h4]
  obtain ⟨c, ec⟩ : ∃ c, s.getD at_ 0 = c := ⟨_, rfl⟩
  have cg0 : vs[off + at_]? = some (.int .u8 (c : Int)) := by rw [← ec]; exact src_at (h := h) (a := none) (bi := bi) h6 at_ hat
  have cl : c < 256 := by rw [← ec]; exact getD_byt bs _
  obtain ⟨r, er'⟩ : ∃ r, s.drop (at_ + 1) = r := ⟨_, rfl⟩
  have ed : s.drop at_ = c :: r := by
    rw [List.drop_eq_getElem_cons hat, ← er', ← ec, List.getD_eq_getElem?_getD, List.getElem?_eq_getElem hat]; rfl
  have lr : r.length = s.length - (at_ + 1) := by rw [← er', List.length_drop]
  have rg : ∀ i, r.getD i 0 = s.getD (at_ + 1 + i) 0 := fun i => by
    rw [← er', List.getD_eq_getElem?_getD, List.getD_eq_getElem?_getD, List.getElem?_drop]
  rw [ed]
  have c0 : decide ((at_ : Int) < (s.length : Int)) = true := decide_eq_true (by omega)
  have w1 : wr .i64 ((at_ : Int) + 1) = ((at_ + 1 : Nat) : Int) := by rw [wr_i64 (by omega)]; omega
  have wc : wr .i64 (c : Int) = (c : Int) := wr_i64 (by omega)
  have ixa : idx (at_ : Int) s.length = some at_ := idxn hat
  have hn0 := kp.1
  -- what is written if there is an operation
  have good : ∀ (F n : Nat), F + n ≤ s.length → ∃ h2 ao co eo hz hf, callX E X (M + 1) (.fn k_purserref01_Twin) [.slice (upA (some (bi, off)) F) n none 1] (bump 1 h) = some (.slice ao n co eo, h2) ∧ h2.get bi = some (.cells vs md) ∧ h2.put h.next (.cells [.int .u8 (c : Int), .slice ao n co eo] .rw) = hz ∧ srcCells hz 2 (.slice (some (h.next, 0)) 1 (some 1) 2) = some (1, [.int .u8 (c : Int), .slice ao n co eo]) ∧ appendC hz 2 32 (.slice ar dn.length cr er) (some (1, [.int .u8 (c : Int), .slice ao n co eo])) = some (.slice (some (hz.next, 0)) (dn.length + 1) none 2, hf) ∧ RowF h0.next hf (dn ++ [⟨c, (s.drop F).take n⟩]) (some (hz.next, 0)) none 2 ∧ Kp h0 hf := by
    intro F n hFn
    have ln : ((s.drop F).take n).length = n := by rw [List.length_take, List.length_drop]; omega
    have kb : Kp h (bump 1 h) := ⟨by show h.next ≤ h.next + 1; omega, fun _ _ => rfl⟩
    have sb := (((src.mono kp).mono kb).drop F).take n
    obtain ⟨ao, co, eo, h2, r2, nw⟩ := twinv_go (E := E) (X := X) e.tw x.tw M ((s.drop F).take n) (by omega) (upA (some (bi, off)) F) none 1 (bump 1 h) sb
    rw [ln] at r2
    have nb : (bump 1 h).next = h.next + 1 := rfl
    have kn := nw.kp.1
    obtain ⟨hz, ehz⟩ : ∃ hz, h2.put h.next (.cells [.int .u8 (c : Int), .slice ao n co eo] .rw) = hz := ⟨_, rfl⟩
    have nz : hz.next = h2.next := by rw [← ehz]; rfl
    have kz : Kp h hz := ⟨by omega, fun i hi => by rw [← ehz, h_put_ne _ _ (by omega), nw.kp.2 _ (by omega)]; rfl⟩
    have owz : Ow hz ((s.drop F).take n) ao eo := by
      rcases nw.wb.ow with s0 | ⟨q, m', f1, f2, f3, f4, f5⟩
      · exact .inl s0
      · have := nw.ge _ _ f1
        exact .inr ⟨q, m', f1, f2, by rw [← ehz, h_put_ne _ _ (by omega), f3], f4, by omega⟩
    obtain ⟨hf, ap, rowf, nf, ff⟩ := ap_row h0.next hz (by omega) dn hd ar cr er (row.kp kz) ⟨c, (s.drop F).take n⟩ ao co eo owz (fun hne q z eq => by
      have := nw.ge q z eq
      refine ⟨by omega, fun e => ?_⟩
      have := (row.lt e).2
      omega)
    simp only at ap
    rw [ln] at ap
    have kk := kz.1
    refine ⟨h2, ao, co, eo, hz, hf, r2, by rw [nw.kp.2 _ (by omega)]; exact gv, ehz, by rw [← ehz, m_src, h_put_same]; rfl, ap, rowf, ⟨by omega, fun i hi => by rw [ff i (by omega) (fun e => by have := (row.lt e).1; omega), kz.2 _ (by omega), kp.2 _ hi]⟩⟩
  by_cases k5 : 1 ≤ c ∧ c ≤ 75
  · have n0 : cnQ c = 0 := by unfold cnQ; rw [if_neg (by omega), if_neg (by omega)]
    have rd : rdN c r = c := by unfold rdN; rw [if_pos k5.2]
    have d1 : decide ((1 : Int) ≤ (c : Int)) = true := decide_eq_true (by omega)
    have d75 : decide ((c : Int) ≤ 75) = true := decide_eq_true (by omega)
    have d76 : decide ((c : Int) = 76) = false := decide_eq_false (by omega)
    have d77 : decide ((c : Int) = 77) = false := decide_eq_false (by omega)
    have fe := fst_cons c r
    rw [n0, rd, if_neg (by omega)] at fe
    by_cases cc : r.length < 0 + c
    · rw [if_pos cc] at fe
      have wF : wr .i64 (((at_ + 1 : Nat) : Int) + (c : Int)) = ((at_ + 1 + c : Nat) : Int) := by rw [wr_i64 (by omega)]; omega
      have dF : decide ((s.length : Int) < ((at_ + 1 + c : Nat) : Int)) = true := decide_eq_true (by omega)
      obtain ⟨FN, eFN⟩ : ∃ k, at_ + 1 + c = k := ⟨_, rfl⟩
      rw [eFN] at wF dF
      obtain ⟨sl, esl⟩ : ∃ n, s.length = n := ⟨_, rfl⟩
      obtain ⟨T', q, u2, u3⟩ : ∃ T', evC (callX E X (M + 1)) 97 m none L_purserref10_Split_0 ⟨T, [], h⟩ = some (.ret, ⟨T', [], h⟩) ∧ evO T' (.t 2) = .slice none 0 (some 0) 0 ∧ evO T' (.t 3) = .int .i64 100 := by
        rw [esl] at *
        exact ⟨_, by
          simp (config := {maxSteps := 2000000}) (disch := first | omega | (simp only [List.length_cons, List.length_nil, List.length_append, List.length_drop]; omega)) only [L_purserref10_Split_0, t0, t4, t5, gv, cg0, c0, w1, wc, ixa, d76, d77, d1, d75, wF, dF, ↓x_slcS, x_M1, x_M0, s_bump_get, ↓s_append, ↓s_dBuildS, ↓s_dBuildSg, s_dbE, fl2, x_build, x_aggO, x_P0, x_P1, x_fill0, x_fills, x_fillb, x_filli, ↓s_len, x_lenS, ↓b_xor32, ↓b_and32, ↓b_or32, ↓u_not32, b_xor32, b_and32, b_or32, u_not32, w32ad, ↓x_conv, x_convV, ↓x_fieldAddr, x_fieldV, ↓s_nilchk, x_nilchk, Nat.zero_add, Nat.add_zero, Nat.mul_one, ↓s_evD, ↓s_dnil, ↓s_dL, ↓s_dLg, ↓s_dR, ↓s_dRg, ↓s_dRj, ↓s_dRjg, ↓s_dB, ↓s_dBg, ↓s_dAlloc, ↓s_bindD, s_bindD, s_finD, s_finDx, s_addP0, s_addP1, s_addB, s_lookP, ↓s_bump0, ↓s_bump_get, s_bump_next, s_ok0, ↓s_ok1, s_okR0, ↓s_okR1, ↓s_okE, s_okE, s_okE1, s_nth0, s_nthS, Nat.add_zero, Bool.and_self, Bool.and_true, Bool.true_and, ↓l_loop, ↓l_succ, ↓l_normal, l_normal, l_exit, l_ret, l_iteN, ↓h_put_get, ↓h_new_get, ↓h_del_get, h_next_put, h_next_new, h_next_del, Nat.add_assoc, Nat.add_eq_left, Nat.left_eq_add, Nat.add_left_cancel_iff, ↓s_load, m_load, ↓m_load1, m_load1, ↓m_st, m_stE, m_storeI, m_storeE, w_zero, w_succ, ↓s_alloc, ↓x_idxA, ↓x_idxS, x_idxAE, x_idxSE, x_addrE, x_idx, x_lenS, ↓s_len, ↓x_buildS, x_buildE, ↓x_P0, ↓x_P1, x_fill0, x_filli, x_fills, x_fillb, c_int, List.length_cons, List.length_nil, List.cons_append, List.drop_succ_cons, List.drop_zero, List.drop_nil, List.nil_append, Int.reduceAdd, Int.reduceToNat, Int.reduceLT, Int.reduceLE, Nat.reduceAdd, Nat.reduceMul, Nat.reduceLeDiff, Int.reduceEq, Int.reduceSub, Int.cast_ofNat_Int, s_resc, s_consR, m_load4, m_store4, s_res0, ↓s_skip, ↓s_ops, ↓s_dops, ↓s_seq, ↓s_cond, ↓s_block, ↓s_exit, ↓s_ret, ↓s_scope, ↓s_nil, ↓s_op, ↓s_opg, ↓s_wanted', ↓s_wantV, s_wantV, s_wantV0, beq_true, beq_false, ↓s_bindS, s_bindS, ↓s_bindE, s_bindE, s_bindE_ret, s_bindE_exit, s_bindE_iteN, s_norm, ↓s_condV, s_condV, s_block_ret, s_block_normal, s_block_exit, s_block_iteN, ↓s_getp, ↓s_getp0, ↓s_get, s_get0, ↓s_con, ↓s_fn, ↓s_os0, ↓s_os1, ↓s_list0, ↓s_list1, ↓s_mov, ↓s_pick, ↓s_pickE, s_pickE, ↓s_bin, ↓s_un, ↓s_minmax, ↓s_call, ↓s_callv, ↓s_callV, ↓s_ext, s_same, b_eql, b_neq, b_lss, b_leq, b_gtr, b_geq, b_add, b_sub, b_mul, b_eqlb, b_neqb, b_fnil, b_fnil', b_fnil2, b_fnil2', u_neg, u_not, m_two, s_end, s_end', s_end_iteN, s_res0, s_res1, s_tup1, s_tup2, ↓iteN_true, ↓iteN_false, iteN_true, iteN_false, Nat.zero_add, List.nil_append, List.append_nil, Nat.reduceEqDiff, reduceIte, decide_true, decide_false, Bool.not_true, Bool.not_false, List.getElem?_cons_zero, List.getElem?_cons_succ, Bool.false_eq_true, if_true, if_false, beq_self_eq_true]
          exact rfl, (by (simp only [s_getp, s_getp0, Nat.reduceEqDiff, decide_false, decide_true, iteN_false, iteN_true, t0]; try rfl)), (by (simp only [s_getp, s_getp0, Nat.reduceEqDiff, decide_false, decide_true, iteN_false, iteN_true, t0]; try rfl))⟩
      exact ⟨T', h, fun _ => ⟨q, ⟨u2, u3⟩, kp⟩, fun o k hh => by rw [fe] at hh; cases hh⟩
    · rw [if_neg cc] at fe
      have edr : (r.drop 0).take c = (s.drop (at_ + 1)).take c := by rw [List.drop_zero, er']
      have eat : at_ + (1 + 0 + c) = at_ + 1 + c := by omega
      obtain ⟨h2, ao, co, eo, hz, hf, r2, gv2, ehz, scz, ap, rowf, kf⟩ := good (at_ + 1) (c) (by omega)
      have sv : slcV 1 (some (.int .i64 ((at_ + 1 : Nat) : Int))) (some (.int .i64 ((at_ + 1 + c : Nat) : Int))) none (.slice (some (bi, off)) s.length none 1) = some (.slice (upA (some (bi, off)) (at_ + 1)) (at_ + 1 + c - (at_ + 1)) none 1) := slcV_lhA _ _ _ _ _ _ (by omega) (by omega)
      rw [Nat.add_sub_cancel_left] at sv
      have wF : wr .i64 (((at_ + 1 : Nat) : Int) + ((c : Nat) : Int)) = ((at_ + 1 + c : Nat) : Int) := by rw [wr_i64 (by omega)]; omega
      have dF : decide ((s.length : Int) < ((at_ + 1 + c : Nat) : Int)) = false := decide_eq_false (by omega)
      obtain ⟨FN, eFN⟩ : ∃ k, at_ + 1 + c = k := ⟨_, rfl⟩
      rw [eFN] at sv wF dF
      obtain ⟨T', q, u0, u4, u5⟩ : ∃ T', evC (callX E X (M + 1)) 97 m none L_purserref10_Split_0 ⟨T, [], h⟩ = some (.normal, ⟨T', [], hf⟩) ∧ evO T' (.t 0) = .slice (some (bi, off)) s.length none 1 ∧ evO T' (.t 4) = .slice (some (hz.next, 0)) (dn.length + 1) none 2 ∧ evO T' (.t 5) = .int .i64 ((FN : Nat) : Int) := by
        generalize s.length = sl at *
        generalize dn.length = dl at *
        exact ⟨_, by
          simp (config := {maxSteps := 2000000}) (disch := first | omega | (simp only [List.length_cons, List.length_nil, List.length_append, List.length_drop]; omega)) only [L_purserref10_Split_0, t0, t4, t5, gv, cg0, c0, w1, wc, ixa, d76, d77, d1, d75, r2, gv2, ehz, scz, ap, sv, wF, dF, vbeq_int, ↓x_slcS, x_M1, x_M0, s_bump_get, ↓s_append, ↓s_dBuildS, ↓s_dBuildSg, s_dbE, fl2, x_build, x_aggO, x_P0, x_P1, x_fill0, x_fills, x_fillb, x_filli, ↓s_len, x_lenS, ↓b_xor32, ↓b_and32, ↓b_or32, ↓u_not32, b_xor32, b_and32, b_or32, u_not32, w32ad, ↓x_conv, x_convV, ↓x_fieldAddr, x_fieldV, ↓s_nilchk, x_nilchk, Nat.zero_add, Nat.add_zero, Nat.mul_one, ↓s_evD, ↓s_dnil, ↓s_dL, ↓s_dLg, ↓s_dR, ↓s_dRg, ↓s_dRj, ↓s_dRjg, ↓s_dB, ↓s_dBg, ↓s_dAlloc, ↓s_bindD, s_bindD, s_finD, s_finDx, s_addP0, s_addP1, s_addB, s_lookP, ↓s_bump0, ↓s_bump_get, s_bump_next, s_ok0, ↓s_ok1, s_okR0, ↓s_okR1, ↓s_okE, s_okE, s_okE1, s_nth0, s_nthS, Nat.add_zero, Bool.and_self, Bool.and_true, Bool.true_and, ↓l_loop, ↓l_succ, ↓l_normal, l_normal, l_exit, l_ret, l_iteN, ↓h_put_get, ↓h_new_get, ↓h_del_get, h_next_put, h_next_new, h_next_del, Nat.add_assoc, Nat.add_eq_left, Nat.left_eq_add, Nat.add_left_cancel_iff, ↓s_load, m_load, ↓m_load1, m_load1, ↓m_st, m_stE, m_storeI, m_storeE, w_zero, w_succ, ↓s_alloc, ↓x_idxA, ↓x_idxS, x_idxAE, x_idxSE, x_addrE, x_idx, x_lenS, ↓s_len, ↓x_buildS, x_buildE, ↓x_P0, ↓x_P1, x_fill0, x_filli, x_fills, x_fillb, c_int, List.length_cons, List.length_nil, List.cons_append, List.drop_succ_cons, List.drop_zero, List.drop_nil, List.nil_append, Int.reduceAdd, Int.reduceToNat, Int.reduceLT, Int.reduceLE, Nat.reduceAdd, Nat.reduceMul, Nat.reduceLeDiff, Int.reduceEq, Int.reduceSub, Int.cast_ofNat_Int, s_resc, s_consR, m_load4, m_store4, s_res0, ↓s_skip, ↓s_ops, ↓s_dops, ↓s_seq, ↓s_cond, ↓s_block, ↓s_exit, ↓s_ret, ↓s_scope, ↓s_nil, ↓s_op, ↓s_opg, ↓s_wanted', ↓s_wantV, s_wantV, s_wantV0, beq_true, beq_false, ↓s_bindS, s_bindS, ↓s_bindE, s_bindE, s_bindE_ret, s_bindE_exit, s_bindE_iteN, s_norm, ↓s_condV, s_condV, s_block_ret, s_block_normal, s_block_exit, s_block_iteN, ↓s_getp, ↓s_getp0, ↓s_get, s_get0, ↓s_con, ↓s_fn, ↓s_os0, ↓s_os1, ↓s_list0, ↓s_list1, ↓s_mov, ↓s_pick, ↓s_pickE, s_pickE, ↓s_bin, ↓s_un, ↓s_minmax, ↓s_call, ↓s_callv, ↓s_callV, ↓s_ext, s_same, b_eql, b_neq, b_lss, b_leq, b_gtr, b_geq, b_add, b_sub, b_mul, b_eqlb, b_neqb, b_fnil, b_fnil', b_fnil2, b_fnil2', u_neg, u_not, m_two, s_end, s_end', s_end_iteN, s_res0, s_res1, s_tup1, s_tup2, ↓iteN_true, ↓iteN_false, iteN_true, iteN_false, Nat.zero_add, List.nil_append, List.append_nil, Nat.reduceEqDiff, reduceIte, decide_true, decide_false, Bool.not_true, Bool.not_false, List.getElem?_cons_zero, List.getElem?_cons_succ, Bool.false_eq_true, if_true, if_false, beq_self_eq_true]
          exact rfl, (by (simp only [s_getp, s_getp0, Nat.reduceEqDiff, decide_false, decide_true, iteN_false, iteN_true, t0]; try rfl)), (by (simp only [s_getp, s_getp0, Nat.reduceEqDiff, decide_false, decide_true, iteN_false, iteN_true, t0]; try rfl)), (by (simp only [s_getp, s_getp0, Nat.reduceEqDiff, decide_false, decide_true, iteN_false, iteN_true, t0]; try rfl))⟩
      exact ⟨T', hf, fun hh => (by rw [fe] at hh; cases hh), fun o k hh => by
        rw [fe] at hh
        cases hh
        exact ⟨q, u0, ⟨_, _, _, by rw [List.length_append]; exact u4, by rw [edr]; exact rowf⟩, by rw [eat, eFN]; exact u5, kf⟩⟩
  · by_cases k6 : c = 76
    · have n1 : cnQ c = 1 := by rw [k6]; rfl
      have rd : rdN c r = r.getD 0 0 := by rw [k6]; rfl
      have d1 : decide ((1 : Int) ≤ (c : Int)) = true := decide_eq_true (by omega)
      have d75 : decide ((c : Int) ≤ 75) = false := decide_eq_false (by omega)
      have d76 : decide ((c : Int) = 76) = true := decide_eq_true (by omega)
      have d77 : decide ((c : Int) = 77) = false := decide_eq_false (by omega)
      have fe := fst_cons c r
      rw [n1, rd] at fe
      by_cases c1 : r.length < 1
      · rw [if_pos c1] at fe
        have dg : decide ((s.length : Int) ≤ ((at_ + 1 : Nat) : Int)) = true := decide_eq_true (by omega)
        obtain ⟨sl, esl⟩ : ∃ n, s.length = n := ⟨_, rfl⟩
        obtain ⟨T', q, u2, u3⟩ : ∃ T', evC (callX E X (M + 1)) 97 m none L_purserref10_Split_0 ⟨T, [], h⟩ = some (.ret, ⟨T', [], h⟩) ∧ evO T' (.t 2) = .slice none 0 (some 0) 0 ∧ evO T' (.t 3) = .int .i64 100 := by
          rw [esl] at *
          exact ⟨_, by
            simp (config := {maxSteps := 2000000}) (disch := first | omega | (simp only [List.length_cons, List.length_nil, List.length_append, List.length_drop]; omega)) only [L_purserref10_Split_0, t0, t4, t5, gv, cg0, c0, w1, wc, ixa, d76, d77, d1, d75, dg, ↓x_slcS, x_M1, x_M0, s_bump_get, ↓s_append, ↓s_dBuildS, ↓s_dBuildSg, s_dbE, fl2, x_build, x_aggO, x_P0, x_P1, x_fill0, x_fills, x_fillb, x_filli, ↓s_len, x_lenS, ↓b_xor32, ↓b_and32, ↓b_or32, ↓u_not32, b_xor32, b_and32, b_or32, u_not32, w32ad, ↓x_conv, x_convV, ↓x_fieldAddr, x_fieldV, ↓s_nilchk, x_nilchk, Nat.zero_add, Nat.add_zero, Nat.mul_one, ↓s_evD, ↓s_dnil, ↓s_dL, ↓s_dLg, ↓s_dR, ↓s_dRg, ↓s_dRj, ↓s_dRjg, ↓s_dB, ↓s_dBg, ↓s_dAlloc, ↓s_bindD, s_bindD, s_finD, s_finDx, s_addP0, s_addP1, s_addB, s_lookP, ↓s_bump0, ↓s_bump_get, s_bump_next, s_ok0, ↓s_ok1, s_okR0, ↓s_okR1, ↓s_okE, s_okE, s_okE1, s_nth0, s_nthS, Nat.add_zero, Bool.and_self, Bool.and_true, Bool.true_and, ↓l_loop, ↓l_succ, ↓l_normal, l_normal, l_exit, l_ret, l_iteN, ↓h_put_get, ↓h_new_get, ↓h_del_get, h_next_put, h_next_new, h_next_del, Nat.add_assoc, Nat.add_eq_left, Nat.left_eq_add, Nat.add_left_cancel_iff, ↓s_load, m_load, ↓m_load1, m_load1, ↓m_st, m_stE, m_storeI, m_storeE, w_zero, w_succ, ↓s_alloc, ↓x_idxA, ↓x_idxS, x_idxAE, x_idxSE, x_addrE, x_idx, x_lenS, ↓s_len, ↓x_buildS, x_buildE, ↓x_P0, ↓x_P1, x_fill0, x_filli, x_fills, x_fillb, c_int, List.length_cons, List.length_nil, List.cons_append, List.drop_succ_cons, List.drop_zero, List.drop_nil, List.nil_append, Int.reduceAdd, Int.reduceToNat, Int.reduceLT, Int.reduceLE, Nat.reduceAdd, Nat.reduceMul, Nat.reduceLeDiff, Int.reduceEq, Int.reduceSub, Int.cast_ofNat_Int, s_resc, s_consR, m_load4, m_store4, s_res0, ↓s_skip, ↓s_ops, ↓s_dops, ↓s_seq, ↓s_cond, ↓s_block, ↓s_exit, ↓s_ret, ↓s_scope, ↓s_nil, ↓s_op, ↓s_opg, ↓s_wanted', ↓s_wantV, s_wantV, s_wantV0, beq_true, beq_false, ↓s_bindS, s_bindS, ↓s_bindE, s_bindE, s_bindE_ret, s_bindE_exit, s_bindE_iteN, s_norm, ↓s_condV, s_condV, s_block_ret, s_block_normal, s_block_exit, s_block_iteN, ↓s_getp, ↓s_getp0, ↓s_get, s_get0, ↓s_con, ↓s_fn, ↓s_os0, ↓s_os1, ↓s_list0, ↓s_list1, ↓s_mov, ↓s_pick, ↓s_pickE, s_pickE, ↓s_bin, ↓s_un, ↓s_minmax, ↓s_call, ↓s_callv, ↓s_callV, ↓s_ext, s_same, b_eql, b_neq, b_lss, b_leq, b_gtr, b_geq, b_add, b_sub, b_mul, b_eqlb, b_neqb, b_fnil, b_fnil', b_fnil2, b_fnil2', u_neg, u_not, m_two, s_end, s_end', s_end_iteN, s_res0, s_res1, s_tup1, s_tup2, ↓iteN_true, ↓iteN_false, iteN_true, iteN_false, Nat.zero_add, List.nil_append, List.append_nil, Nat.reduceEqDiff, reduceIte, decide_true, decide_false, Bool.not_true, Bool.not_false, List.getElem?_cons_zero, List.getElem?_cons_succ, Bool.false_eq_true, if_true, if_false, beq_self_eq_true]
            exact rfl, (by (simp only [s_getp, s_getp0, Nat.reduceEqDiff, decide_false, decide_true, iteN_false, iteN_true, t0]; try rfl)), (by (simp only [s_getp, s_getp0, Nat.reduceEqDiff, decide_false, decide_true, iteN_false, iteN_true, t0]; try rfl))⟩
        exact ⟨T', h, fun _ => ⟨q, ⟨u2, u3⟩, kp⟩, fun o k hh => by rw [fe] at hh; cases hh⟩
      · rw [if_neg c1] at fe
        have dg : decide ((s.length : Int) ≤ ((at_ + 1 : Nat) : Int)) = false := decide_eq_false (by omega)
        obtain ⟨y, ey⟩ : ∃ y, r.getD 0 0 = y := ⟨_, rfl⟩
        have ey' := rg 0
        rw [ey, Nat.add_zero] at ey'
        rw [ey] at fe
        have yl : y < 256 := by rw [ey']; exact getD_byt bs _
        have cg1 : vs[off + (at_ + 1)]? = some (.int .u8 (y : Int)) := by rw [ey']; exact src_at (h := h) (a := none) (bi := bi) h6 (at_ + 1) (by omega)
        have ix1 : idx ((at_ + 1 : Nat) : Int) s.length = some (at_ + 1) := idxn (by omega)
        have wy : wr .i64 (y : Int) = (y : Int) := wr_i64 (by omega)
        have w2 : wr .i64 (((at_ + 1 : Nat) : Int) + 1) = ((at_ + 2 : Nat) : Int) := by rw [wr_i64 (by omega)]; omega
        by_cases cc : r.length < 1 + y
        · rw [if_pos cc] at fe
          have wF : wr .i64 (((at_ + 2 : Nat) : Int) + (y : Int)) = ((at_ + 2 + y : Nat) : Int) := by rw [wr_i64 (by omega)]; omega
          have dF : decide ((s.length : Int) < ((at_ + 2 + y : Nat) : Int)) = true := decide_eq_true (by omega)
          obtain ⟨FN, eFN⟩ : ∃ k, at_ + 2 + y = k := ⟨_, rfl⟩
          rw [eFN] at wF dF
          obtain ⟨sl, esl⟩ : ∃ n, s.length = n := ⟨_, rfl⟩
          obtain ⟨T', q, u2, u3⟩ : ∃ T', evC (callX E X (M + 1)) 97 m none L_purserref10_Split_0 ⟨T, [], h⟩ = some (.ret, ⟨T', [], h⟩) ∧ evO T' (.t 2) = .slice none 0 (some 0) 0 ∧ evO T' (.t 3) = .int .i64 100 := by
            rw [esl] at *
            exact ⟨_, by
              simp (config := {maxSteps := 2000000}) (disch := first | omega | (simp only [List.length_cons, List.length_nil, List.length_append, List.length_drop]; omega)) only [L_purserref10_Split_0, t0, t4, t5, gv, cg0, cg1, c0, w1, w2, wc, wy, ixa, ix1, d76, d77, d1, d75, dg, wF, dF, ↓x_slcS, x_M1, x_M0, s_bump_get, ↓s_append, ↓s_dBuildS, ↓s_dBuildSg, s_dbE, fl2, x_build, x_aggO, x_P0, x_P1, x_fill0, x_fills, x_fillb, x_filli, ↓s_len, x_lenS, ↓b_xor32, ↓b_and32, ↓b_or32, ↓u_not32, b_xor32, b_and32, b_or32, u_not32, w32ad, ↓x_conv, x_convV, ↓x_fieldAddr, x_fieldV, ↓s_nilchk, x_nilchk, Nat.zero_add, Nat.add_zero, Nat.mul_one, ↓s_evD, ↓s_dnil, ↓s_dL, ↓s_dLg, ↓s_dR, ↓s_dRg, ↓s_dRj, ↓s_dRjg, ↓s_dB, ↓s_dBg, ↓s_dAlloc, ↓s_bindD, s_bindD, s_finD, s_finDx, s_addP0, s_addP1, s_addB, s_lookP, ↓s_bump0, ↓s_bump_get, s_bump_next, s_ok0, ↓s_ok1, s_okR0, ↓s_okR1, ↓s_okE, s_okE, s_okE1, s_nth0, s_nthS, Nat.add_zero, Bool.and_self, Bool.and_true, Bool.true_and, ↓l_loop, ↓l_succ, ↓l_normal, l_normal, l_exit, l_ret, l_iteN, ↓h_put_get, ↓h_new_get, ↓h_del_get, h_next_put, h_next_new, h_next_del, Nat.add_assoc, Nat.add_eq_left, Nat.left_eq_add, Nat.add_left_cancel_iff, ↓s_load, m_load, ↓m_load1, m_load1, ↓m_st, m_stE, m_storeI, m_storeE, w_zero, w_succ, ↓s_alloc, ↓x_idxA, ↓x_idxS, x_idxAE, x_idxSE, x_addrE, x_idx, x_lenS, ↓s_len, ↓x_buildS, x_buildE, ↓x_P0, ↓x_P1, x_fill0, x_filli, x_fills, x_fillb, c_int, List.length_cons, List.length_nil, List.cons_append, List.drop_succ_cons, List.drop_zero, List.drop_nil, List.nil_append, Int.reduceAdd, Int.reduceToNat, Int.reduceLT, Int.reduceLE, Nat.reduceAdd, Nat.reduceMul, Nat.reduceLeDiff, Int.reduceEq, Int.reduceSub, Int.cast_ofNat_Int, s_resc, s_consR, m_load4, m_store4, s_res0, ↓s_skip, ↓s_ops, ↓s_dops, ↓s_seq, ↓s_cond, ↓s_block, ↓s_exit, ↓s_ret, ↓s_scope, ↓s_nil, ↓s_op, ↓s_opg, ↓s_wanted', ↓s_wantV, s_wantV, s_wantV0, beq_true, beq_false, ↓s_bindS, s_bindS, ↓s_bindE, s_bindE, s_bindE_ret, s_bindE_exit, s_bindE_iteN, s_norm, ↓s_condV, s_condV, s_block_ret, s_block_normal, s_block_exit, s_block_iteN, ↓s_getp, ↓s_getp0, ↓s_get, s_get0, ↓s_con, ↓s_fn, ↓s_os0, ↓s_os1, ↓s_list0, ↓s_list1, ↓s_mov, ↓s_pick, ↓s_pickE, s_pickE, ↓s_bin, ↓s_un, ↓s_minmax, ↓s_call, ↓s_callv, ↓s_callV, ↓s_ext, s_same, b_eql, b_neq, b_lss, b_leq, b_gtr, b_geq, b_add, b_sub, b_mul, b_eqlb, b_neqb, b_fnil, b_fnil', b_fnil2, b_fnil2', u_neg, u_not, m_two, s_end, s_end', s_end_iteN, s_res0, s_res1, s_tup1, s_tup2, ↓iteN_true, ↓iteN_false, iteN_true, iteN_false, Nat.zero_add, List.nil_append, List.append_nil, Nat.reduceEqDiff, reduceIte, decide_true, decide_false, Bool.not_true, Bool.not_false, List.getElem?_cons_zero, List.getElem?_cons_succ, Bool.false_eq_true, if_true, if_false, beq_self_eq_true]
              exact rfl, (by (simp only [s_getp, s_getp0, Nat.reduceEqDiff, decide_false, decide_true, iteN_false, iteN_true, t0]; try rfl)), (by (simp only [s_getp, s_getp0, Nat.reduceEqDiff, decide_false, decide_true, iteN_false, iteN_true, t0]; try rfl))⟩
          exact ⟨T', h, fun _ => ⟨q, ⟨u2, u3⟩, kp⟩, fun o k hh => by rw [fe] at hh; cases hh⟩
        · rw [if_neg cc] at fe
          have edr : (r.drop 1).take y = (s.drop (at_ + 2)).take y := by rw [← er', List.drop_drop]
          have eat : at_ + (1 + 1 + y) = at_ + 2 + y := by omega
          obtain ⟨h2, ao, co, eo, hz, hf, r2, gv2, ehz, scz, ap, rowf, kf⟩ := good (at_ + 2) (y) (by omega)
          have sv : slcV 1 (some (.int .i64 ((at_ + 2 : Nat) : Int))) (some (.int .i64 ((at_ + 2 + y : Nat) : Int))) none (.slice (some (bi, off)) s.length none 1) = some (.slice (upA (some (bi, off)) (at_ + 2)) (at_ + 2 + y - (at_ + 2)) none 1) := slcV_lhA _ _ _ _ _ _ (by omega) (by omega)
          rw [Nat.add_sub_cancel_left] at sv
          have wF : wr .i64 (((at_ + 2 : Nat) : Int) + ((y : Nat) : Int)) = ((at_ + 2 + y : Nat) : Int) := by rw [wr_i64 (by omega)]; omega
          have dF : decide ((s.length : Int) < ((at_ + 2 + y : Nat) : Int)) = false := decide_eq_false (by omega)
          obtain ⟨FN, eFN⟩ : ∃ k, at_ + 2 + y = k := ⟨_, rfl⟩
          rw [eFN] at sv wF dF
          obtain ⟨T', q, u0, u4, u5⟩ : ∃ T', evC (callX E X (M + 1)) 97 m none L_purserref10_Split_0 ⟨T, [], h⟩ = some (.normal, ⟨T', [], hf⟩) ∧ evO T' (.t 0) = .slice (some (bi, off)) s.length none 1 ∧ evO T' (.t 4) = .slice (some (hz.next, 0)) (dn.length + 1) none 2 ∧ evO T' (.t 5) = .int .i64 ((FN : Nat) : Int) := by
            generalize s.length = sl at *
            generalize dn.length = dl at *
            exact ⟨_, by
              simp (config := {maxSteps := 2000000}) (disch := first | omega | (simp only [List.length_cons, List.length_nil, List.length_append, List.length_drop]; omega)) only [L_purserref10_Split_0, t0, t4, t5, gv, cg0, cg1, c0, w1, w2, wc, wy, ixa, ix1, d76, d77, d1, d75, dg, r2, gv2, ehz, scz, ap, sv, wF, dF, vbeq_int, ↓x_slcS, x_M1, x_M0, s_bump_get, ↓s_append, ↓s_dBuildS, ↓s_dBuildSg, s_dbE, fl2, x_build, x_aggO, x_P0, x_P1, x_fill0, x_fills, x_fillb, x_filli, ↓s_len, x_lenS, ↓b_xor32, ↓b_and32, ↓b_or32, ↓u_not32, b_xor32, b_and32, b_or32, u_not32, w32ad, ↓x_conv, x_convV, ↓x_fieldAddr, x_fieldV, ↓s_nilchk, x_nilchk, Nat.zero_add, Nat.add_zero, Nat.mul_one, ↓s_evD, ↓s_dnil, ↓s_dL, ↓s_dLg, ↓s_dR, ↓s_dRg, ↓s_dRj, ↓s_dRjg, ↓s_dB, ↓s_dBg, ↓s_dAlloc, ↓s_bindD, s_bindD, s_finD, s_finDx, s_addP0, s_addP1, s_addB, s_lookP, ↓s_bump0, ↓s_bump_get, s_bump_next, s_ok0, ↓s_ok1, s_okR0, ↓s_okR1, ↓s_okE, s_okE, s_okE1, s_nth0, s_nthS, Nat.add_zero, Bool.and_self, Bool.and_true, Bool.true_and, ↓l_loop, ↓l_succ, ↓l_normal, l_normal, l_exit, l_ret, l_iteN, ↓h_put_get, ↓h_new_get, ↓h_del_get, h_next_put, h_next_new, h_next_del, Nat.add_assoc, Nat.add_eq_left, Nat.left_eq_add, Nat.add_left_cancel_iff, ↓s_load, m_load, ↓m_load1, m_load1, ↓m_st, m_stE, m_storeI, m_storeE, w_zero, w_succ, ↓s_alloc, ↓x_idxA, ↓x_idxS, x_idxAE, x_idxSE, x_addrE, x_idx, x_lenS, ↓s_len, ↓x_buildS, x_buildE, ↓x_P0, ↓x_P1, x_fill0, x_filli, x_fills, x_fillb, c_int, List.length_cons, List.length_nil, List.cons_append, List.drop_succ_cons, List.drop_zero, List.drop_nil, List.nil_append, Int.reduceAdd, Int.reduceToNat, Int.reduceLT, Int.reduceLE, Nat.reduceAdd, Nat.reduceMul, Nat.reduceLeDiff, Int.reduceEq, Int.reduceSub, Int.cast_ofNat_Int, s_resc, s_consR, m_load4, m_store4, s_res0, ↓s_skip, ↓s_ops, ↓s_dops, ↓s_seq, ↓s_cond, ↓s_block, ↓s_exit, ↓s_ret, ↓s_scope, ↓s_nil, ↓s_op, ↓s_opg, ↓s_wanted', ↓s_wantV, s_wantV, s_wantV0, beq_true, beq_false, ↓s_bindS, s_bindS, ↓s_bindE, s_bindE, s_bindE_ret, s_bindE_exit, s_bindE_iteN, s_norm, ↓s_condV, s_condV, s_block_ret, s_block_normal, s_block_exit, s_block_iteN, ↓s_getp, ↓s_getp0, ↓s_get, s_get0, ↓s_con, ↓s_fn, ↓s_os0, ↓s_os1, ↓s_list0, ↓s_list1, ↓s_mov, ↓s_pick, ↓s_pickE, s_pickE, ↓s_bin, ↓s_un, ↓s_minmax, ↓s_call, ↓s_callv, ↓s_callV, ↓s_ext, s_same, b_eql, b_neq, b_lss, b_leq, b_gtr, b_geq, b_add, b_sub, b_mul, b_eqlb, b_neqb, b_fnil, b_fnil', b_fnil2, b_fnil2', u_neg, u_not, m_two, s_end, s_end', s_end_iteN, s_res0, s_res1, s_tup1, s_tup2, ↓iteN_true, ↓iteN_false, iteN_true, iteN_false, Nat.zero_add, List.nil_append, List.append_nil, Nat.reduceEqDiff, reduceIte, decide_true, decide_false, Bool.not_true, Bool.not_false, List.getElem?_cons_zero, List.getElem?_cons_succ, Bool.false_eq_true, if_true, if_false, beq_self_eq_true]
              exact rfl, (by (simp only [s_getp, s_getp0, Nat.reduceEqDiff, decide_false, decide_true, iteN_false, iteN_true, t0]; try rfl)), (by (simp only [s_getp, s_getp0, Nat.reduceEqDiff, decide_false, decide_true, iteN_false, iteN_true, t0]; try rfl)), (by (simp only [s_getp, s_getp0, Nat.reduceEqDiff, decide_false, decide_true, iteN_false, iteN_true, t0]; try rfl))⟩
          exact ⟨T', hf, fun hh => (by rw [fe] at hh; cases hh), fun o k hh => by
            rw [fe] at hh
            cases hh
            exact ⟨q, u0, ⟨_, _, _, by rw [List.length_append]; exact u4, by rw [edr]; exact rowf⟩, by rw [eat, eFN]; exact u5, kf⟩⟩
    · have d76 : decide ((c : Int) = 76) = false := decide_eq_false (by omega)
      by_cases k7 : c = 77
      · have n1 : cnQ c = 2 := by rw [k7]; rfl
        have rd : rdN c r = r.getD 0 0 + 256 * r.getD 1 0 := by rw [k7]; rfl
        have d1 : decide ((1 : Int) ≤ (c : Int)) = true := decide_eq_true (by omega)
        have d75 : decide ((c : Int) ≤ 75) = false := decide_eq_false (by omega)
        have d77 : decide ((c : Int) = 77) = true := decide_eq_true (by omega)
        have fe := fst_cons c r
        rw [n1, rd] at fe
        have w2' : wr .i64 (((at_ + 1 : Nat) : Int) + 1) = ((at_ + 2 : Nat) : Int) := by rw [wr_i64 (by omega)]; omega
        by_cases c1 : r.length < 2
        · rw [if_pos c1] at fe
          have dg : decide ((s.length : Int) ≤ ((at_ + 2 : Nat) : Int)) = true := decide_eq_true (by omega)
          obtain ⟨sl, esl⟩ : ∃ n, s.length = n := ⟨_, rfl⟩
          obtain ⟨T', q, u2, u3⟩ : ∃ T', evC (callX E X (M + 1)) 97 m none L_purserref10_Split_0 ⟨T, [], h⟩ = some (.ret, ⟨T', [], h⟩) ∧ evO T' (.t 2) = .slice none 0 (some 0) 0 ∧ evO T' (.t 3) = .int .i64 100 := by
            rw [esl] at *
            exact ⟨_, by
              simp (config := {maxSteps := 2000000}) (disch := first | omega | (simp only [List.length_cons, List.length_nil, List.length_append, List.length_drop]; omega)) only [L_purserref10_Split_0, t0, t4, t5, gv, cg0, c0, w1, w2', wc, ixa, d76, d77, d1, d75, dg, ↓x_slcS, x_M1, x_M0, s_bump_get, ↓s_append, ↓s_dBuildS, ↓s_dBuildSg, s_dbE, fl2, x_build, x_aggO, x_P0, x_P1, x_fill0, x_fills, x_fillb, x_filli, ↓s_len, x_lenS, ↓b_xor32, ↓b_and32, ↓b_or32, ↓u_not32, b_xor32, b_and32, b_or32, u_not32, w32ad, ↓x_conv, x_convV, ↓x_fieldAddr, x_fieldV, ↓s_nilchk, x_nilchk, Nat.zero_add, Nat.add_zero, Nat.mul_one, ↓s_evD, ↓s_dnil, ↓s_dL, ↓s_dLg, ↓s_dR, ↓s_dRg, ↓s_dRj, ↓s_dRjg, ↓s_dB, ↓s_dBg, ↓s_dAlloc, ↓s_bindD, s_bindD, s_finD, s_finDx, s_addP0, s_addP1, s_addB, s_lookP, ↓s_bump0, ↓s_bump_get, s_bump_next, s_ok0, ↓s_ok1, s_okR0, ↓s_okR1, ↓s_okE, s_okE, s_okE1, s_nth0, s_nthS, Nat.add_zero, Bool.and_self, Bool.and_true, Bool.true_and, ↓l_loop, ↓l_succ, ↓l_normal, l_normal, l_exit, l_ret, l_iteN, ↓h_put_get, ↓h_new_get, ↓h_del_get, h_next_put, h_next_new, h_next_del, Nat.add_assoc, Nat.add_eq_left, Nat.left_eq_add, Nat.add_left_cancel_iff, ↓s_load, m_load, ↓m_load1, m_load1, ↓m_st, m_stE, m_storeI, m_storeE, w_zero, w_succ, ↓s_alloc, ↓x_idxA, ↓x_idxS, x_idxAE, x_idxSE, x_addrE, x_idx, x_lenS, ↓s_len, ↓x_buildS, x_buildE, ↓x_P0, ↓x_P1, x_fill0, x_filli, x_fills, x_fillb, c_int, List.length_cons, List.length_nil, List.cons_append, List.drop_succ_cons, List.drop_zero, List.drop_nil, List.nil_append, Int.reduceAdd, Int.reduceToNat, Int.reduceLT, Int.reduceLE, Nat.reduceAdd, Nat.reduceMul, Nat.reduceLeDiff, Int.reduceEq, Int.reduceSub, Int.cast_ofNat_Int, s_resc, s_consR, m_load4, m_store4, s_res0, ↓s_skip, ↓s_ops, ↓s_dops, ↓s_seq, ↓s_cond, ↓s_block, ↓s_exit, ↓s_ret, ↓s_scope, ↓s_nil, ↓s_op, ↓s_opg, ↓s_wanted', ↓s_wantV, s_wantV, s_wantV0, beq_true, beq_false, ↓s_bindS, s_bindS, ↓s_bindE, s_bindE, s_bindE_ret, s_bindE_exit, s_bindE_iteN, s_norm, ↓s_condV, s_condV, s_block_ret, s_block_normal, s_block_exit, s_block_iteN, ↓s_getp, ↓s_getp0, ↓s_get, s_get0, ↓s_con, ↓s_fn, ↓s_os0, ↓s_os1, ↓s_list0, ↓s_list1, ↓s_mov, ↓s_pick, ↓s_pickE, s_pickE, ↓s_bin, ↓s_un, ↓s_minmax, ↓s_call, ↓s_callv, ↓s_callV, ↓s_ext, s_same, b_eql, b_neq, b_lss, b_leq, b_gtr, b_geq, b_add, b_sub, b_mul, b_eqlb, b_neqb, b_fnil, b_fnil', b_fnil2, b_fnil2', u_neg, u_not, m_two, s_end, s_end', s_end_iteN, s_res0, s_res1, s_tup1, s_tup2, ↓iteN_true, ↓iteN_false, iteN_true, iteN_false, Nat.zero_add, List.nil_append, List.append_nil, Nat.reduceEqDiff, reduceIte, decide_true, decide_false, Bool.not_true, Bool.not_false, List.getElem?_cons_zero, List.getElem?_cons_succ, Bool.false_eq_true, if_true, if_false, beq_self_eq_true]
              exact rfl, (by (simp only [s_getp, s_getp0, Nat.reduceEqDiff, decide_false, decide_true, iteN_false, iteN_true, t0]; try rfl)), (by (simp only [s_getp, s_getp0, Nat.reduceEqDiff, decide_false, decide_true, iteN_false, iteN_true, t0]; try rfl))⟩
          exact ⟨T', h, fun _ => ⟨q, ⟨u2, u3⟩, kp⟩, fun o k hh => by rw [fe] at hh; cases hh⟩
        · rw [if_neg c1] at fe
          have dg : decide ((s.length : Int) ≤ ((at_ + 2 : Nat) : Int)) = false := decide_eq_false (by omega)
          obtain ⟨y, ey⟩ : ∃ y, r.getD 0 0 = y := ⟨_, rfl⟩
          obtain ⟨z, ez⟩ : ∃ y, r.getD 1 0 = y := ⟨_, rfl⟩
          have ey' := rg 0
          have ez' := rg 1
          rw [ey, Nat.add_zero] at ey'
          rw [ez] at ez'
          rw [ey, ez] at fe
          have yl : y < 256 := by rw [ey']; exact getD_byt bs _
          have zl : z < 256 := by rw [ez']; exact getD_byt bs _
          have cg1 : vs[off + (at_ + 1)]? = some (.int .u8 (y : Int)) := by rw [ey']; exact src_at (h := h) (a := none) (bi := bi) h6 (at_ + 1) (by omega)
          have cg2 : vs[off + (at_ + 2)]? = some (.int .u8 (z : Int)) := by rw [ez']; exact src_at (h := h) (a := none) (bi := bi) h6 (at_ + 2) (by omega)
          have ix1 : idx ((at_ + 1 : Nat) : Int) s.length = some (at_ + 1) := idxn (by omega)
          have ix2 : idx ((at_ + 2 : Nat) : Int) s.length = some (at_ + 2) := idxn (by omega)
          have wy : wr .i64 (y : Int) = (y : Int) := wr_i64 (by omega)
          have wz : wr .i64 (z : Int) = (z : Int) := wr_i64 (by omega)
          have wm : wr .i64 (256 * (z : Int)) = ((256 * z : Nat) : Int) := by rw [wr_i64 (by omega)]; omega
          have wa : wr .i64 ((y : Int) + ((256 * z : Nat) : Int)) = ((y + 256 * z : Nat) : Int) := by rw [wr_i64 (by omega)]; omega
          have w3 : wr .i64 (((at_ + 1 : Nat) : Int) + 2) = ((at_ + 3 : Nat) : Int) := by rw [wr_i64 (by omega)]; omega
          have nl : y + 256 * z < 65536 := by omega
          obtain ⟨n, en⟩ : ∃ n, y + 256 * z = n := ⟨_, rfl⟩
          rw [en] at fe wa nl
          obtain ⟨zz, ezz⟩ : ∃ n, 256 * z = n := ⟨_, rfl⟩
          rw [ezz] at wm wa
          by_cases cc : r.length < 2 + n
          · rw [if_pos cc] at fe
            have wF : wr .i64 (((at_ + 3 : Nat) : Int) + (n : Int)) = ((at_ + 3 + n : Nat) : Int) := by rw [wr_i64 (by omega)]; omega
            have dF : decide ((s.length : Int) < ((at_ + 3 + n : Nat) : Int)) = true := decide_eq_true (by omega)
            obtain ⟨FN, eFN⟩ : ∃ k, at_ + 3 + n = k := ⟨_, rfl⟩
            rw [eFN] at wF dF
            obtain ⟨sl, esl⟩ : ∃ n, s.length = n := ⟨_, rfl⟩
            obtain ⟨T', q, u2, u3⟩ : ∃ T', evC (callX E X (M + 1)) 97 m none L_purserref10_Split_0 ⟨T, [], h⟩ = some (.ret, ⟨T', [], h⟩) ∧ evO T' (.t 2) = .slice none 0 (some 0) 0 ∧ evO T' (.t 3) = .int .i64 100 := by
              rw [esl] at *
              exact ⟨_, by
                simp (config := {maxSteps := 2000000}) (disch := first | omega | (simp only [List.length_cons, List.length_nil, List.length_append, List.length_drop]; omega)) only [L_purserref10_Split_0, t0, t4, t5, gv, cg0, cg1, cg2, c0, w1, w2', w3, wc, wy, wz, wm, wa, ixa, ix1, ix2, d76, d77, d1, d75, dg, wF, dF, ↓x_slcS, x_M1, x_M0, s_bump_get, ↓s_append, ↓s_dBuildS, ↓s_dBuildSg, s_dbE, fl2, x_build, x_aggO, x_P0, x_P1, x_fill0, x_fills, x_fillb, x_filli, ↓s_len, x_lenS, ↓b_xor32, ↓b_and32, ↓b_or32, ↓u_not32, b_xor32, b_and32, b_or32, u_not32, w32ad, ↓x_conv, x_convV, ↓x_fieldAddr, x_fieldV, ↓s_nilchk, x_nilchk, Nat.zero_add, Nat.add_zero, Nat.mul_one, ↓s_evD, ↓s_dnil, ↓s_dL, ↓s_dLg, ↓s_dR, ↓s_dRg, ↓s_dRj, ↓s_dRjg, ↓s_dB, ↓s_dBg, ↓s_dAlloc, ↓s_bindD, s_bindD, s_finD, s_finDx, s_addP0, s_addP1, s_addB, s_lookP, ↓s_bump0, ↓s_bump_get, s_bump_next, s_ok0, ↓s_ok1, s_okR0, ↓s_okR1, ↓s_okE, s_okE, s_okE1, s_nth0, s_nthS, Nat.add_zero, Bool.and_self, Bool.and_true, Bool.true_and, ↓l_loop, ↓l_succ, ↓l_normal, l_normal, l_exit, l_ret, l_iteN, ↓h_put_get, ↓h_new_get, ↓h_del_get, h_next_put, h_next_new, h_next_del, Nat.add_assoc, Nat.add_eq_left, Nat.left_eq_add, Nat.add_left_cancel_iff, ↓s_load, m_load, ↓m_load1, m_load1, ↓m_st, m_stE, m_storeI, m_storeE, w_zero, w_succ, ↓s_alloc, ↓x_idxA, ↓x_idxS, x_idxAE, x_idxSE, x_addrE, x_idx, x_lenS, ↓s_len, ↓x_buildS, x_buildE, ↓x_P0, ↓x_P1, x_fill0, x_filli, x_fills, x_fillb, c_int, List.length_cons, List.length_nil, List.cons_append, List.drop_succ_cons, List.drop_zero, List.drop_nil, List.nil_append, Int.reduceAdd, Int.reduceToNat, Int.reduceLT, Int.reduceLE, Nat.reduceAdd, Nat.reduceMul, Nat.reduceLeDiff, Int.reduceEq, Int.reduceSub, Int.cast_ofNat_Int, s_resc, s_consR, m_load4, m_store4, s_res0, ↓s_skip, ↓s_ops, ↓s_dops, ↓s_seq, ↓s_cond, ↓s_block, ↓s_exit, ↓s_ret, ↓s_scope, ↓s_nil, ↓s_op, ↓s_opg, ↓s_wanted', ↓s_wantV, s_wantV, s_wantV0, beq_true, beq_false, ↓s_bindS, s_bindS, ↓s_bindE, s_bindE, s_bindE_ret, s_bindE_exit, s_bindE_iteN, s_norm, ↓s_condV, s_condV, s_block_ret, s_block_normal, s_block_exit, s_block_iteN, ↓s_getp, ↓s_getp0, ↓s_get, s_get0, ↓s_con, ↓s_fn, ↓s_os0, ↓s_os1, ↓s_list0, ↓s_list1, ↓s_mov, ↓s_pick, ↓s_pickE, s_pickE, ↓s_bin, ↓s_un, ↓s_minmax, ↓s_call, ↓s_callv, ↓s_callV, ↓s_ext, s_same, b_eql, b_neq, b_lss, b_leq, b_gtr, b_geq, b_add, b_sub, b_mul, b_eqlb, b_neqb, b_fnil, b_fnil', b_fnil2, b_fnil2', u_neg, u_not, m_two, s_end, s_end', s_end_iteN, s_res0, s_res1, s_tup1, s_tup2, ↓iteN_true, ↓iteN_false, iteN_true, iteN_false, Nat.zero_add, List.nil_append, List.append_nil, Nat.reduceEqDiff, reduceIte, decide_true, decide_false, Bool.not_true, Bool.not_false, List.getElem?_cons_zero, List.getElem?_cons_succ, Bool.false_eq_true, if_true, if_false, beq_self_eq_true]
                exact rfl, (by (simp only [s_getp, s_getp0, Nat.reduceEqDiff, decide_false, decide_true, iteN_false, iteN_true, t0]; try rfl)), (by (simp only [s_getp, s_getp0, Nat.reduceEqDiff, decide_false, decide_true, iteN_false, iteN_true, t0]; try rfl))⟩
            exact ⟨T', h, fun _ => ⟨q, ⟨u2, u3⟩, kp⟩, fun o k hh => by rw [fe] at hh; cases hh⟩
          · rw [if_neg cc] at fe
            have edr : (r.drop 2).take n = (s.drop (at_ + 3)).take n := by rw [← er', List.drop_drop]
            have eat : at_ + (1 + 2 + n) = at_ + 3 + n := by omega
            obtain ⟨h2, ao, co, eo, hz, hf, r2, gv2, ehz, scz, ap, rowf, kf⟩ := good (at_ + 3) (n) (by omega)
            have sv : slcV 1 (some (.int .i64 ((at_ + 3 : Nat) : Int))) (some (.int .i64 ((at_ + 3 + n : Nat) : Int))) none (.slice (some (bi, off)) s.length none 1) = some (.slice (upA (some (bi, off)) (at_ + 3)) (at_ + 3 + n - (at_ + 3)) none 1) := slcV_lhA _ _ _ _ _ _ (by omega) (by omega)
            rw [Nat.add_sub_cancel_left] at sv
            have wF : wr .i64 (((at_ + 3 : Nat) : Int) + ((n : Nat) : Int)) = ((at_ + 3 + n : Nat) : Int) := by rw [wr_i64 (by omega)]; omega
            have dF : decide ((s.length : Int) < ((at_ + 3 + n : Nat) : Int)) = false := decide_eq_false (by omega)
            obtain ⟨FN, eFN⟩ : ∃ k, at_ + 3 + n = k := ⟨_, rfl⟩
            rw [eFN] at sv wF dF
            obtain ⟨T', q, u0, u4, u5⟩ : ∃ T', evC (callX E X (M + 1)) 97 m none L_purserref10_Split_0 ⟨T, [], h⟩ = some (.normal, ⟨T', [], hf⟩) ∧ evO T' (.t 0) = .slice (some (bi, off)) s.length none 1 ∧ evO T' (.t 4) = .slice (some (hz.next, 0)) (dn.length + 1) none 2 ∧ evO T' (.t 5) = .int .i64 ((FN : Nat) : Int) := by
              generalize s.length = sl at *
              generalize dn.length = dl at *
              exact ⟨_, by
                simp (config := {maxSteps := 2000000}) (disch := first | omega | (simp only [List.length_cons, List.length_nil, List.length_append, List.length_drop]; omega)) only [L_purserref10_Split_0, t0, t4, t5, gv, cg0, cg1, cg2, c0, w1, w2', w3, wc, wy, wz, wm, wa, ixa, ix1, ix2, d76, d77, d1, d75, dg, r2, gv2, ehz, scz, ap, sv, wF, dF, vbeq_int, ↓x_slcS, x_M1, x_M0, s_bump_get, ↓s_append, ↓s_dBuildS, ↓s_dBuildSg, s_dbE, fl2, x_build, x_aggO, x_P0, x_P1, x_fill0, x_fills, x_fillb, x_filli, ↓s_len, x_lenS, ↓b_xor32, ↓b_and32, ↓b_or32, ↓u_not32, b_xor32, b_and32, b_or32, u_not32, w32ad, ↓x_conv, x_convV, ↓x_fieldAddr, x_fieldV, ↓s_nilchk, x_nilchk, Nat.zero_add, Nat.add_zero, Nat.mul_one, ↓s_evD, ↓s_dnil, ↓s_dL, ↓s_dLg, ↓s_dR, ↓s_dRg, ↓s_dRj, ↓s_dRjg, ↓s_dB, ↓s_dBg, ↓s_dAlloc, ↓s_bindD, s_bindD, s_finD, s_finDx, s_addP0, s_addP1, s_addB, s_lookP, ↓s_bump0, ↓s_bump_get, s_bump_next, s_ok0, ↓s_ok1, s_okR0, ↓s_okR1, ↓s_okE, s_okE, s_okE1, s_nth0, s_nthS, Nat.add_zero, Bool.and_self, Bool.and_true, Bool.true_and, ↓l_loop, ↓l_succ, ↓l_normal, l_normal, l_exit, l_ret, l_iteN, ↓h_put_get, ↓h_new_get, ↓h_del_get, h_next_put, h_next_new, h_next_del, Nat.add_assoc, Nat.add_eq_left, Nat.left_eq_add, Nat.add_left_cancel_iff, ↓s_load, m_load, ↓m_load1, m_load1, ↓m_st, m_stE, m_storeI, m_storeE, w_zero, w_succ, ↓s_alloc, ↓x_idxA, ↓x_idxS, x_idxAE, x_idxSE, x_addrE, x_idx, x_lenS, ↓s_len, ↓x_buildS, x_buildE, ↓x_P0, ↓x_P1, x_fill0, x_filli, x_fills, x_fillb, c_int, List.length_cons, List.length_nil, List.cons_append, List.drop_succ_cons, List.drop_zero, List.drop_nil, List.nil_append, Int.reduceAdd, Int.reduceToNat, Int.reduceLT, Int.reduceLE, Nat.reduceAdd, Nat.reduceMul, Nat.reduceLeDiff, Int.reduceEq, Int.reduceSub, Int.cast_ofNat_Int, s_resc, s_consR, m_load4, m_store4, s_res0, ↓s_skip, ↓s_ops, ↓s_dops, ↓s_seq, ↓s_cond, ↓s_block, ↓s_exit, ↓s_ret, ↓s_scope, ↓s_nil, ↓s_op, ↓s_opg, ↓s_wanted', ↓s_wantV, s_wantV, s_wantV0, beq_true, beq_false, ↓s_bindS, s_bindS, ↓s_bindE, s_bindE, s_bindE_ret, s_bindE_exit, s_bindE_iteN, s_norm, ↓s_condV, s_condV, s_block_ret, s_block_normal, s_block_exit, s_block_iteN, ↓s_getp, ↓s_getp0, ↓s_get, s_get0, ↓s_con, ↓s_fn, ↓s_os0, ↓s_os1, ↓s_list0, ↓s_list1, ↓s_mov, ↓s_pick, ↓s_pickE, s_pickE, ↓s_bin, ↓s_un, ↓s_minmax, ↓s_call, ↓s_callv, ↓s_callV, ↓s_ext, s_same, b_eql, b_neq, b_lss, b_leq, b_gtr, b_geq, b_add, b_sub, b_mul, b_eqlb, b_neqb, b_fnil, b_fnil', b_fnil2, b_fnil2', u_neg, u_not, m_two, s_end, s_end', s_end_iteN, s_res0, s_res1, s_tup1, s_tup2, ↓iteN_true, ↓iteN_false, iteN_true, iteN_false, Nat.zero_add, List.nil_append, List.append_nil, Nat.reduceEqDiff, reduceIte, decide_true, decide_false, Bool.not_true, Bool.not_false, List.getElem?_cons_zero, List.getElem?_cons_succ, Bool.false_eq_true, if_true, if_false, beq_self_eq_true]
                exact rfl, (by (simp only [s_getp, s_getp0, Nat.reduceEqDiff, decide_false, decide_true, iteN_false, iteN_true, t0]; try rfl)), (by (simp only [s_getp, s_getp0, Nat.reduceEqDiff, decide_false, decide_true, iteN_false, iteN_true, t0]; try rfl)), (by (simp only [s_getp, s_getp0, Nat.reduceEqDiff, decide_false, decide_true, iteN_false, iteN_true, t0]; try rfl))⟩
            exact ⟨T', hf, fun hh => (by rw [fe] at hh; cases hh), fun o k hh => by
              rw [fe] at hh
              cases hh
              exact ⟨q, u0, ⟨_, _, _, by rw [List.length_append]; exact u4, by rw [edr]; exact rowf⟩, by rw [eat, eFN]; exact u5, kf⟩⟩
      · have n0 : cnQ c = 0 := by unfold cnQ; rw [if_neg k7, if_neg k6]
        have d77 : decide ((c : Int) = 77) = false := decide_eq_false (by omega)
        have rd : rdN c r = 0 := by
          unfold rdN
          by_cases c5 : c ≤ 75
          · rw [if_pos c5]; omega
          · rw [if_neg c5, if_neg k7, if_neg k6]
        have fe := fst_cons c r
        rw [n0, rd, if_neg (by omega), if_neg (by omega)] at fe
        have edr : (r.drop 0).take 0 = (s.drop (at_ + 1)).take 0 := rfl
        have eat : at_ + (1 + 0 + 0) = at_ + 1 := by omega
        have i0 : (((0 : Nat) : Int)) = 0 := rfl
        by_cases cz : c = 0
        · have d1 : decide ((1 : Int) ≤ (c : Int)) = false := decide_eq_false (by omega)
          obtain ⟨h2, ao, co, eo, hz, hf, r2, gv2, ehz, scz, ap, rowf, kf⟩ := good (at_ + 1) (0) (by omega)
          have sv : slcV 1 (some (.int .i64 ((at_ + 1 : Nat) : Int))) (some (.int .i64 ((at_ + 1 : Nat) : Int))) none (.slice (some (bi, off)) s.length none 1) = some (.slice (upA (some (bi, off)) (at_ + 1)) (at_ + 1 - (at_ + 1)) none 1) := slcV_lhA _ _ _ _ _ _ (by omega) (by omega)
          rw [Nat.sub_self] at sv
          have wF : wr .i64 (((at_ + 1 : Nat) : Int) + (0 : Int)) = ((at_ + 1 : Nat) : Int) := by rw [wr_i64 (by omega)]; omega
          have dF : decide ((s.length : Int) < ((at_ + 1 : Nat) : Int)) = false := decide_eq_false (by omega)
          obtain ⟨T', q, u0, u4, u5⟩ : ∃ T', evC (callX E X (M + 1)) 97 m none L_purserref10_Split_0 ⟨T, [], h⟩ = some (.normal, ⟨T', [], hf⟩) ∧ evO T' (.t 0) = .slice (some (bi, off)) s.length none 1 ∧ evO T' (.t 4) = .slice (some (hz.next, 0)) (dn.length + 1) none 2 ∧ evO T' (.t 5) = .int .i64 ((at_ + 1 : Nat) : Int) := by
            generalize s.length = sl at *
            generalize dn.length = dl at *
            exact ⟨_, by
              simp (config := {maxSteps := 2000000}) (disch := first | omega | (simp only [List.length_cons, List.length_nil, List.length_append, List.length_drop]; omega)) only [L_purserref10_Split_0, t0, t4, t5, gv, cg0, c0, w1, wc, ixa, d76, d77, d1, i0, r2, gv2, ehz, scz, ap, sv, wF, dF, vbeq_int, ↓x_slcS, x_M1, x_M0, s_bump_get, ↓s_append, ↓s_dBuildS, ↓s_dBuildSg, s_dbE, fl2, x_build, x_aggO, x_P0, x_P1, x_fill0, x_fills, x_fillb, x_filli, ↓s_len, x_lenS, ↓b_xor32, ↓b_and32, ↓b_or32, ↓u_not32, b_xor32, b_and32, b_or32, u_not32, w32ad, ↓x_conv, x_convV, ↓x_fieldAddr, x_fieldV, ↓s_nilchk, x_nilchk, Nat.zero_add, Nat.add_zero, Nat.mul_one, ↓s_evD, ↓s_dnil, ↓s_dL, ↓s_dLg, ↓s_dR, ↓s_dRg, ↓s_dRj, ↓s_dRjg, ↓s_dB, ↓s_dBg, ↓s_dAlloc, ↓s_bindD, s_bindD, s_finD, s_finDx, s_addP0, s_addP1, s_addB, s_lookP, ↓s_bump0, ↓s_bump_get, s_bump_next, s_ok0, ↓s_ok1, s_okR0, ↓s_okR1, ↓s_okE, s_okE, s_okE1, s_nth0, s_nthS, Nat.add_zero, Bool.and_self, Bool.and_true, Bool.true_and, ↓l_loop, ↓l_succ, ↓l_normal, l_normal, l_exit, l_ret, l_iteN, ↓h_put_get, ↓h_new_get, ↓h_del_get, h_next_put, h_next_new, h_next_del, Nat.add_assoc, Nat.add_eq_left, Nat.left_eq_add, Nat.add_left_cancel_iff, ↓s_load, m_load, ↓m_load1, m_load1, ↓m_st, m_stE, m_storeI, m_storeE, w_zero, w_succ, ↓s_alloc, ↓x_idxA, ↓x_idxS, x_idxAE, x_idxSE, x_addrE, x_idx, x_lenS, ↓s_len, ↓x_buildS, x_buildE, ↓x_P0, ↓x_P1, x_fill0, x_filli, x_fills, x_fillb, c_int, List.length_cons, List.length_nil, List.cons_append, List.drop_succ_cons, List.drop_zero, List.drop_nil, List.nil_append, Int.reduceAdd, Int.reduceToNat, Int.reduceLT, Int.reduceLE, Nat.reduceAdd, Nat.reduceMul, Nat.reduceLeDiff, Int.reduceEq, Int.reduceSub, Int.cast_ofNat_Int, s_resc, s_consR, m_load4, m_store4, s_res0, ↓s_skip, ↓s_ops, ↓s_dops, ↓s_seq, ↓s_cond, ↓s_block, ↓s_exit, ↓s_ret, ↓s_scope, ↓s_nil, ↓s_op, ↓s_opg, ↓s_wanted', ↓s_wantV, s_wantV, s_wantV0, beq_true, beq_false, ↓s_bindS, s_bindS, ↓s_bindE, s_bindE, s_bindE_ret, s_bindE_exit, s_bindE_iteN, s_norm, ↓s_condV, s_condV, s_block_ret, s_block_normal, s_block_exit, s_block_iteN, ↓s_getp, ↓s_getp0, ↓s_get, s_get0, ↓s_con, ↓s_fn, ↓s_os0, ↓s_os1, ↓s_list0, ↓s_list1, ↓s_mov, ↓s_pick, ↓s_pickE, s_pickE, ↓s_bin, ↓s_un, ↓s_minmax, ↓s_call, ↓s_callv, ↓s_callV, ↓s_ext, s_same, b_eql, b_neq, b_lss, b_leq, b_gtr, b_geq, b_add, b_sub, b_mul, b_eqlb, b_neqb, b_fnil, b_fnil', b_fnil2, b_fnil2', u_neg, u_not, m_two, s_end, s_end', s_end_iteN, s_res0, s_res1, s_tup1, s_tup2, ↓iteN_true, ↓iteN_false, iteN_true, iteN_false, Nat.zero_add, List.nil_append, List.append_nil, Nat.reduceEqDiff, reduceIte, decide_true, decide_false, Bool.not_true, Bool.not_false, List.getElem?_cons_zero, List.getElem?_cons_succ, Bool.false_eq_true, if_true, if_false, beq_self_eq_true]
              exact rfl, (by (simp only [s_getp, s_getp0, Nat.reduceEqDiff, decide_false, decide_true, iteN_false, iteN_true, t0]; try rfl)), (by (simp only [s_getp, s_getp0, Nat.reduceEqDiff, decide_false, decide_true, iteN_false, iteN_true, t0]; try rfl)), (by (simp only [s_getp, s_getp0, Nat.reduceEqDiff, decide_false, decide_true, iteN_false, iteN_true, t0]; try rfl))⟩
          exact ⟨T', hf, fun hh => (by rw [fe] at hh; cases hh), fun o k hh => by
            rw [fe] at hh
            cases hh
            exact ⟨q, u0, ⟨_, _, _, by rw [List.length_append]; exact u4, by rw [edr]; exact rowf⟩, by rw [eat]; exact u5, kf⟩⟩
        · have d1 : decide ((1 : Int) ≤ (c : Int)) = true := decide_eq_true (by omega)
          have d75 : decide ((c : Int) ≤ 75) = false := decide_eq_false (by omega)
          obtain ⟨h2, ao, co, eo, hz, hf, r2, gv2, ehz, scz, ap, rowf, kf⟩ := good (at_ + 1) (0) (by omega)
          have sv : slcV 1 (some (.int .i64 ((at_ + 1 : Nat) : Int))) (some (.int .i64 ((at_ + 1 : Nat) : Int))) none (.slice (some (bi, off)) s.length none 1) = some (.slice (upA (some (bi, off)) (at_ + 1)) (at_ + 1 - (at_ + 1)) none 1) := slcV_lhA _ _ _ _ _ _ (by omega) (by omega)
          rw [Nat.sub_self] at sv
          have wF : wr .i64 (((at_ + 1 : Nat) : Int) + (0 : Int)) = ((at_ + 1 : Nat) : Int) := by rw [wr_i64 (by omega)]; omega
          have dF : decide ((s.length : Int) < ((at_ + 1 : Nat) : Int)) = false := decide_eq_false (by omega)
          obtain ⟨T', q, u0, u4, u5⟩ : ∃ T', evC (callX E X (M + 1)) 97 m none L_purserref10_Split_0 ⟨T, [], h⟩ = some (.normal, ⟨T', [], hf⟩) ∧ evO T' (.t 0) = .slice (some (bi, off)) s.length none 1 ∧ evO T' (.t 4) = .slice (some (hz.next, 0)) (dn.length + 1) none 2 ∧ evO T' (.t 5) = .int .i64 ((at_ + 1 : Nat) : Int) := by
            generalize s.length = sl at *
            generalize dn.length = dl at *
            exact ⟨_, by
              simp (config := {maxSteps := 2000000}) (disch := first | omega | (simp only [List.length_cons, List.length_nil, List.length_append, List.length_drop]; omega)) only [L_purserref10_Split_0, t0, t4, t5, gv, cg0, c0, w1, wc, ixa, d76, d77, d1, d75, i0, r2, gv2, ehz, scz, ap, sv, wF, dF, vbeq_int, ↓x_slcS, x_M1, x_M0, s_bump_get, ↓s_append, ↓s_dBuildS, ↓s_dBuildSg, s_dbE, fl2, x_build, x_aggO, x_P0, x_P1, x_fill0, x_fills, x_fillb, x_filli, ↓s_len, x_lenS, ↓b_xor32, ↓b_and32, ↓b_or32, ↓u_not32, b_xor32, b_and32, b_or32, u_not32, w32ad, ↓x_conv, x_convV, ↓x_fieldAddr, x_fieldV, ↓s_nilchk, x_nilchk, Nat.zero_add, Nat.add_zero, Nat.mul_one, ↓s_evD, ↓s_dnil, ↓s_dL, ↓s_dLg, ↓s_dR, ↓s_dRg, ↓s_dRj, ↓s_dRjg, ↓s_dB, ↓s_dBg, ↓s_dAlloc, ↓s_bindD, s_bindD, s_finD, s_finDx, s_addP0, s_addP1, s_addB, s_lookP, ↓s_bump0, ↓s_bump_get, s_bump_next, s_ok0, ↓s_ok1, s_okR0, ↓s_okR1, ↓s_okE, s_okE, s_okE1, s_nth0, s_nthS, Nat.add_zero, Bool.and_self, Bool.and_true, Bool.true_and, ↓l_loop, ↓l_succ, ↓l_normal, l_normal, l_exit, l_ret, l_iteN, ↓h_put_get, ↓h_new_get, ↓h_del_get, h_next_put, h_next_new, h_next_del, Nat.add_assoc, Nat.add_eq_left, Nat.left_eq_add, Nat.add_left_cancel_iff, ↓s_load, m_load, ↓m_load1, m_load1, ↓m_st, m_stE, m_storeI, m_storeE, w_zero, w_succ, ↓s_alloc, ↓x_idxA, ↓x_idxS, x_idxAE, x_idxSE, x_addrE, x_idx, x_lenS, ↓s_len, ↓x_buildS, x_buildE, ↓x_P0, ↓x_P1, x_fill0, x_filli, x_fills, x_fillb, c_int, List.length_cons, List.length_nil, List.cons_append, List.drop_succ_cons, List.drop_zero, List.drop_nil, List.nil_append, Int.reduceAdd, Int.reduceToNat, Int.reduceLT, Int.reduceLE, Nat.reduceAdd, Nat.reduceMul, Nat.reduceLeDiff, Int.reduceEq, Int.reduceSub, Int.cast_ofNat_Int, s_resc, s_consR, m_load4, m_store4, s_res0, ↓s_skip, ↓s_ops, ↓s_dops, ↓s_seq, ↓s_cond, ↓s_block, ↓s_exit, ↓s_ret, ↓s_scope, ↓s_nil, ↓s_op, ↓s_opg, ↓s_wanted', ↓s_wantV, s_wantV, s_wantV0, beq_true, beq_false, ↓s_bindS, s_bindS, ↓s_bindE, s_bindE, s_bindE_ret, s_bindE_exit, s_bindE_iteN, s_norm, ↓s_condV, s_condV, s_block_ret, s_block_normal, s_block_exit, s_block_iteN, ↓s_getp, ↓s_getp0, ↓s_get, s_get0, ↓s_con, ↓s_fn, ↓s_os0, ↓s_os1, ↓s_list0, ↓s_list1, ↓s_mov, ↓s_pick, ↓s_pickE, s_pickE, ↓s_bin, ↓s_un, ↓s_minmax, ↓s_call, ↓s_callv, ↓s_callV, ↓s_ext, s_same, b_eql, b_neq, b_lss, b_leq, b_gtr, b_geq, b_add, b_sub, b_mul, b_eqlb, b_neqb, b_fnil, b_fnil', b_fnil2, b_fnil2', u_neg, u_not, m_two, s_end, s_end', s_end_iteN, s_res0, s_res1, s_tup1, s_tup2, ↓iteN_true, ↓iteN_false, iteN_true, iteN_false, Nat.zero_add, List.nil_append, List.append_nil, Nat.reduceEqDiff, reduceIte, decide_true, decide_false, Bool.not_true, Bool.not_false, List.getElem?_cons_zero, List.getElem?_cons_succ, Bool.false_eq_true, if_true, if_false, beq_self_eq_true]
              exact rfl, (by (simp only [s_getp, s_getp0, Nat.reduceEqDiff, decide_false, decide_true, iteN_false, iteN_true, t0]; try rfl)), (by (simp only [s_getp, s_getp0, Nat.reduceEqDiff, decide_false, decide_true, iteN_false, iteN_true, t0]; try rfl)), (by (simp only [s_getp, s_getp0, Nat.reduceEqDiff, decide_false, decide_true, iteN_false, iteN_true, t0]; try rfl))⟩
          exact ⟨T', hf, fun hh => (by rw [fe] at hh; cases hh), fun o k hh => by
            rw [fe] at hh
            cases hh
            exact ⟨q, u0, ⟨_, _, _, by rw [List.length_append]; exact u4, by rw [edr]; exact rowf⟩, by rw [eat]; exact u5, kf⟩⟩
end Go.Eng
