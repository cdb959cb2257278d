/- What functions of the program come to: own work. -/
import Derived.Test.YtcgfhdhjanmgaaaMpC
namespace Go.Eng
open Go
variable {E : Nat → Option Fn} {X : Orc}
set_option linter.unusedSimpArgs false
set_option linter.unusedVariables false
theorem vbq_slc (a : Option (Nat × Nat)) (l : Nat) (c : Option Nat) (e : Nat) : V.beq (.slice a l c e) (.slice a l c e) = true := by unfold V.beq; simp
structure EnTwo (E : Nat → Option Fn) : Prop where
  two : E k_purserlaw08_two = some f_purserlaw08_two
theorem two_go (e : EnTwo E) (x : ∀ a h, X (.fn k_purserlaw08_two) a h = none) (hx : HasTw E X) (N : Nat) (A B : List Nat) (hA : A.length = 32) (hB : B.length = 32) (h : H) :
    ∃ h', callX E X (N + 2) (.fn k_purserlaw08_two) [.agg (ofI .u8 A), .agg (ofI .u8 B)] h = some (.agg (ofI .u8 (tw (A ++ B))), h') ∧ Kp h h' := by
  rw [x_cfn e.two _ _ (Nat.le_of_ble_eq_true rfl) (x _ _)]
  rw [← z32e]
  have lt := tw_len (A ++ B)
  obtain ⟨Z, eZ⟩ : ∃ Z, ofI .u8 (List.replicate 32 0) = Z := ⟨_, rfl⟩
  rw [eZ]
  have ca' : ∀ l : List V, (V.agg l).cells = l := fun _ => rfl
  obtain ⟨h1, e1⟩ : ∃ h1, ((h.new (.cells (ofI .u8 A) .rw)).new (.cells (ofI .u8 B) .rw)).new (.cells Z .rw) = h1 := ⟨_, rfl⟩
  have n1 : h1.next = h.next + 3 := by rw [← e1]; rfl
  have gA : h1.get h.next = some (.cells (ofI .u8 A) .rw) := by rw [← e1]; (simp (disch := omega) only [l_loop, l_succ, l_normal, l_normal, l_exit, l_ret, l_iteN, h_put_get, h_new_get, h_del_get, h_next_put, h_next_new, h_next_del, Nat.add_assoc, Nat.add_eq_left, Nat.left_eq_add, Nat.add_left_cancel_iff, s_load, m_load, m_load1, m_load1, m_st, m_stE, m_storeI, m_storeE, w_zero, w_succ, s_alloc, x_idxA, x_idxS, x_idxAE, x_idxSE, x_addrE, x_idx, x_lenS, s_len, x_buildS, x_buildE, x_P0, x_P1, x_fill0, x_filli, x_fills, x_fillb, c_int, List.length_cons, List.length_nil, List.cons_append, List.drop_succ_cons, List.drop_zero, List.drop_nil, List.nil_append, Int.reduceAdd, Int.reduceToNat, Int.reduceLT, Int.reduceLE, Nat.reduceAdd, Nat.reduceMul, Nat.reduceLeDiff, Int.reduceEq, Int.reduceSub, Int.cast_ofNat_Int, s_resc, s_consR, m_load4, m_store4, s_res0, decide_true, decide_false, iteN_true, iteN_false, Nat.reduceEqDiff, Nat.reduceAdd, reduceCtorEq, ]; try rfl)
  have gB : h1.get (h.next + 1) = some (.cells (ofI .u8 B) .rw) := by rw [← e1]; (simp (disch := omega) only [l_loop, l_succ, l_normal, l_normal, l_exit, l_ret, l_iteN, h_put_get, h_new_get, h_del_get, h_next_put, h_next_new, h_next_del, Nat.add_assoc, Nat.add_eq_left, Nat.left_eq_add, Nat.add_left_cancel_iff, s_load, m_load, m_load1, m_load1, m_st, m_stE, m_storeI, m_storeE, w_zero, w_succ, s_alloc, x_idxA, x_idxS, x_idxAE, x_idxSE, x_addrE, x_idx, x_lenS, s_len, x_buildS, x_buildE, x_P0, x_P1, x_fill0, x_filli, x_fills, x_fillb, c_int, List.length_cons, List.length_nil, List.cons_append, List.drop_succ_cons, List.drop_zero, List.drop_nil, List.nil_append, Int.reduceAdd, Int.reduceToNat, Int.reduceLT, Int.reduceLE, Nat.reduceAdd, Nat.reduceMul, Nat.reduceLeDiff, Int.reduceEq, Int.reduceSub, Int.cast_ofNat_Int, s_resc, s_consR, m_load4, m_store4, s_res0, decide_true, decide_false, iteN_true, iteN_false, Nat.reduceEqDiff, Nat.reduceAdd, reduceCtorEq, ]; try rfl)
  have gz : h1.get (h.next + 2) = some (.cells Z .rw) := by rw [← e1]; (simp (disch := omega) only [l_loop, l_succ, l_normal, l_normal, l_exit, l_ret, l_iteN, h_put_get, h_new_get, h_del_get, h_next_put, h_next_new, h_next_del, Nat.add_assoc, Nat.add_eq_left, Nat.left_eq_add, Nat.add_left_cancel_iff, s_load, m_load, m_load1, m_load1, m_st, m_stE, m_storeI, m_storeE, w_zero, w_succ, s_alloc, x_idxA, x_idxS, x_idxAE, x_idxSE, x_addrE, x_idx, x_lenS, s_len, x_buildS, x_buildE, x_P0, x_P1, x_fill0, x_filli, x_fills, x_fillb, c_int, List.length_cons, List.length_nil, List.cons_append, List.drop_succ_cons, List.drop_zero, List.drop_nil, List.nil_append, Int.reduceAdd, Int.reduceToNat, Int.reduceLT, Int.reduceLE, Nat.reduceAdd, Nat.reduceMul, Nat.reduceLeDiff, Int.reduceEq, Int.reduceSub, Int.cast_ofNat_Int, s_resc, s_consR, m_load4, m_store4, s_res0, decide_true, decide_false, iteN_true, iteN_false, Nat.reduceEqDiff, Nat.reduceAdd, reduceCtorEq, ]; try rfl)
  have k1 : Kp h h1 := by rw [← e1]; (repeat (first | exact Kp.refl _ | refine Kp.put ?_ _ (by first | omega | (simp only [h_next_put, h_next_new, h_next_del]; omega)) | refine Kp.del ?_ (by first | omega | (simp only [h_next_put, h_next_new, h_next_del]; omega)) | refine Kp.trans ?_ (Kp.new _ _)))
  obtain ⟨h2, e2⟩ : ∃ h2, (bump 1 h1).put (h.next + 3) (.cells [] .rw) = h2 := ⟨_, rfl⟩
  have n2 : h2.next = h.next + 4 := by rw [← e2, h_next_put, s_bump_next, n1]
  have k2 : Kp h1 h2 := ⟨by omega, fun j hj => by rw [← e2, h_put_ne _ _ (by omega), s_bump_get]⟩
  have g23 : h2.get (h.next + 3) = some (.cells [] .rw) := by rw [← e2]; exact h_put_same _ _ _
  have sA : srcCells h2 1 (.slice (some (h.next, 0)) 32 (some 32) 1) = some (32, ofI .u8 A) := by
    rw [m_src, k2.2 _ (by omega), gA, srcI _ _ _ _ _ (by omega), List.drop_zero, take_all _ _ (by omega)]
  obtain ⟨h3, e3⟩ : ∃ h3, h2.new (.cells (ofI .u8 A) .rw) = h3 := ⟨_, rfl⟩
  have ap1 : appendC h2 1 1 (.slice (some (h.next + 3, 0)) 0 (some 0) 1) (some (32, ofI .u8 A)) = some (.slice (some (h.next + 4, 0)) 32 none 1, h3) := by
    rw [appF_of _ _ _ _ _ _ _ _ (by omega) (by omega), g23, appF0, n2, e3]
  have n3 : h3.next = h.next + 5 := by rw [← e3, h_next_new, n2]
  have k3 : Kp h2 h3 := by rw [← e3]; (repeat (first | exact Kp.refl _ | refine Kp.put ?_ _ (by first | omega | (simp only [h_next_put, h_next_new, h_next_del]; omega)) | refine Kp.del ?_ (by first | omega | (simp only [h_next_put, h_next_new, h_next_del]; omega)) | refine Kp.trans ?_ (Kp.new _ _)))
  have g3 : h3.get (h.next + 4) = some (.cells (ofI .u8 A) .rw) := by rw [← e3]; exact h_new_same' _ _ n2
  have sB : srcCells h3 1 (.slice (some (h.next + 1, 0)) 32 (some 32) 1) = some (32, ofI .u8 B) := by
    rw [m_src, k3.2 _ (by omega), k2.2 _ (by omega), gB, srcI _ _ _ _ _ (by omega), List.drop_zero, take_all _ _ (by omega)]
  obtain ⟨h4, e4⟩ : ∃ h4, (h3.del (h.next + 4)).new (.cells (ofI .u8 (A ++ B)) .sh) = h4 := ⟨_, rfl⟩
  have ap2 : appendC h3 1 1 (.slice (some (h.next + 4, 0)) 32 none 1) (some (32, ofI .u8 B)) = some (.slice (some (h.next + 5, 0)) 64 none 1, h4) := by
    rw [appU_of _ _ _ _ _ _ (by omega), g3, appUIw _ _ _ _ _ _ _ (by omega), take_all _ _ (by omega), n3, e4]
  have n4 : h4.next = h.next + 6 := by rw [← e4, h_next_new, h_next_del, n3]
  have f4 : ∀ j, j < h.next + 4 → h4.get j = h1.get j ∨ j = h.next + 3 := fun j hj => by
    by_cases hj3 : j = h.next + 3
    · exact .inr hj3
    · left; rw [← e4, h_new_ne _ _ (by rw [h_next_del]; omega), h_del_ne _ (by omega), k3.2 _ (by omega), k2.2 _ (by omega)]
  have g4 : h4.get (h.next + 5) = some (.cells (ofI .u8 (A ++ B)) .sh) := by rw [← e4]; exact h_new_same' _ _ (by rw [h_next_del, n3])
  have g4z : h4.get (h.next + 2) = some (.cells Z .rw) := by rw [(f4 _ (by omega)).resolve_right (by omega), gz]
  have t4 := tw64 hx N (h.next + 5) (A ++ B) (by rw [List.length_append]; omega) none .sh h4 (by omega) g4
  obtain ⟨TW, eT⟩ : ∃ l, tw (A ++ B) = l := ⟨_, rfl⟩
  rw [eT] at t4 lt ⊢
  have st : ∀ h i, storeV h 32 (.ptr (some (i, 0))) (.agg (ofI .u8 TW)) = storeE (h.get i) h i 0 (ofI .u8 TW) := fun h i => st32 h i 0 _ lt
  have pu : ∀ h i, storeE (some (.cells Z .rw)) h i 0 (ofI .u8 TW) = some (h.put i (.cells (ofI .u8 TW) .rw)) := fun h i => by
    rw [m_storeE _ _ _ _ _ (by rw [← eZ, ofI_len, ofI_len, lt, List.length_replicate]; omega), ← eZ, wrAll _ _ _ (by rw [List.length_replicate, lt])]
  have lds : ∀ m, loadE (some (.cells (ofI .u8 TW) m)) (some 32) 0 = some (.agg (ofI .u8 TW)) := fun m => by rw [m_loadN, x_readAll _ 32 (by rw [ofI_len, lt])]
  have sb0 : ∀ (g : H) m, slcB (some (.cells (ofI .u8 A) m)) 32 1 h.next 0 none none g = some (.slice (some (h.next, 0)) 32 (some 32) 1, g) := fun h m => slcB_nn _ _ _ _ _ _ (by rw [ofI_len]; omega)
  have sb1 : ∀ (g : H) m, slcB (some (.cells (ofI .u8 B) m)) 32 1 (h.next + 1) 0 none none g = some (.slice (some (h.next + 1, 0)) 32 (some 32) 1, g) := fun h m => slcB_nn _ _ _ _ _ _ (by rw [ofI_len]; omega)
  have g1B : h2.get (h.next + 1) = some (.cells (ofI .u8 B) .rw) := by rw [k2.2 _ (by omega), gB]
  have g3B : h3.get (h.next + 1) = some (.cells (ofI .u8 B) .rw) := by rw [k3.2 _ (by omega), g1B]
  refine ⟨h4.put (h.next + 2) (.cells (ofI .u8 TW) .rw), ?_, ⟨by show h.next ≤ h4.next; omega, fun j hj => by rw [h_put_ne _ _ (by omega), (f4 _ (by omega)).resolve_right (by omega), k1.2 _ hj]⟩⟩
  generalize ofI .u8 TW = S0 at *
  generalize ofI .u8 (A ++ B) = CAB at *
  generalize ofI .u8 A = CA at *
  generalize ofI .u8 B = CB at *
  simp (config := {maxSteps := 2000000}) (disch := first | omega | (simp only [List.length_cons, List.length_nil, List.length_append, List.length_drop]; omega)) only [vbq_slc, ca', e1, n1, gA, gB, g1B, g3B, sb0, sb1, e2, sA, ap1, sB, ap2, t4, g4z, st, pu, lds, ↓s_append, ↓s_dBuildS, s_dbE, ↓x_slcA, x_slcAE, x_M1, x_M0, ↓s_box, ↓b_xor32, ↓b_and32, ↓b_or32, ↓u_not32, b_xor32, b_and32, b_or32, u_not32, w32ad, ↓x_conv, x_convV, ↓x_fieldAddr, x_fieldV, ↓s_nilchk, x_nilchk, Nat.zero_add, Nat.add_zero, Nat.mul_one, ↓s_evD, ↓s_dnil, ↓s_dL, ↓s_dLg, ↓s_dR, ↓s_dRg, ↓s_dRj, ↓s_dRjg, ↓s_dB, ↓s_dBg, ↓s_dAlloc, ↓s_bindD, s_bindD, s_finD, s_finDx, s_addP0, s_addP1, s_addB, s_lookP, ↓s_bump0, ↓s_bump_get, s_bump_next, s_ok0, ↓s_ok1, s_okR0, ↓s_okR1, ↓s_okE, s_okE, s_okE1, s_nth0, s_nthS, Nat.add_zero, Bool.and_self, Bool.and_true, Bool.true_and, ↓l_loop, ↓l_succ, ↓l_normal, l_normal, l_exit, l_ret, l_iteN, ↓h_put_get, ↓h_new_get, ↓h_del_get, h_next_put, h_next_new, h_next_del, Nat.add_assoc, Nat.add_eq_left, Nat.left_eq_add, Nat.add_left_cancel_iff, ↓s_load, m_load, ↓m_load1, m_load1, ↓m_st, m_stE, m_storeI, m_storeE, w_zero, w_succ, ↓s_alloc, ↓x_idxA, ↓x_idxS, x_idxAE, x_idxSE, x_addrE, x_idx, x_lenS, ↓s_len, ↓x_buildS, x_buildE, ↓x_P0, ↓x_P1, x_fill0, x_filli, x_fills, x_fillb, c_int, List.length_cons, List.length_nil, List.cons_append, List.drop_succ_cons, List.drop_zero, List.drop_nil, List.nil_append, Int.reduceAdd, Int.reduceToNat, Int.reduceLT, Int.reduceLE, Nat.reduceAdd, Nat.reduceMul, Nat.reduceLeDiff, Int.reduceEq, Int.reduceSub, Int.cast_ofNat_Int, s_resc, s_consR, m_load4, m_store4, s_res0, ↓s_skip, ↓s_ops, ↓s_dops, ↓s_seq, ↓s_cond, ↓s_block, ↓s_exit, ↓s_ret, ↓s_scope, ↓s_nil, ↓s_op, ↓s_opg, ↓s_wanted', ↓s_wantV, s_wantV, s_wantV0, beq_true, beq_false, ↓s_bindS, s_bindS, ↓s_bindE, s_bindE, s_bindE_ret, s_bindE_exit, s_bindE_iteN, s_norm, ↓s_condV, s_condV, s_block_ret, s_block_normal, s_block_exit, s_block_iteN, ↓s_getp, ↓s_getp0, ↓s_get, s_get0, ↓s_con, ↓s_fn, ↓s_os0, ↓s_os1, ↓s_list0, ↓s_list1, ↓s_mov, ↓s_pick, ↓s_pickE, s_pickE, ↓s_bin, ↓s_un, ↓s_minmax, ↓s_call, ↓s_callv, ↓s_callV, ↓s_ext, s_same, b_eql, b_neq, b_lss, b_leq, b_gtr, b_geq, b_add, b_sub, b_mul, b_eqlb, b_neqb, b_fnil, b_fnil', b_fnil2, b_fnil2', u_neg, u_not, m_two, s_end, s_end', s_end_iteN, s_res0, s_res1, s_tup1, s_tup2, ↓iteN_true, ↓iteN_false, iteN_true, iteN_false, Nat.zero_add, List.nil_append, List.append_nil, Nat.reduceEqDiff, reduceIte, decide_true, decide_false, Bool.not_true, Bool.not_false, List.getElem?_cons_zero, List.getElem?_cons_succ, Bool.false_eq_true, if_true, if_false, beq_self_eq_true]
end Go.Eng
namespace Go.Eng
open Go
variable {E : Nat → Option Fn} {X : Orc}
set_option linter.unusedSimpArgs false
set_option linter.unusedVariables false
theorem hasTw_st (k : Nat) : HasTw E (stX k) := fun N l a c h ez src hl => x_twH k N l a c h src hl
theorem noRt_st : NoRt (stX k_purserlaw08_alive) := by repeat' (first | exact fun _ _ => rfl | exact fun _ _ _ => rfl | exact fun _ => rfl | constructor)
theorem RowB.take {k : Nat} {vs : List V} {L : List (List Nat)} (r : RowB k vs L) (n : Nat) : RowB k vs (L.take n) := by
  refine ⟨Nat.le_trans (Nat.mul_le_mul_right k (by rw [List.length_take]; omega)) r.1, fun i o ho => ?_⟩
  rw [List.getElem?_take] at ho
  split at ho
  · exact r.2 i o ho
  · cases ho
theorem RowB.dropL {k : Nat} {vs : List V} {off : Nat} {L : List (List Nat)} (r : RowB k (vs.drop off) L) (n : Nat) (hn : n ≤ L.length) : RowB k (vs.drop (off + n * k)) (L.drop n) := by
  refine ⟨?_, fun i o ho => ?_⟩
  · have h1 := r.1
    have h3 : (vs.drop (off + n * k)).length = vs.length - (off + n * k) := List.length_drop ..
    have h4 : (vs.drop off).length = vs.length - off := List.length_drop ..
    have h2 : (L.drop n).length * k + n * k = L.length * k := by rw [← Nat.add_mul, List.length_drop, Nat.sub_add_cancel hn]
    omega
  · rw [List.getElem?_drop] at ho
    have := r.2 _ o ho
    rw [List.drop_drop, Nat.add_mul, ← Nat.add_assoc] at this
    rw [List.drop_drop]; exact this
theorem quo2 (n : Nat) (hn : n < 4611686018427387904) (e : EqK) (h : H) : binV .quo e h (.int .i64 (n : Int)) (.int .i64 2) = some (.int .i64 ((n / 2 : Nat) : Int)) := by
  rw [b_quo _ _ _ _ _ (by omega), show Int.tdiv (n : Int) 2 = ((n / 2 : Nat) : Int) from rfl, wr_i64 (by omega)]
structure Cel (g g' : H) (R : List Nat) : Prop where
  eq : (g.new (.cells (ofI .u8 (List.replicate 32 0)) .rw)).put g.next (.cells (ofI .u8 R) .rw) = g'
  kp : Kp g g'
  nx : g'.next = g.next + 1
  gt : g'.get g.next = some (.cells (ofI .u8 R) .rw)
theorem cel (g : H) (R : List Nat) : ∃ g', Cel g g' R := ⟨_, rfl, ⟨by show g.next ≤ g.next + 1; omega, fun j hj => by rw [h_put_ne _ _ (by omega), h_new_ne _ _ (by omega)]⟩, rfl, h_put_same _ _ _⟩
theorem rootH (e : EnRt E) (hx : HasTw E (stX k_purserlaw08_alive)) (M : Nat) (hM : 1000 < M) (l : List (List Nat)) (hl : 0 < l.length) (hl2 : l.length ≤ 1000) (h : H) (q off n : Nat) (hn : l.length = n) (vs : List V) (md : Md) (hq : q < h.next) (gq : h.get q = some (.cells vs md)) (rb : RowB 32 (vs.drop off) l) :
    ∃ h', callX E (stX k_purserlaw08_alive) (M + 11) (.fn k_merkle_Root) [.slice (some (q, off)) n none 32] h = some (.tup [.agg (ofI .u8 (rtL l)), .int .i64 0], h') ∧ Kp h h' := by
  subst hn
  exact root_go e noRt_st hx M hM l hl hl2 h q off none vs md (fun _ h => by cases h) hq gq rb
theorem rtL_len : ∀ (n : Nat) (l : List (List Nat)), l.length ≤ n → 0 < l.length → (∀ o ∈ l, o.length = 32) → (rtL l).length = 32 := by
  intro n
  induction n with
  | zero => intro l h1 h2; omega
  | succ n ih =>
    intro l h1 h2 h3
    by_cases h : l.length = 1
    · obtain ⟨x, rfl⟩ := List.length_eq_one_iff.1 h
      rw [rtL_1]; exact h3 x (by simp)
    · rw [rtL_up l (by omega)]
      exact ih _ (by rw [up_len]; omega) (by rw [up_len]; omega) (up_all l)
theorem aggI_beq (k : IntKind) (l : List Nat) : V.beq (.agg (ofI k l)) (.agg (ofI k l)) = true := by
  show V.beqs (ofI k l) (ofI k l) = true
  induction l with
  | nil => rfl
  | cons a r ih =>
    show (V.beq (.int k (a : Int)) (.int k (a : Int)) && V.beqs (ofI k r) (ofI k r)) = true
    rw [vbeq_int, ih]; rfl
end Go.Eng
