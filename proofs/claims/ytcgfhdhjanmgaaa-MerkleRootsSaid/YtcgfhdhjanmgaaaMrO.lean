/- What functions of the program come to: own work. -/
import Derived.Test.YtcgfhdhjanmgaaaMrN
namespace Go.Eng
open Go
variable {E : Nat → Option Fn} {X : Orc}
set_option linter.unusedSimpArgs false
set_option linter.unusedVariables false
noncomputable def mrX : Orc := orX rofX (orX rtwX (orX twX ofX1))
theorem mr_tw : HasTw E mrX := fun N l a c h ez src hl => x_known ((orX_r rfl).trans ((orX_r rfl).trans (orX_l (bytesX_yes h (rd_src src c) (by unfold twS; rw [decide_eq_true hl]; rfl)))))
theorem mr_rtw : HasRtw E mrX := fun N l a c h ez src bl hl => x_known ((orX_r rfl).trans (orX_l (bytesX_yes h (rd_src src c) (by unfold rtwS; rw [decide_eq_true hl, bl]; rfl))))
theorem noRt_m : NoRt mrX := by repeat' (first | exact fun _ _ => rfl | exact fun _ _ _ => rfl | exact fun _ => rfl | constructor)
theorem noSw_m : NoSw mrX := by repeat' (first | exact fun _ _ => rfl | exact fun _ _ _ => rfl | exact fun _ => rfl | constructor)
theorem noBr_m : NoBrm mrX := by repeat' (first | exact fun _ _ => rfl | exact fun _ _ _ => rfl | exact fun _ => rfl | constructor)
theorem noFo_m : NoFo mrX := by repeat' (first | exact fun _ _ => rfl | exact fun _ _ _ => rfl | exact fun _ => rfl | constructor)
theorem noNd_m : NoNd mrX := by repeat' (first | exact fun _ _ => rfl | exact fun _ _ _ => rfl | exact fun _ => rfl | constructor)
/-- a list's own copy -/
theorem own_hs (h : H) (l : List (List Nat)) (h32 : ∀ o ∈ l, o.length = 32) (hl : l.length ≤ 1000) (a : Option (Nat × Nat)) (c : Option Nat) (S : HsR 32 h a 32 l) :
    ∃ q' c' vs md h2, appendC (h.new (.cells [] .rw)) 32 32 (.slice (some (h.next, 0)) 0 (some 0) 32) (srcCells (h.new (.cells [] .rw)) 32 (.slice a l.length c 32)) = some (.slice (some (q', 0)) l.length c' 32, h2) ∧ (∀ x, c' = some x → l.length ≤ x) ∧ q' < h2.next ∧ h2.get q' = some (.cells vs md) ∧ RowB 32 vs l ∧ Kp h h2 := by
  have k1 : Kp h (h.new (.cells [] .rw)) := Kp.new _ _
  have g1 : (h.new (.cells [] .rw)).get h.next = some (.cells [] .rw) := h_new_same _ _
  have n1 : (h.new (.cells [] .rw)).next = h.next + 1 := rfl
  obtain ⟨h1, e1⟩ : ∃ h1, h.new (.cells [] .rw) = h1 := ⟨_, rfl⟩
  rw [e1] at k1 g1 n1 ⊢
  cases hn : l.length with
  | zero =>
    obtain rfl : l = [] := List.length_eq_zero_iff.1 hn
    refine ⟨h.next, some 0, [], .rw, h1, ?_, fun _ _ => Nat.zero_le _, by omega, g1, RowB.nil _ _, k1⟩
    rw [m_src0]; rfl
  | succ n =>
    rcases S with S | ⟨q, off, vs, md, rfl, _, hq, gq, rb⟩
    · rw [S] at hn; cases hn
    have fl := RowB.flat l _ rb
    have frow := flatRow l h32
    have rbl := rb.1
    rw [List.length_drop] at rbl
    have sc := src_n h1 (sz := 32) (off := off) (n := l.length) (show h1.get q = some (.cells vs md) by rw [k1.2 _ hq, gq]) (by omega) (by omega) c
    rw [fl] at sc
    have ap := app_new h1 h.next l.length l.flatten (by omega) (by omega) g1
    rw [← hn, sc, ap]
    exact ⟨h1.next, none, ofI .u8 l.flatten, .rw, h1.new (.cells (ofI .u8 l.flatten) .rw), rfl, (fun _ h => by cases h), Nat.lt_succ_self _, h_new_same _ _, frow, k1.trans (Kp.new _ _)⟩
theorem swollen_0 (e : EnSw E) (x : NoSw X) (M : Nat) (hM : 1000 < M) (h : H) (q off : Nat) (c : Option Nat) :
    ∃ h', callX E X (M + 11) (.fn k_merkle_Swollen) [.slice (some (q, off)) 0 c 32] h = some (.bool false, h') ∧ Kp h h' := by
  rw [x_cfn e.sw _ _ (Nat.le_of_ble_eq_true rfl) (x.sw _ _)]
  obtain ⟨b, eb⟩ : ∃ b, h.next = b := ⟨_, rfl⟩
  have lv := fun h => levels_go e.lv x.lv (M + 9) (some (q, off)) 0 c 32 h
  obtain ⟨hA', eA⟩ : ∃ hA, ((((h.new (.cells [.bool false] .rw)).new (.cells [.int .i64 0] .rw)).put b (.cells [.bool false] .rw)).put (b + 1) (.cells [.int .i64 0] .rw)).new (.cells [.slice (some (q, off)) 0 c 32] .rw) = hA := ⟨_, rfl⟩
  have nA : hA'.next = b + 3 := by rw [← eA, ← eb]; rfl
  have gA0 : hA'.get b = some (.cells [.bool false] .rw) := by rw [← eA, ← eb]; (simp (disch := omega) only [h_put_get, h_new_get, h_next_put, h_next_new, Nat.add_assoc, Nat.add_eq_left, Nat.reduceAdd, decide_true, decide_false, iteN_true, iteN_false, Nat.reduceAdd, reduceCtorEq, ]; try rfl)
  have gA2 : hA'.get (b + 2) = some (.cells [.slice (some (q, off)) 0 c 32] .rw) := by rw [← eA, ← eb]; (simp (disch := omega) only [h_new_get, h_next_put, h_next_new, Nat.add_assoc, Nat.reduceAdd, decide_true, iteN_true, Nat.reduceAdd, ]; try rfl)
  have kA : Kp h hA' := by rw [← eA]; (repeat (first | exact Kp.refl _ | refine Kp.put ?_ _ (by first | omega | (simp only [h_next_put, h_next_new, h_next_del]; omega)) | refine Kp.del ?_ (by first | omega | (simp only [h_next_put, h_next_new, h_next_del]; omega)) | refine Kp.trans ?_ (Kp.new _ _)))
  have fin : ∀ T0, evO T0 (.t 3) = .ptr (some (b, 0)) → evO T0 (.t 4) = .ptr (some (b + 1, 0)) → ∃ h', fnEnd [.tmp 2] (bindE (blockE 0 (rangeEnd (b + 4) T0 [b + 3] (callF (callX E X (M + 10)) (.yld (b + 4)) (.fn k_merkle_levels_1 [] [.ptr (some (b + 2, 0))]) ((hA'.new .defers).new (.loop 0 none 32 T0 [12] A_merkle_Swollen_0 B_merkle_Swollen_0 (b + 3)))))) (evC (callX E X (M + 10)) 32 (M + 10) none R_merkle_Swollen_1)) = some (.bool false, h') ∧ Kp h h' := by
    intro T0 t3 t4
    obtain ⟨hB, eB⟩ : ∃ hB, (hA'.new .defers).new (.loop 0 none 32 T0 [12] A_merkle_Swollen_0 B_merkle_Swollen_0 (b + 3)) = hB := ⟨_, rfl⟩
    have nB : hB.next = b + 5 := by rw [← eB]; simp only [h_next_new, nA]
    have kB : Kp hA' hB := by rw [← eB]; exact (Kp.new _ _).trans (Kp.new _ _)
    have g3 : hB.get (b + 3) = some .defers := by rw [← eB, h_new_ne _ _ (by rw [h_next_new, nA]; omega)]; exact h_new_same' _ _ nA
    have g4 : hB.get (b + 4) = some (.loop 0 none 32 T0 [12] A_merkle_Swollen_0 B_merkle_Swollen_0 (b + 3)) := by rw [← eB]; exact h_new_same' _ _ (by rw [h_next_new, nA])
    have g0 : hB.get b = some (.cells [.bool false] .rw) := by rw [kB.2 _ (by omega), gA0]
    have g2 : hB.get (b + 2) = some (.cells [.slice (some (q, off)) 0 c 32] .rw) := by rw [kB.2 _ (by omega), gA2]
    have r : callX E X (M + 10) (.fn k_merkle_levels_1) [.yld (b + 4), .ptr (some (b + 2, 0))] hB = some (.tup [], hB) := by
      rw [x_cfn e.lv.l1 _ _ (Nat.le_of_ble_eq_true rfl) (x.lv.l1 _ _)]
      have c0 : decide ((1 : Int) < ((0 : Nat) : Int)) = false := rfl
      have c0' : decide ((1 : Int) < 0) = false := rfl
      simp (config := {maxSteps := 2000000}) (disch := first | omega | (simp only [List.length_cons, List.length_nil, List.length_append, List.length_drop]; omega)) only [L_merkle_levels_1_0, g2, ↓s_len, x_lenS, Nat.zero_add, ↓l_loop, ↓l_succ, l_exit, ↓s_load, m_load, ↓m_load1, m_load1, x_lenS, ↓s_len, Int.reduceLT, Int.cast_ofNat_Int, s_res0, ↓s_ops, ↓s_seq, ↓s_cond, ↓s_block, ↓s_exit, ↓s_nil, ↓s_op, ↓s_bindS, s_bindS, ↓s_bindE, s_bindE, s_bindE_exit, s_norm, ↓s_condV, s_condV, s_block_exit, ↓s_getp, ↓s_get, ↓s_con, ↓s_list0, ↓s_list1, ↓s_bin, s_same, b_gtr, s_end', s_res0, ↓iteN_true, ↓iteN_false, iteN_true, iteN_false, Nat.zero_add, decide_true, decide_false, List.getElem?_cons_zero, if_true]
      try rfl
    have z2 : (b + 4 = b + 3) = False := by simp
    have z4 : (b + 4 = b) = False := by simp
    have z5 : (b + 3 = b) = False := by simp
    rw [eB]
    refine ⟨(hB.del (b + 4)).del (b + 3), ?_, ⟨by simp only [h_next_del]; omega, fun i hi => by rw [h_del_ne _ (by omega), h_del_ne _ (by omega), kB.2 _ (by omega), kA.2 _ (by omega)]⟩⟩
    simp (config := {maxSteps := 2000000}) (disch := first | omega | (simp only [List.length_cons, List.length_nil, List.length_append, List.length_drop]; omega)) only [s_callF, List.nil_append, List.cons_append, r, t3, g0, g3, g4, z2, z4, R_merkle_Swollen_1, r_end, r_0, r_jn, e_ret, d_cons, d_yes, d_nil, e_some, m_load1, ↓h_del_get, ↓s_load, m_load, ↓m_load1, m_load1, List.cons_append, List.nil_append, s_res0, ↓s_ops, ↓s_seq, ↓s_ret, ↓s_nil, ↓s_op, ↓s_bindS, s_bindS, ↓s_bindE, s_bindE, s_norm, s_block_normal, ↓s_getp, ↓s_mov, s_same, s_res0, s_res1, s_tup1, ↓iteN_true, ↓iteN_false, iteN_true, iteN_false, List.nil_append, decide_true, decide_false, List.getElem?_cons_zero]
  obtain ⟨R, eR⟩ : ∃ R, R_merkle_Swollen_1 = R := ⟨_, rfl⟩
  rw [eR] at fin ⊢
  simp (config := {maxSteps := 2000000}) (disch := first | omega | (simp only [List.length_cons, List.length_nil, List.length_append, List.length_drop]; omega)) only [lv, eA, nA, eb, m_storeB, ↓s_len, x_lenS, ↓s_range, Nat.zero_add, ↓h_put_get, ↓h_new_get, h_next_put, h_next_new, Nat.add_assoc, Nat.add_eq_left, Nat.left_eq_add, ↓m_st, m_stE, m_storeI, m_storeE, w_zero, ↓s_alloc, x_lenS, ↓s_len, List.length_cons, List.length_nil, List.drop_succ_cons, List.drop_nil, Nat.reduceAdd, Int.cast_ofNat_Int, ↓s_skip, ↓s_ops, ↓s_seq, ↓s_block, ↓s_scope, ↓s_nil, ↓s_op, ↓s_bindS, s_bindS, ↓s_bindE, s_bindE, s_norm, ↓s_getp, ↓s_getp0, ↓s_get, ↓s_con, ↓s_os0, ↓s_os1, ↓s_list0, ↓s_list1, ↓s_mov, ↓s_call, s_same, ↓iteN_true, ↓iteN_false, iteN_true, iteN_false, Nat.zero_add, List.append_nil, Nat.reduceEqDiff, decide_true, decide_false]
  exact fin _ (by (simp only [s_getp, s_getp0, Nat.reduceEqDiff, decide_false, decide_true, iteN_false, iteN_true]; try rfl)) (by (simp only [s_getp, s_getp0, Nat.reduceEqDiff, decide_false, decide_true, iteN_false, iteN_true]; try rfl))
theorem rswollen_0 (e : EnNd E) (x : NoNd X) (es : E k_purserref08_Swollen = some f_purserref08_Swollen) (xs : ∀ a h, X (.fn k_purserref08_Swollen) a h = none) (K : Nat) (hK : 1100 < K) (a : Option (Nat × Nat)) (c : Option Nat) (ez : Nat) (h : H) :
    callX E X (K + 2) (.fn k_purserref08_Swollen) [.slice a 0 c ez] h = some (.bool false, h) := by
  rw [x_cfn es _ _ (Nat.le_of_ble_eq_true rfl) (xs _ _)]
  have dp := fun h => rdepth_go e.dp x.dp K (by omega) 0 (by omega) h
  rw [dpN_1 0 (by omega)] at dp
  replace dp : ∀ h, callX E X (K + 1) (.fn k_purserref08_Depth) [.int .i64 0] h = some (.int .i64 0, h) := dp
  have c0 : decide (((0 : Nat) : Int) < ((0 : Nat) : Int)) = false := rfl
  have c0' : decide ((0 : Int) < 0) = false := rfl
  simp (config := {maxSteps := 2000000}) (disch := first | omega | (simp only [List.length_cons, List.length_nil, List.length_append, List.length_drop]; omega)) only [L_purserref08_Swollen_1, R_purserref08_Swollen_1, l_succ, dp, ↓s_len, x_lenS, ↓l_loop, ↓l_succ, l_exit, x_lenS, ↓s_len, Int.reduceLT, Int.cast_ofNat_Int, s_res0, ↓s_ops, ↓s_seq, ↓s_cond, ↓s_block, ↓s_exit, ↓s_ret, ↓s_nil, ↓s_op, ↓s_bindS, s_bindS, ↓s_bindE, s_bindE, s_bindE_exit, s_norm, ↓s_condV, s_condV, s_block_exit, ↓s_getp, ↓s_get, ↓s_con, ↓s_os0, ↓s_os1, ↓s_list0, ↓s_list1, ↓s_mov, ↓s_bin, ↓s_call, s_same, b_lss, s_end, s_res0, s_res1, s_tup1, ↓iteN_true, ↓iteN_false, iteN_true, iteN_false, Nat.reduceEqDiff, decide_true, decide_false, if_true]
end Go.Eng
namespace Go.Eng
open Go
variable {E : Nat → Option Fn} {X : Orc}
set_option linter.unusedSimpArgs false
set_option linter.unusedVariables false
structure EnMr (E : Nat → Option Fn) : Prop where
  rt : EnRt E
  sw : EnSw E
  br : EnBr E
  fo : EnFo E
  dp : E k_merkle_Depth = some f_merkle_Depth
  nd : EnNd E
  rr : E k_purserref08_Root = some f_purserref08_Root
  rs : E k_purserref08_Swollen = some f_purserref08_Swollen
  rb : E k_purserref08_Branch = some f_purserref08_Branch
  rf : E k_purserref08_Fold = some f_purserref08_Fold
  ha : E k_purserref07_Hashes = some f_purserref07_Hashes
theorem neqbb (h : H) (a : Bool) : binV .neq .bool h (.bool a) (.bool a) = some (.bool false) := by cases a <;> rfl
/-- the roots are the same -/
theorem pair_root (e : EnMr E) (M : Nat) (hM : 2000 < M) (l : List (List Nat)) (ok : ∀ o ∈ l, o.length = 32 ∧ byt o = true) (hl : l.length ≤ 40) : ∃ (R : List Nat) (v : Int), R.length = 32 ∧
    (∀ h q c vs md, (∀ x, c = some x → l.length ≤ x) → q < h.next → h.get q = some (.cells vs md) → RowB 32 vs l → ∃ h', callX E mrX (M + 19) (.fn k_merkle_Root) [.slice (some (q, 0)) l.length c 32] h = some (.tup [.agg (ofI .u8 R), .int .i64 v], h') ∧ Kp h h') ∧
    (∀ h a c, HsR 32 h a 32 l → ∃ h', callX E mrX (M + 19) (.fn k_purserref08_Root) [.slice a l.length c 32] h = some (.tup [.agg (ofI .u8 R), .int .i64 v], h') ∧ Kp h h') := by
  by_cases h0 : l.length = 0
  · refine ⟨List.replicate 32 0, 80, by simp, fun h q c vs md hc hq gq rb => ?_, fun h a c S => ?_⟩
    · rw [h0]; exact root_err e.rt noRt_m (M + 18) _ _ _ h
    · obtain ⟨h', r, k⟩ := rroot_go e.nd noNd_m e.rr (fun _ _ => rfl) mr_rtw (M + 17) (by omega) l ok (by omega) a c 32 h S
      rw [if_pos h0] at r
      exact ⟨h', r, k⟩
  · refine ⟨rtL l, 0, rtL_len l.length l (Nat.le_refl _) (by omega) (fun o ho => (ok o ho).1), fun h q c vs md hc hq gq rb => ?_, fun h a c S => ?_⟩
    · exact root_go e.rt noRt_m mr_tw (M + 8) (by omega) l (by omega) (by omega) h q 0 c vs md hc hq gq (by rw [List.drop_zero]; exact rb)
    · obtain ⟨h', r, k⟩ := rroot_go e.nd noNd_m e.rr (fun _ _ => rfl) mr_rtw (M + 17) (by omega) l ok (by omega) a c 32 h S
      rw [if_neg h0] at r
      exact ⟨h', r, k⟩
theorem pair_swollen (e : EnMr E) (M : Nat) (hM : 2000 < M) (l : List (List Nat)) (ok : ∀ o ∈ l, o.length = 32 ∧ byt o = true) (hl : l.length ≤ 40) : ∃ (v : Bool),
    (∀ h q c vs md, (∀ x, c = some x → l.length ≤ x) → q < h.next → h.get q = some (.cells vs md) → RowB 32 vs l → ∃ h', callX E mrX (M + 19) (.fn k_merkle_Swollen) [.slice (some (q, 0)) l.length c 32] h = some (.bool v, h') ∧ Kp h h') ∧
    (∀ h a c, HsR 32 h a 32 l → ∃ h', callX E mrX (M + 19) (.fn k_purserref08_Swollen) [.slice a l.length c 32] h = some (.bool v, h') ∧ Kp h h') := by
  by_cases h0 : l.length = 0
  · refine ⟨false, fun h q c vs md hc hq gq rb => ?_, fun h a c S => ?_⟩
    · rw [h0]; exact swollen_0 e.sw noSw_m (M + 8) (by omega) h q 0 c
    · rw [h0]; exact ⟨h, rswollen_0 e.nd noNd_m e.rs (fun _ _ => rfl) (M + 17) (by omega) a c 32 h, Kp.refl _⟩
  · refine ⟨swL l, fun h q c vs md hc hq gq rb => ?_, fun h a c S => ?_⟩
    · exact swollen_go e.sw noSw_m mr_tw (M + 8) (by omega) l (by omega) (by omega) h q 0 c vs md hc hq gq (by rw [List.drop_zero]; exact rb)
    · exact rswollen_go e.nd noNd_m e.rs (fun _ _ => rfl) mr_rtw (M + 17) (by omega) l ok (by omega) (by omega) a c 32 h S
theorem pair_branch (e : EnMr E) (M : Nat) (hM : 2000 < M) (l : List (List Nat)) (ok : ∀ o ∈ l, o.length = 32 ∧ byt o = true) (hl : l.length ≤ 40) (n : Int) : ∃ (B : List (List Nat)) (v : Int), B.length ≤ 40 ∧
    (∀ h q c vs md, (∀ x, c = some x → l.length ≤ x) → q < h.next → h.get q = some (.cells vs md) → RowB 32 vs l → ∃ h' b cc eb, callX E mrX (M + 19) (.fn k_merkle_Branch) [.slice (some (q, 0)) l.length c 32, .int .i64 n] h = some (.tup [.slice b B.length cc eb, .int .i64 v], h') ∧ Kp h h' ∧ GrR 32 h.next h' b cc eb B) ∧
    (∀ h a c, HsR 32 h a 32 l → ∃ h' b cc eb, callX E mrX (M + 19) (.fn k_purserref08_Branch) [.slice a l.length c 32, .int .i64 n] h = some (.tup [.slice b B.length cc eb, .int .i64 v], h') ∧ Kp h h' ∧ HsR 32 h' b eb B) := by
  by_cases h0 : n < 0 ∨ (l.length : Int) ≤ n
  · refine ⟨[], 80, by simp, fun h q c vs md hc hq gq rb => ?_, fun h a c S => ?_⟩
    · obtain ⟨h', r, k⟩ := branch_err e.br noBr_m (M + 18) (some (q, 0)) l.length c 32 n h0 h
      exact ⟨h', none, some 0, 0, r, k, .inl ⟨rfl, rfl, rfl, rfl⟩⟩
    · exact ⟨h, none, some 0, 0, rbranch_err e.rb (fun _ _ => rfl) (M + 18) a l.length c 32 n h0 h, Kp.refl _, .inl rfl⟩
  · obtain ⟨n, rfl⟩ := Int.eq_ofNat_of_zero_le (show 0 ≤ n by omega)
    have d6 := dpN_le 6 l.length (by have : (2 : Nat) ^ 6 = 64 := rfl; omega)
    refine ⟨brL l n, 0, by rw [brL_len l.length l n (Nat.le_refl _)]; omega, fun h q c vs md hc hq gq rb => ?_, fun h a c S => ?_⟩
    · obtain ⟨h', b, cc, eb, r, k, g, _⟩ := branch_go e.br noBr_m mr_tw (M + 8) (by omega) l (by omega) n (by omega) h q 0 c vs md hc hq gq (by rw [List.drop_zero]; exact rb)
      exact ⟨h', b, cc, eb, r, k, g⟩
    · obtain ⟨h', b, cc, eb, r, k, g⟩ := rbranch_go e.nd noNd_m e.rb (fun _ _ => rfl) mr_rtw (M + 17) (by omega) l ok (by omega) n (by omega) a c 32 h S
      exact ⟨h', b, cc, eb, r, k, g.hs⟩
theorem pair_fold (e : EnMr E) (M : Nat) (hM : 2000 < M) (leaf : List Nat) (hl : leaf.length = 32) (bl : byt leaf = true) (br : List (List Nat)) (ok : ∀ o ∈ br, o.length = 32 ∧ byt o = true) (hb : br.length ≤ 40) (n : Int) (hn : n < 9223372036854775808) : ∃ (F : List Nat) (v : Int), F.length = 32 ∧
    (∀ h a c ez, HsR 32 h a ez br → ∃ h', callX E mrX (M + 19) (.fn k_merkle_Fold) [.agg (ofI .u8 leaf), .int .i64 n, .slice a br.length c ez] h = some (.tup [.agg (ofI .u8 F), .int .i64 v], h') ∧ Kp h h') ∧
    (∀ h a c ez, HsR 32 h a ez br → ∃ h', callX E mrX (M + 19) (.fn k_purserref08_Fold) [.agg (ofI .u8 leaf), .int .i64 n, .slice a br.length c ez] h = some (.tup [.agg (ofI .u8 F), .int .i64 v], h') ∧ Kp h h') := by
  by_cases h0 : 30 < br.length ∨ n < 0
  · refine ⟨List.replicate 32 0, 80, by simp, fun h a c ez S => ?_, fun h a c ez S => ?_⟩
    · exact fold_err e.fo noFo_m (M + 18) leaf hl n br.length (by omega) a c ez h
    · exact rfold_err e.rf (fun _ _ => rfl) (M + 18) leaf hl n br.length h0 a c ez h
  · obtain ⟨n, rfl⟩ := Int.eq_ofNat_of_zero_le (show 0 ≤ n by omega)
    have rf := fun h a c ez S => rfold_go e.nd noNd_m e.rf (fun _ _ => rfl) mr_rtw (M + 16) (by omega) leaf hl bl n (by omega) br (by omega) ok a c ez h S
    by_cases h1 : 2 ^ br.length ≤ n
    · refine ⟨List.replicate 32 0, 80, by simp, fun h a c ez S => ?_, fun h a c ez S => ?_⟩
      · exact fold_err e.fo noFo_m (M + 18) leaf hl _ br.length (by omega) a c ez h
      · have := rf h a c ez S
        rw [if_pos h1] at this; exact this
    · refine ⟨foldL leaf n br, 0, foldL_len _ _ _ hl, fun h a c ez S => ?_, fun h a c ez S => ?_⟩
      · exact fold_go e.fo noFo_m mr_tw (M + 12) (by omega) leaf hl n br (by omega) (by omega) a c ez h S
      · have := rf h a c ez S
        rw [if_neg h1] at this; exact this
theorem pair_depth (e : EnMr E) (M : Nat) (hM : 2000 < M) (n : Int) (hn : n < 9223372036854775808) : ∃ v : Int,
    (∀ h, callX E mrX (M + 19) (.fn k_merkle_Depth) [.int .i64 n] h = some (.int .i64 v, h)) ∧ (∀ h, callX E mrX (M + 19) (.fn k_purserref08_Depth) [.int .i64 n] h = some (.int .i64 v, h)) := by
  by_cases h0 : n < 0
  · exact ⟨0, fun h => depth_neg e.dp (fun _ _ => rfl) (M + 18) (by omega) n h0 h, fun h => rdepth_neg e.nd.dp (fun _ _ => rfl) (M + 18) n h0 h⟩
  · obtain ⟨n, rfl⟩ := Int.eq_ofNat_of_zero_le (show 0 ≤ n by omega)
    exact ⟨dpN n, fun h => depth_go e.dp (fun _ _ => rfl) (M + 18) (by omega) n (by omega) h, fun h => rdepth_go e.nd.dp (fun _ _ => rfl) (M + 18) (by omega) n (by omega) h⟩
structure SpI8 (q : Nat) (n : Nat) (c : Option Nat) (ez : Nat) (md : Md) (K : Tr V → Prop) (h0 : H) (i : Nat) (T : Tr V) (h : H) : Prop where
  t19 : evO T (.t 19) = .slice (some (q, 0)) n c ez
  t122 : evO T (.t 122) = .int .i64 (n : Int)
  t123 : evO T (.t 123) = .int .i64 (i : Int)
  t0 : evO T (.t 0) = evO T (.t 0)
  kk : K T
  gq : ∃ vs, h.get q = some (.cells vs md) ∧ n * 32 ≤ vs.length
  nx : h.next = h0.next
  fr : ∀ j, j ≠ q → h.get j = h0.get j
theorem sp8_step (Q : Orc) (m q n : Nat) (hn : n ≤ 1000) (c : Option Nat) (ez : Nat) (md : Md) (hm : isRo md = false) (a0 a4 a13 a14 : V) (h0 : H) :
    ∀ i T h, i < n → SpI8 q n c ez md (fun T => evO T (.t 0) = a0 ∧ evO T (.t 4) = a4 ∧ evO T (.t 13) = a13 ∧ evO T (.t 14) = a14) h0 i T h → ∃ T' h', evC Q 139 m none L_purserlaw08_MerkleRoots_0 ⟨T, [], h⟩ = some (.normal, ⟨T', [], h'⟩) ∧ SpI8 q n c ez md (fun T => evO T (.t 0) = a0 ∧ evO T (.t 4) = a4 ∧ evO T (.t 13) = a13 ∧ evO T (.t 14) = a14) h0 (i + 1) T' h' := by
  intro i T h hi ⟨t19, t122, t123, _, ⟨k0, k4, k13, k14⟩, ⟨vs, gq, lv⟩, nx, fr⟩
  have c0 : decide ((i : Int) < (n : Int)) = true := decide_eq_true (by omega)
  have wi : wr .i64 ((i : Int) + 1) = ((i + 1 : Nat) : Int) := by rw [wr_i64 (by omega)]; omega
  have ix : idx (i : Int) n = some i := idxn hi
  have mi := mul_le (k := 32) hi
  have bu : ∀ (Q : Orc) (T : Tr V) (h : H), Eng.step (.build [.int .u8 0, .int .u8 0, .int .u8 0, .int .u8 0, .int .u8 0, .int .u8 0, .int .u8 0, .int .u8 0, .int .u8 0, .int .u8 0, .int .u8 0, .int .u8 0, .int .u8 0, .int .u8 0, .int .u8 0, .int .u8 0, .int .u8 0, .int .u8 0, .int .u8 0, .int .u8 0, .int .u8 0, .int .u8 0, .int .u8 0, .int .u8 0, .int .u8 0, .int .u8 0, .int .u8 0, .int .u8 0, .int .u8 0, .int .u8 0, .int .u8 0, .int .u8 0] [(0, 1, .c (.int .u8 9))]) Q T h = some (.agg (ofI .u8 (9 :: List.replicate 31 0)), h) := fun Q T h => _root_.id rfl
  have l32 : (9 :: List.replicate 31 0).length = 32 := rfl
  have st : ∀ h i o, storeV h 32 (.ptr (some (i, o))) (.agg (ofI .u8 (9 :: List.replicate 31 0))) = storeE (h.get i) h i o (ofI .u8 (9 :: List.replicate 31 0)) := fun h i o => st32 h i o _ l32
  have pu := fun h => stMd vs (ofI .u8 (9 :: List.replicate 31 0)) md hm h q (i * 32) (by rw [ofI_len, l32]; omega)
  generalize hw : ofI .u8 (9 :: List.replicate 31 0) = W at *
  have lW : W.length = 32 := by rw [← hw, ofI_len, l32]
  exact ⟨_, h.put q (.cells (writeN vs (i * 32) W) md), by
    simp (config := {maxSteps := 2000000}) (disch := first | omega | (simp only [List.length_cons, List.length_nil, List.length_append, List.length_drop]; omega)) only [L_purserlaw08_MerkleRoots_0, t19, t122, t123, c0, wi, ix, ↓bu, gq, st, pu, Nat.zero_add, ↓m_st, m_stE, ↓x_idxS, x_idxSE, x_addrE, ↓s_skip, ↓s_ops, ↓s_seq, ↓s_cond, ↓s_block, ↓s_nil, ↓s_op, ↓s_bindS, s_bindS, ↓s_bindE, s_bindE, s_norm, ↓s_condV, s_condV, s_block_normal, ↓s_getp, ↓s_getp0, ↓s_con, ↓s_mov, ↓s_bin, s_same, b_lss, b_add, ↓iteN_true, ↓iteN_false, iteN_true, iteN_false, Nat.zero_add, Nat.reduceEqDiff, decide_true, decide_false]
    exact rfl, (by (simp only [s_getp, s_getp0, Nat.reduceEqDiff, decide_false, iteN_false, t19]; try rfl)), (by (simp only [s_getp, s_getp0, Nat.reduceEqDiff, decide_false, iteN_false, t122]; try rfl)), (by (simp only [s_getp, decide_true, iteN_true]; try rfl)), rfl, ⟨(by (simp only [s_getp, s_getp0, Nat.reduceEqDiff, decide_false, iteN_false, k0]; try rfl)), (by (simp only [s_getp, s_getp0, Nat.reduceEqDiff, decide_false, iteN_false, k4]; try rfl)), (by (simp only [s_getp, s_getp0, Nat.reduceEqDiff, decide_false, iteN_false, k13]; try rfl)), (by (simp only [s_getp, s_getp0, Nat.reduceEqDiff, decide_false, iteN_false, k14]; try rfl))⟩, ⟨_, h_put_same _ _ _, by rw [writeN_len _ _ _ (by rw [lW]; omega)]; exact lv⟩, by rw [h_next_put, nx], fun j hj => by rw [h_put_ne _ _ (Ne.symm hj), fr _ hj]⟩
end Go.Eng
namespace Go.Eng
open Go
variable {E : Nat → Option Fn} {X : Orc}
set_option linter.unusedSimpArgs false
set_option linter.unusedVariables false
theorem hsr_own {h : H} {q : Nat} {vs : List V} {md : Md} {l : List (List Nat)} (hq : q < h.next) (gq : h.get q = some (.cells vs md)) (rb : RowB 32 vs l) : HsR 32 h (some (q, 0)) 32 l := .inr ⟨q, 0, vs, md, rfl, rfl, hq, gq, by rw [List.drop_zero]; exact rb⟩
set_option maxHeartbeats 4000000 in
theorem law_MerkleRoots (e : EnMr E) (el : E k_purserlaw08_MerkleRoots = some f_purserlaw08_MerkleRoots) (M : Nat) (hM : 2000 < M) (l br : List (List Nat)) (ok : ∀ o ∈ l, o.length = 32 ∧ byt o = true) (okb : ∀ o ∈ br, o.length = 32 ∧ byt o = true) (leaf : List Nat) (hl : leaf.length = 32) (bl : byt leaf = true) (n at' many : Int) (hat : at' < 9223372036854775808) (hmany : many < 9223372036854775808) (a b : Option (Nat × Nat)) (h : H) (S : HsR 32 h a 32 l) (S2 : HsR 32 h b 32 br) :
    ∃ h2, callX E mrX (M + 20) (.fn k_purserlaw08_MerkleRoots) [.slice a l.length none 32, .int .i64 n, .agg (ofI .u8 leaf), .int .i64 at', .slice b br.length none 32, .int .i64 many] h = some (.bool true, h2) := by
  rw [x_cfn el _ _ (Nat.le_of_ble_eq_true rfl) rfl]
  have ca' : ∀ l : List V, (V.agg l).cells = l := fun _ => rfl
  obtain ⟨p, ep⟩ : ∃ p, h.next = p := ⟨_, rfl⟩
  obtain ⟨h1, e1⟩ : ∃ h1, h.new (.cells (ofI .u8 leaf) .rw) = h1 := ⟨_, rfl⟩
  have n1 : h1.next = p + 1 := by rw [← e1, ← ep]; rfl
  have k1 : Kp h h1 := by rw [← e1]; (repeat (first | exact Kp.refl _ | refine Kp.put ?_ _ (by first | omega | (simp only [h_next_put, h_next_new, h_next_del]; omega)) | refine Kp.del ?_ (by first | omega | (simp only [h_next_put, h_next_new, h_next_del]; omega)) | refine Kp.trans ?_ (Kp.new _ _)))
  have g1 : h1.get p = some (.cells (ofI .u8 leaf) .rw) := by rw [← e1, ← ep]; exact h_new_same _ _
  by_cases s1 : 40 < l.length
  · have d1 : decide ((40 : Int) < (l.length : Int)) = true := decide_eq_true (by omega)
    generalize ofI .u8 leaf = CL at *
    exact ⟨h1, by
      simp (config := {maxSteps := 2000000}) (disch := first | omega | (simp only [List.length_cons, List.length_nil, List.length_append, List.length_drop]; omega)) only [ca', e1, d1, ↓s_len, x_lenS, ↓s_box, Nat.zero_add, x_lenS, ↓s_len, Nat.reduceAdd, s_res0, ↓s_ops, ↓s_seq, ↓s_cond, ↓s_ret, ↓s_nil, ↓s_op, ↓s_opg, ↓s_wanted', ↓s_wantV, s_wantV, beq_false, ↓s_bindS, s_bindS, ↓s_bindE, s_bindE, s_bindE_ret, s_norm, ↓s_condV, s_condV, ↓s_getp, ↓s_get, ↓s_con, ↓s_list0, ↓s_list1, ↓s_mov, ↓s_pick, ↓s_pickE, s_pickE, ↓s_bin, s_same, b_gtr, s_end, s_res0, s_res1, s_tup1, ↓iteN_true, ↓iteN_false, iteN_true, iteN_false, Nat.zero_add, Nat.reduceEqDiff, decide_true, decide_false, Bool.not_true]⟩
  have d1 : decide ((40 : Int) < (l.length : Int)) = false := decide_eq_false (by omega)
  by_cases s2 : 40 < br.length
  · have d2 : decide ((40 : Int) < (br.length : Int)) = true := decide_eq_true (by omega)
    generalize ofI .u8 leaf = CL at *
    exact ⟨h1, by
      simp (config := {maxSteps := 2000000}) (disch := first | omega | (simp only [List.length_cons, List.length_nil, List.length_append, List.length_drop]; omega)) only [ca', e1, d1, d2, ↓s_len, x_lenS, ↓s_box, Nat.zero_add, x_lenS, ↓s_len, Nat.reduceAdd, s_res0, ↓s_ops, ↓s_seq, ↓s_cond, ↓s_ret, ↓s_nil, ↓s_op, ↓s_opg, ↓s_wanted', ↓s_wantV, s_wantV, ↓s_bindS, s_bindS, ↓s_bindE, s_bindE, s_bindE_ret, s_norm, ↓s_condV, s_condV, ↓s_getp, ↓s_get, ↓s_con, ↓s_list0, ↓s_list1, ↓s_mov, ↓s_pick, ↓s_pickE, s_pickE, ↓s_bin, s_same, b_gtr, s_end, s_res0, s_res1, s_tup1, ↓iteN_true, ↓iteN_false, iteN_true, iteN_false, Nat.zero_add, Nat.reduceEqDiff, decide_true, decide_false, beq_self_eq_true]⟩
  have d2 : decide ((40 : Int) < (br.length : Int)) = false := decide_eq_false (by omega)
  obtain ⟨R, rv, lR, mR, dR⟩ := pair_root e M hM l ok (by omega)
  obtain ⟨B, bv, lB, mB, dB⟩ := pair_branch e M hM l ok (by omega) n
  obtain ⟨F, fv, lF, mF, dF⟩ := pair_fold e M hM leaf hl bl br okb (by omega) at' hat
  obtain ⟨sv, mS, dS⟩ := pair_swollen e M hM l ok (by omega)
  obtain ⟨dv, mD, dD⟩ := pair_depth e M hM many hmany
  -- the own copies
  obtain ⟨q, cq, vq, mq, h2, ap1, hcq, hq, gq, rq, k2⟩ := own_hs h1 l (fun o ho => (ok o ho).1) (by omega) a none (S.mono k1)
  have K2 : Kp h h2 := k1.trans k2
  obtain ⟨q2, cq2, vq2, mq2, h3, ap2, hcq2, hq2, gq2, rq2, k3⟩ := own_hs h2 br (fun o ho => (okb o ho).1) (by omega) b none (S2.mono K2)
  obtain ⟨b1, eb1⟩ : ∃ b1, h1.next = b1 := ⟨_, rfl⟩
  obtain ⟨b2, eb2⟩ : ∃ b2, h2.next = b2 := ⟨_, rfl⟩
  have K3 : Kp h h3 := K2.trans k3
  have kn2 := k2.1
  have kn3 := k3.1
  have gq3 : h3.get q = some (.cells vq mq) := by rw [k3.2 _ hq, gq]
  -- the calls
  obtain ⟨h4, r4, k4⟩ := mR h3 q cq vq mq hcq (by omega) gq3 rq
  obtain ⟨g4, c4⟩ := cel h4 R
  have K4 : Kp h3 g4 := k4.trans c4.kp
  obtain ⟨h5, r5, k5⟩ := dR g4 a none (S.mono (K3.trans K4))
  obtain ⟨g5, c5⟩ := cel h5 R
  have K5 : Kp h3 g5 := (K4.trans k5).trans c5.kp
  have Kn5 := K5.1
  obtain ⟨h6, bb, cb, eb, r6, k6, gB⟩ := mB g5 q cq vq mq hcq (by omega) (by rw [K5.2 _ (by omega), gq3]) rq
  obtain ⟨h7, bb', cb', eb', r7, k7, hB'⟩ := dB h6 a none (S.mono ((K3.trans K5).trans k6))
  have K7 : Kp h3 h7 := (K5.trans k6).trans k7
  have Kn7 := K7.1
  have gl7 : h7.get p = some (.cells (ofI .u8 leaf) .rw) := by rw [K7.2 _ (by omega), k3.2 _ (by omega), k2.2 _ (by omega), g1]
  obtain ⟨h8, r8, k8⟩ := mF h7 (some (q2, 0)) cq2 32 (hsr_own (by omega) (by rw [K7.2 _ hq2, gq2]) rq2)
  obtain ⟨g8, c8⟩ := cel h8 F
  have K8 : Kp h3 g8 := (K7.trans k8).trans c8.kp
  have gl8 : g8.get p = some (.cells (ofI .u8 leaf) .rw) := by rw [c8.kp.2 _ (by have := k8.1; omega), k8.2 _ (by omega), gl7]
  obtain ⟨h9, r9, k9⟩ := dF g8 b none 32 (S2.mono (K3.trans K8))
  obtain ⟨g9, c9⟩ := cel h9 F
  have K9 : Kp h3 g9 := (K8.trans k9).trans c9.kp
  have Kn9 := K9.1
  obtain ⟨h10, r10, k10⟩ := mS g9 q cq vq mq hcq (by omega) (by rw [K9.2 _ (by omega), gq3]) rq
  obtain ⟨h11, r11, k11⟩ := dS h10 a none (S.mono ((K3.trans K9).trans k10))
  have K11 : Kp h3 h11 := (K9.trans k10).trans k11
  have x4 := c4.nx
  have x5 := c5.nx
  have x8 := c8.nx
  have x9 := c9.nx
  have y4 := k4.1
  have y5 := k5.1
  have y6 := k6.1
  have y7 := k7.1
  have y8 := k8.1
  have y9 := k9.1
  have y10 := k10.1
  have y11 := k11.1
  have K6_11 : Kp h6 h11 := ((((((k7.trans k8).trans c8.kp).trans k9).trans c9.kp).trans k10).trans k11)
  have K7_11 : Kp h7 h11 := (((((k8.trans c8.kp).trans k9).trans c9.kp).trans k10).trans k11)
  have hx := hashes_go e.ha (X := mrX) (fun _ _ => rfl) (M + 18) B (by omega) (by omega) bb bb' cb cb' eb eb' h11 (gB.hs.mono K6_11) (hB'.mono K7_11)
  have ga9 : g9.get h4.next = some (.cells (ofI .u8 R) .rw) := by
    have kk : Kp g4 g9 := (((((((k5.trans c5.kp).trans k6).trans k7).trans k8).trans c8.kp).trans k9).trans c9.kp)
    rw [kk.2 _ (by omega), c4.gt]
  have gb9 : g9.get h5.next = some (.cells (ofI .u8 R) .rw) := by
    have kk : Kp g5 g9 := (((((k6.trans k7).trans k8).trans c8.kp).trans k9).trans c9.kp)
    rw [kk.2 _ (by omega), c5.gt]
  have gc11 : h11.get h8.next = some (.cells (ofI .u8 F) .rw) := by
    have kk : Kp g8 h11 := ((k9.trans c9.kp).trans k10).trans k11
    rw [kk.2 _ (by omega), c8.gt]
  have gd11 : h11.get h9.next = some (.cells (ofI .u8 F) .rw) := by rw [(k10.trans k11).2 _ (by omega), c9.gt]
  have nqR := fun h => neq32 h R R lR lR
  have nqF := fun h => neq32 h F F lF lF
  have dtR : (!decide (R = R)) = false := by rw [decide_eq_true rfl]; rfl
  have dtF : (!decide (F = F)) = false := by rw [decide_eq_true rfl]; rfl
  rw [dtR] at nqR
  rw [dtF] at nqF
  have dd : ∀ v : Int, decide (v = v) = true := fun v => decide_eq_true rfl
  have nbb := neqbb
  obtain ⟨Z3, eZ3⟩ : ∃ Z, ofI .u8 (List.replicate 32 0) = Z := ⟨_, rfl⟩
  have al3 : ∀ (Q : Orc) (T : Tr V) (h : H), Eng.step (.alloc [.int .u8 0, .int .u8 0, .int .u8 0, .int .u8 0, .int .u8 0, .int .u8 0, .int .u8 0, .int .u8 0, .int .u8 0, .int .u8 0, .int .u8 0, .int .u8 0, .int .u8 0, .int .u8 0, .int .u8 0, .int .u8 0, .int .u8 0, .int .u8 0, .int .u8 0, .int .u8 0, .int .u8 0, .int .u8 0, .int .u8 0, .int .u8 0, .int .u8 0, .int .u8 0, .int .u8 0, .int .u8 0, .int .u8 0, .int .u8 0, .int .u8 0, .int .u8 0]) Q T h = some (.ptr (some (h.next, 0)), h.new (.cells Z3 .rw)) := fun Q T h => by rw [← eZ3]; rfl
  have puG : ∀ (l : List Nat) (_ : l.length = 32) h i, storeE (some (.cells Z3 .rw)) h i 0 (ofI .u8 l) = some (h.put i (.cells (ofI .u8 l) .rw)) := fun l hl h i => by
    rw [m_storeE _ _ _ _ _ (by rw [← eZ3, ofI_len, ofI_len, hl, List.length_replicate]; omega), ← eZ3, wrAll _ _ _ (by rw [List.length_replicate, hl])]
  have stG : ∀ (l : List Nat) (_ : l.length = 32) h i, storeV h 32 (.ptr (some (i, 0))) (.agg (ofI .u8 l)) = storeE (h.get i) h i 0 (ofI .u8 l) := fun l hl h i => st32 h i 0 _ hl
  have ldG : ∀ (l : List Nat) (_ : l.length = 32) m, loadE (some (.cells (ofI .u8 l) m)) (some 32) 0 = some (.agg (ofI .u8 l)) := fun l hl m => by rw [m_loadN, x_readAll _ 32 (by rw [ofI_len, hl])]
  have stR := stG R lR
  have stF := stG F lF
  have puR := puG R lR
  have puF := puG F lF
  have ldR := ldG R lR
  have ldF := ldG F lF
  have ldL := ldG leaf hl
  have q4 := c4.eq
  have q5 := c5.eq
  have q8 := c8.eq
  have q9 := c9.eq
  rw [eZ3] at q4 q5 q8 q9
  have fin : ∀ T, evO T (.t 0) = .slice a l.length none 32 → evO T (.t 4) = .slice b br.length none 32 → evO T (.t 13) = .slice (some (q, 0)) l.length cq 32 → evO T (.t 14) = .slice (some (q2, 0)) br.length cq2 32 → evO T (.t 19) = .slice bb B.length cb eb → evO T (.t 122) = .int .i64 (B.length : Int) → evO T (.t 123) = .int .i64 ((0 : Nat) : Int) →
      ∃ h', fnEnd [.tmp 12] (bindE (blockE 0 (loopN (evC (callX E mrX (M + 19)) 139 (M + 19) none L_purserlaw08_MerkleRoots_0) (M + 19) ⟨T, [], h11⟩)) (evC (callX E mrX (M + 19)) 139 (M + 19) none R_purserlaw08_MerkleRoots_0)) = some (.bool true, h') := by
    intro T t0 t4 t13 t14 t19 t122 t123
    have lp : ∃ T' h', loopN (evC (callX E mrX (M + 19)) 139 (M + 19) none L_purserlaw08_MerkleRoots_0) (M + 19) ⟨T, [], h11⟩ = some (.exit 0, ⟨T', [], h'⟩) ∧ Kp h3 h' ∧ evO T' (.t 0) = .slice a l.length none 32 ∧ evO T' (.t 4) = .slice b br.length none 32 ∧ evO T' (.t 13) = .slice (some (q, 0)) l.length cq 32 ∧ evO T' (.t 14) = .slice (some (q2, 0)) br.length cq2 32 := by
      rcases gB with ⟨rfl, rfl, rfl, rfl⟩ | ⟨qb, vb, mb, rfl, _, _, _, hlo, hqb, gqb, hmb, rbb⟩
      · have c0 : decide (((0 : Nat) : Int) < ((([] : List (List Nat)).length : Nat) : Int)) = false := rfl
        have c1 : decide ((0 : Int) < 0) = false := rfl
        rw [List.length_nil] at t122
        refine ⟨_, h11, by
          simp (config := {maxSteps := 2000000}) (disch := first | omega | (simp only [List.length_cons, List.length_nil, List.length_append, List.length_drop]; omega)) only [L_purserlaw08_MerkleRoots_0, l_succ, t122, t123, ↓l_succ, l_exit, Int.reduceLT, Int.cast_ofNat_Int, ↓s_ops, ↓s_seq, ↓s_cond, ↓s_exit, ↓s_nil, ↓s_op, ↓s_bindS, s_bindS, ↓s_bindE, s_bindE, s_bindE_exit, s_norm, ↓s_condV, s_condV, ↓s_getp, ↓s_bin, s_same, b_lss, ↓iteN_true, ↓iteN_false, iteN_true, iteN_false, decide_true, decide_false]
          exact rfl, K11, (by (simp only [s_getp, Nat.reduceEqDiff, decide_false, iteN_false, t0]; try rfl)), (by (simp only [s_getp, Nat.reduceEqDiff, decide_false, iteN_false, t4]; try rfl)), (by (simp only [s_getp, Nat.reduceEqDiff, decide_false, iteN_false, t13]; try rfl)), (by (simp only [s_getp, Nat.reduceEqDiff, decide_false, iteN_false, t14]; try rfl))⟩
      · obtain ⟨T', h', r, J⟩ := loop_go (f := evC (callX E mrX (M + 19)) 139 (M + 19) none L_purserlaw08_MerkleRoots_0) (SpI8 qb B.length cb eb mb (fun T => evO T (.t 0) = .slice a l.length none 32 ∧ evO T (.t 4) = .slice b br.length none 32 ∧ evO T (.t 13) = .slice (some (q, 0)) l.length cq 32 ∧ evO T (.t 14) = .slice (some (q2, 0)) br.length cq2 32) h11) B.length (.exit 0) (by intro h; cases h) (SpI8 qb B.length cb eb mb (fun T => evO T (.t 0) = .slice a l.length none 32 ∧ evO T (.t 4) = .slice b br.length none 32 ∧ evO T (.t 13) = .slice (some (q, 0)) l.length cq 32 ∧ evO T (.t 14) = .slice (some (q2, 0)) br.length cq2 32) h11 B.length) (sp8_step (callX E mrX (M + 19)) (M + 19) qb B.length (by omega) cb eb mb hmb _ _ _ _ h11) (fun T h' I => by
          obtain ⟨t19, t122, t123, _, ⟨k0, k4, k13, k14⟩, gg, nx, fr⟩ := I
          have c0 : decide ((B.length : Int) < (B.length : Int)) = false := decide_eq_false (by omega)
          exact ⟨_, h', by
            simp (config := {maxSteps := 2000000}) (disch := first | omega | (simp only [List.length_cons, List.length_nil, List.length_append, List.length_drop]; omega)) only [L_purserlaw08_MerkleRoots_0, t122, t123, c0, ↓s_ops, ↓s_seq, ↓s_cond, ↓s_exit, ↓s_nil, ↓s_op, ↓s_bindS, s_bindS, ↓s_bindE, s_bindE, s_bindE_exit, s_norm, ↓s_condV, s_condV, ↓s_getp, ↓s_bin, s_same, b_lss, ↓iteN_true, ↓iteN_false, iteN_true, iteN_false, decide_true]
            exact rfl, ⟨(by (simp only [s_getp, Nat.reduceEqDiff, decide_false, iteN_false, t19]; try rfl)), (by (simp only [s_getp, Nat.reduceEqDiff, decide_false, iteN_false, t122]; try rfl)), (by (simp only [s_getp, Nat.reduceEqDiff, decide_false, iteN_false, t123]; try rfl)), rfl, ⟨(by (simp only [s_getp, Nat.reduceEqDiff, decide_false, iteN_false, k0]; try rfl)), (by (simp only [s_getp, Nat.reduceEqDiff, decide_false, iteN_false, k4]; try rfl)), (by (simp only [s_getp, Nat.reduceEqDiff, decide_false, iteN_false, k13]; try rfl)), (by (simp only [s_getp, Nat.reduceEqDiff, decide_false, iteN_false, k14]; try rfl))⟩, gg, nx, fr⟩⟩) B.length 0 (by omega) (M + 19) (by omega) T h11 ⟨t19, t122, t123, rfl, ⟨t0, t4, t13, t14⟩, ⟨vb, by rw [K6_11.2 _ hqb, gqb], rbb.1⟩, rfl, fun _ _ => rfl⟩
        obtain ⟨_, _, _, _, ⟨k0, k4, k13, k14⟩, _, nx, fr⟩ := J
        exact ⟨T', h', r, ⟨by have := K11.1; omega, fun j hj => by rw [fr _ (by omega), K11.2 _ hj]⟩, k0, k4, k13, k14⟩
    obtain ⟨T', h', r, KK, u0, u4, u13, u14⟩ := lp
    have ha1 := hashes_go e.ha (X := mrX) (fun _ _ => rfl) (M + 18) l (by omega) (by omega) (some (q, 0)) a cq none 32 32 h' (hsr_own (by have := KK.1; omega) (by rw [KK.2 _ (by omega), gq3]) rq) (S.mono (K3.trans KK))
    have ha2 := hashes_go e.ha (X := mrX) (fun _ _ => rfl) (M + 18) br (by omega) (by omega) (some (q2, 0)) b cq2 none 32 32 h' (hsr_own (by have := KK.1; omega) (by rw [KK.2 _ hq2, gq2]) rq2) (S2.mono (K3.trans KK))
    rw [r]
    exact ⟨h', by
      simp (config := {maxSteps := 2000000}) (disch := first | omega | (simp only [List.length_cons, List.length_nil, List.length_append, List.length_drop]; omega)) only [R_purserlaw08_MerkleRoots_0, u0, u4, u13, u14, ha1, ha2, s_res0, ↓s_ops, ↓s_seq, ↓s_ret, ↓s_nil, ↓s_op, ↓s_opg, ↓s_wanted', ↓s_wantV, s_wantV, ↓s_bindS, s_bindS, ↓s_bindE, s_bindE, s_norm, s_block_exit, ↓s_getp, ↓s_os0, ↓s_os1, ↓s_mov, ↓s_pick, ↓s_pickE, s_pickE, ↓s_call, s_end, s_res0, s_res1, s_tup1, ↓iteN_true, ↓iteN_false, iteN_true, iteN_false, Nat.reduceEqDiff, decide_true, decide_false, if_true, beq_self_eq_true]⟩
  obtain ⟨RR, eR⟩ : ∃ R, R_purserlaw08_MerkleRoots_0 = R := ⟨_, rfl⟩
  obtain ⟨Lo, eL⟩ : ∃ R, L_purserlaw08_MerkleRoots_0 = R := ⟨_, rfl⟩
  rw [eR, eL] at fin ⊢
  clear stG puG ldG mR dR mB dB mF dF mS dS
  rw [eb1] at ap1
  rw [eb2] at ap2
  generalize hCR : ofI .u8 R = CR at *
  generalize hCF : ofI .u8 F = CF at *
  generalize hCL : ofI .u8 leaf = CL at *
  simp (config := {maxSteps := 2000000}) (disch := first | omega | (simp only [List.length_cons, List.length_nil, List.length_append, List.length_drop]; omega)) only [ca', ep, e1, d1, d2, eb1, ap1, eb2, ap2, r4, ↓al3, stR, puR, ldR, q4, r5, q5, r6, r7, gl7, ldL, r8, stF, puF, ldF, q8, gl8, r9, q9, ga9, gb9, nqR, Bool.not_true, r10, r11, nbb, hx, gc11, gd11, nqF, mD, dD, ↓s_append, ↓s_len, x_lenS, ↓s_box, Nat.zero_add, ↓l_loop, ↓l_succ, ↓h_new_get, ↓s_load, m_load, ↓m_st, m_stE, x_lenS, ↓s_len, ↓x_buildS, x_buildE, ↓x_P0, x_fill0, Nat.reduceAdd, ↓s_skip, ↓s_ops, ↓s_seq, ↓s_cond, ↓s_block, ↓s_nil, ↓s_op, ↓s_opg, ↓s_wanted', ↓s_wantV, s_wantV, ↓s_bindS, s_bindS, ↓s_bindE, s_bindE, s_norm, ↓s_condV, s_condV, ↓s_getp, ↓s_getp0, ↓s_get, ↓s_con, ↓s_os0, ↓s_os1, ↓s_list0, ↓s_list1, ↓s_mov, ↓s_pick, ↓s_pickE, s_pickE, ↓s_bin, ↓s_un, ↓s_call, ↓s_ext, s_same, b_neq, b_gtr, u_not, ↓iteN_true, ↓iteN_false, iteN_true, iteN_false, Nat.zero_add, Nat.reduceEqDiff, decide_true, decide_false, Bool.not_true, List.getElem?_cons_zero, List.getElem?_cons_succ, beq_self_eq_true]
  exact fin _ (by (simp only [s_getp, s_getp0, Nat.reduceEqDiff, decide_false, decide_true, iteN_false, iteN_true, s_get]; try rfl)) (by (simp only [s_getp, s_getp0, Nat.reduceEqDiff, decide_false, decide_true, iteN_false, iteN_true, s_get]; try rfl)) (by (simp only [s_getp, s_getp0, Nat.reduceEqDiff, decide_false, decide_true, iteN_false, iteN_true]; try rfl)) (by (simp only [s_getp, s_getp0, Nat.reduceEqDiff, decide_false, decide_true, iteN_false, iteN_true]; try rfl)) (by (simp only [s_getp, s_getp0, Nat.reduceEqDiff, decide_false, decide_true, iteN_false, iteN_true]; try rfl)) (by (simp only [s_getp, Nat.reduceEqDiff, decide_false, decide_true, iteN_false, iteN_true]; try rfl)) (by (simp only [s_getp, decide_true, iteN_true]; try rfl))
end Go.Eng
