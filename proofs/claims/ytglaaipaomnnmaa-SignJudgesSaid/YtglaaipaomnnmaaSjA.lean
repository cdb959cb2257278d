/- What functions of the program come to: own work. -/
import Derived.Test.YtglaaipaomnnmaaRfB
import Derived.Test.YtglaaipaomnnmaaArgs
import Derived.Test.YtglaaipaomnnmaaSjF
namespace Go.Eng
open Go
variable {E : Nat → Option Fn} {X : Orc}
set_option linter.unusedSimpArgs false
set_option linter.unusedVariables false
theorem rd_src {h : H} {a : Option (Nat × Nat)} {l : List Nat} {ez : Nat} (src : SrcH h a ez l) (c : Option Nat) : rdB h (.slice a l.length c ez) = some l := by
  rcases src with rfl | ⟨bi, off, vs, m, rfl, rfl, h3, h4, h5, h6⟩
  · rfl
  · cases hn : l.length with
    | zero => rw [List.length_eq_zero_iff.1 hn]; rfl
    | succ n =>
      show rdC (n + 1) off (h.get bi) = some l
      rw [h4]
      unfold rdC
      rw [hn] at h5 h6
      simp only [readN_of _ _ _ h5, h6, unI]
theorem str_src {h : H} {a : Option (Nat × Nat)} {l : List Nat} {ez : Nat} (src : SrcH h a ez l) (bl : byt l = true) (c : Option Nat) : b2sV h (.slice a l.length c ez) = some (.str l) := by
  rcases src with rfl | ⟨bi, off, vs, m, rfl, rfl, h3, h4, h5, h6⟩
  · cases a <;> rfl
  · cases hn : l.length with
    | zero => rw [List.length_eq_zero_iff.1 hn]; rfl
    | succ n =>
      rw [nx_bs1, h4]
      unfold nsE
      rw [hn] at h5 h6
      simp only [readN_of _ _ _ h5, h6, bytesOf_I _ (byt_iff.1 bl)]
      rfl
/-! Twice, of the document -/
def rtwS (l : List Nat) : Option V := if decide (l.length ≤ 100000) && byt l then some (.agg (ofI .u8 (shaV (shaV l)))) else none
/-- a twin with one byte more -/
theorem own_byte (h : H) (b : List Nat) (y : Nat) (hb : b.length ≤ 100000) : ∃ v1 h1 p md h2, appendC (h.new (.cells [] .rw)) 1 1 (.slice (some (h.next, 0)) 0 (some 0) 1) (some (b.length, ofI .u8 b)) = some (v1, h1) ∧ h.next < h1.next ∧ Kp h h1 ∧
    appendC (h1.new (.cells [.int .u8 (y : Int)] .rw)) 1 1 v1 (some (1, [.int .u8 (y : Int)])) = some (.slice (some (p, 0)) (b.length + 1) none 1, h2) ∧ Kp h h2 ∧ h.next ≤ p ∧ p < h2.next ∧ h2.get p = some (.cells (ofI .u8 (b ++ [y])) md) := by
  by_cases b0 : b = []
  · subst b0
    have a2 := appF_of ((h.new (.cells [] .rw)).new (.cells [.int .u8 (y : Int)] .rw)) h.next 0 0 0 0 .u8 [y] (by omega) (by omega)
    rw [h_new_ne _ _ (by rw [h_next_new]; omega), h_new_same, appF0] at a2
    exact ⟨_, _, _, _, _, appN _ _ _ _ _ _, by rw [h_next_new]; omega, Kp.new _ _, a2, ((Kp.new _ _).trans (Kp.new _ _)).trans (Kp.new _ _), by simp only [h_next_new]; omega, by simp only [h_next_new]; omega, h_new_same _ _⟩
  · obtain ⟨m, em⟩ : ∃ n, b.length = n + 1 := ⟨b.length - 1, by have := List.length_pos_iff.2 b0; omega⟩
    have a1 := appF_of (h.new (.cells [] .rw)) h.next 0 0 0 m .u8 b (by omega) (by omega)
    rw [h_new_same, appF0, ← em] at a1
    obtain ⟨h1, e1⟩ : ∃ h1, (h.new (.cells [] .rw)).new (.cells (ofI .u8 b) .rw) = h1 := ⟨_, rfl⟩
    have n1 : h1.next = h.next + 2 := by rw [← e1]; rfl
    have nn : (h.new (.cells [] .rw)).next = h.next + 1 := rfl
    rw [e1, nn] at a1
    have g1 : h1.get (h.next + 1) = some (.cells (ofI .u8 b) .rw) := by rw [← e1]; exact h_new_same' _ _ rfl
    have a2 := app1 (h1.new (.cells [.int .u8 (y : Int)] .rw)) (h.next + 1) b.length y b .rw rfl (by rw [h_new_ne _ _ (by omega), g1]) rfl (by omega)
    have k1 : Kp h h1 := by rw [← e1]; exact (Kp.new _ _).trans (Kp.new _ _)
    refine ⟨_, h1, _, .sh, _, a1, by omega, k1, a2, ?_, by rw [h_next_new]; omega, by simp only [h_next_new, h_next_del]; omega, h_new_same' _ _ (by rw [h_next_del])⟩
    refine ⟨by simp only [h_next_new, h_next_del]; omega, fun i hi => ?_⟩
    rw [h_new_ne _ _ (by simp only [h_next_new, h_next_del]; omega), h_del_ne _ (by omega), h_new_ne _ _ (by omega), k1.2 _ hi]
theorem b_sadd (e : EqK) (h : H) (a b : List Nat) (hl : a.length + b.length ≤ 35184372088832) : binV .add e h (.str a) (.str b) = some (.str (a ++ b)) := by
  show (bif Nat.ble (a.length + b.length) 35184372088832 then some (V.str (a ++ b)) else none) = _
  rw [cond_ble, if_pos hl]
end Go.Eng
namespace Go.Eng
open Go
variable {E : Nat → Option Fn} {X : Orc}
set_option linter.unusedSimpArgs false
set_option linter.unusedVariables false
theorem slcV_hiB (n b : Nat) (a : Option (Nat × Nat)) (k : IntKind) (hb : b ≤ n) : slcV 1 none (some (.int k (b : Int))) none (.slice a n none 1) = some (.slice a b none 1) := by
  unfold slcV
  simp only [Nat.beq_refl, Bool.true_or, _root_.cond_true, Option.getD_none, x_bnd _ _ _ _ hb, x_bnd0]
  cases a <;> simp [upA, subC]
def jV (p g d : List Nat) : Bool := decide (p.length = 32) && (decide (g.length = 64) && isV p g d)
theorem jV_p (p g d : List Nat) (h : ¬ p.length = 32) : jV p g d = false := by unfold jV; rw [decide_eq_false h, Bool.false_and]
theorem jV_g (p g d : List Nat) (h : ¬ g.length = 64) : jV p g d = false := by unfold jV; rw [decide_eq_false h, Bool.false_and, Bool.and_false]
theorem jV_is (p g d : List Nat) (h : p.length = 32) (h2 : g.length = 64) : jV p g d = isV p g d := by unfold jV; rw [decide_eq_true h, decide_eq_true h2, Bool.true_and, Bool.true_and]
theorem is_all (e : EnSign E) (x : NoSign X) (hx : HasOf X) (N : Nat) (i j : Nat) (li lj p g d : List Nat) (mi mj : Md) (h : H) (hi : i < h.next) (hj : j < h.next) (gi : h.get i = some (.cells (ofI .u8 li) mi)) (gj : h.get j = some (.cells (ofI .u8 lj) mj))
    (li1 : p.length ≤ li.length) (lj1 : g.length ≤ lj.length) (ei : li.take p.length = p) (ej : lj.take g.length = g) (hd : d.length = 32) :
    ∃ h', callX E X (N + 4) (.fn k_sign_Is) [.slice (some (i, 0)) p.length none 1, .slice (some (j, 0)) g.length none 1, .agg (ofI .u8 d)] h = some (.bool (jV p g d), h') ∧ Kp h h' := by
  by_cases hp : p.length = 32
  · by_cases hg : g.length = 64
    · obtain ⟨h', r, k⟩ := is_go e x hx N i 0 j 0 li lj p g d mi mj none none h hi hj gi gj (by omega) (by omega) (by rw [List.drop_zero, ← hp, ei]) (by rw [List.drop_zero, ← hg, ej]) hd (by show 64 ≤ 64; omega)
      refine ⟨h', ?_, k⟩
      rw [jV_is p g d hp hg, hp, hg, r]; rfl
    · rw [x_cfn e.is_ _ _ (Nat.le_of_ble_eq_true rfl) (x.is_ _ _), jV_g p g d hg, hp]
      have c1 : decide ((g.length : Int) = 64) = false := decide_eq_false (by omega)
      have c0 : decide ((32 : Int) = 32) = true := rfl
      obtain ⟨n, en⟩ : ∃ n, g.length = n := ⟨_, rfl⟩
      rw [en] at c1 ⊢
      simp (config := {maxSteps := 2000000}) (disch := first | omega | rfl | (simp only [ofI_len, shaV_len, List.length_append, List.length_take, List.length_drop, List.length_cons, List.length_nil, List.length_replicate, List.length_set]; done) | (simp only [ofI_len, shaV_len, List.length_append, List.length_take, List.length_drop, List.length_cons, List.length_nil, List.length_replicate, List.length_set]; omega)) only [c0, c1, ↓s_len, x_lenS, ↓b_xor32, ↓b_and32, ↓b_or32, ↓u_not32, b_xor32, b_and32, b_or32, u_not32, w32ad, ↓x_conv, x_convV, ↓x_fieldAddr, x_fieldV, ↓s_nilchk, x_nilchk, Nat.zero_add, Nat.add_zero, Nat.mul_one, ↓l_loop, ↓l_succ, ↓l_normal, l_normal, l_exit, l_ret, l_iteN, ↓h_put_get, ↓h_new_get, ↓h_del_get, h_next_put, h_next_new, h_next_del, Nat.add_assoc, Nat.add_eq_left, Nat.left_eq_add, Nat.add_left_cancel_iff, ↓s_load, m_load, ↓m_load1, m_load1, ↓m_st, m_stE, m_storeI, m_storeE, ↓s_alloc, ↓x_idxA, ↓x_idxS, x_idxAE, x_idxSE, x_addrE, x_idx, x_lenS, ↓s_len, ↓x_buildS, x_buildE, ↓x_P0, ↓x_P1, x_fill0, x_filli, x_fills, x_fillb, c_int, List.length_cons, List.length_nil, List.cons_append, List.drop_succ_cons, List.drop_zero, List.drop_nil, List.nil_append, Int.reduceAdd, Int.reduceToNat, Int.reduceLT, Int.reduceLE, Nat.reduceAdd, Nat.reduceMul, Nat.reduceLeDiff, Int.reduceEq, Int.reduceSub, Int.cast_ofNat_Int, s_resc, s_consR, m_load4, m_store4, s_res0, ↓s_skip, ↓s_ops, ↓s_dops, ↓s_seq, ↓s_cond, ↓s_block, ↓s_exit, ↓s_ret, ↓s_scope, ↓s_nil, ↓s_op, ↓s_opg, ↓s_wanted', ↓s_wantV, s_wantV, s_wantV0, beq_true, beq_false, ↓s_bindS, s_bindS, ↓s_bindE, s_bindE, s_bindE_ret, s_bindE_exit, s_bindE_iteN, s_norm, ↓s_condV, s_condV, s_block_ret, s_block_normal, s_block_exit, s_block_iteN, ↓s_getp, ↓s_getp0, ↓s_get, s_get0, ↓s_con, ↓s_fn, ↓s_os0, ↓s_os1, ↓s_list0, ↓s_list1, ↓s_mov, ↓s_pick, ↓s_pickE, s_pickE, ↓s_bin, ↓s_un, ↓s_minmax, ↓s_call, ↓s_callv, ↓s_callV, ↓s_ext, s_same, b_eql, b_neq, b_lss, b_leq, b_gtr, b_geq, b_add, b_sub, b_mul, b_eqlb, b_neqb, b_fnil, b_fnil', b_fnil2, b_fnil2', u_neg, u_not, m_two, s_end, s_end', s_end_iteN, s_res0, s_res1, s_tup1, s_tup2, ↓iteN_true, ↓iteN_false, iteN_true, iteN_false, Nat.zero_add, List.nil_append, List.append_nil, Nat.reduceEqDiff, reduceIte, decide_true, decide_false, Bool.not_true, Bool.not_false, List.getElem?_cons_zero, List.getElem?_cons_succ, Bool.false_eq_true, if_true, if_false, beq_self_eq_true, ↓s_box, c_agg]
      exact ⟨_, rfl, by (repeat (first | exact Kp.refl _ | refine Kp.put ?_ _ (by first | omega | (simp only [h_next_put, h_next_new, h_next_del]; omega)) | refine Kp.del ?_ (by first | omega | (simp only [h_next_put, h_next_new, h_next_del]; omega)) | refine Kp.trans ?_ (Kp.new _ _)))⟩
  · rw [x_cfn e.is_ _ _ (Nat.le_of_ble_eq_true rfl) (x.is_ _ _), jV_p p g d hp]
    have c0 : decide ((p.length : Int) = 32) = false := decide_eq_false (by omega)
    obtain ⟨n, en⟩ : ∃ n, p.length = n := ⟨_, rfl⟩
    rw [en] at c0 ⊢
    simp (config := {maxSteps := 2000000}) (disch := first | omega | rfl | (simp only [ofI_len, shaV_len, List.length_append, List.length_take, List.length_drop, List.length_cons, List.length_nil, List.length_replicate, List.length_set]; done) | (simp only [ofI_len, shaV_len, List.length_append, List.length_take, List.length_drop, List.length_cons, List.length_nil, List.length_replicate, List.length_set]; omega)) only [c0, ↓s_len, x_lenS, ↓b_xor32, ↓b_and32, ↓b_or32, ↓u_not32, b_xor32, b_and32, b_or32, u_not32, w32ad, ↓x_conv, x_convV, ↓x_fieldAddr, x_fieldV, ↓s_nilchk, x_nilchk, Nat.zero_add, Nat.add_zero, Nat.mul_one, ↓l_loop, ↓l_succ, ↓l_normal, l_normal, l_exit, l_ret, l_iteN, ↓h_put_get, ↓h_new_get, ↓h_del_get, h_next_put, h_next_new, h_next_del, Nat.add_assoc, Nat.add_eq_left, Nat.left_eq_add, Nat.add_left_cancel_iff, ↓s_load, m_load, ↓m_load1, m_load1, ↓m_st, m_stE, m_storeI, m_storeE, ↓s_alloc, ↓x_idxA, ↓x_idxS, x_idxAE, x_idxSE, x_addrE, x_idx, x_lenS, ↓s_len, ↓x_buildS, x_buildE, ↓x_P0, ↓x_P1, x_fill0, x_filli, x_fills, x_fillb, c_int, List.length_cons, List.length_nil, List.cons_append, List.drop_succ_cons, List.drop_zero, List.drop_nil, List.nil_append, Int.reduceAdd, Int.reduceToNat, Int.reduceLT, Int.reduceLE, Nat.reduceAdd, Nat.reduceMul, Nat.reduceLeDiff, Int.reduceEq, Int.reduceSub, Int.cast_ofNat_Int, s_resc, s_consR, m_load4, m_store4, s_res0, ↓s_skip, ↓s_ops, ↓s_dops, ↓s_seq, ↓s_cond, ↓s_block, ↓s_exit, ↓s_ret, ↓s_scope, ↓s_nil, ↓s_op, ↓s_opg, ↓s_wanted', ↓s_wantV, s_wantV, s_wantV0, beq_true, beq_false, ↓s_bindS, s_bindS, ↓s_bindE, s_bindE, s_bindE_ret, s_bindE_exit, s_bindE_iteN, s_norm, ↓s_condV, s_condV, s_block_ret, s_block_normal, s_block_exit, s_block_iteN, ↓s_getp, ↓s_getp0, ↓s_get, s_get0, ↓s_con, ↓s_fn, ↓s_os0, ↓s_os1, ↓s_list0, ↓s_list1, ↓s_mov, ↓s_pick, ↓s_pickE, s_pickE, ↓s_bin, ↓s_un, ↓s_minmax, ↓s_call, ↓s_callv, ↓s_callV, ↓s_ext, s_same, b_eql, b_neq, b_lss, b_leq, b_gtr, b_geq, b_add, b_sub, b_mul, b_eqlb, b_neqb, b_fnil, b_fnil', b_fnil2, b_fnil2', u_neg, u_not, m_two, s_end, s_end', s_end_iteN, s_res0, s_res1, s_tup1, s_tup2, ↓iteN_true, ↓iteN_false, iteN_true, iteN_false, Nat.zero_add, List.nil_append, List.append_nil, Nat.reduceEqDiff, reduceIte, decide_true, decide_false, Bool.not_true, Bool.not_false, List.getElem?_cons_zero, List.getElem?_cons_succ, Bool.false_eq_true, if_true, if_false, beq_self_eq_true, ↓s_box, c_agg]
    exact ⟨_, rfl, by (repeat (first | exact Kp.refl _ | refine Kp.put ?_ _ (by first | omega | (simp only [h_next_put, h_next_new, h_next_del]; omega)) | refine Kp.del ?_ (by first | omega | (simp only [h_next_put, h_next_new, h_next_del]; omega)) | refine Kp.trans ?_ (Kp.new _ _)))⟩
noncomputable def sjX : Orc := orX rofX (orX (pureX k_purserref09_Public pubRS) (orX rsignX ofX1))
theorem sj_no : NoSign sjX := ⟨fun _ _ => rfl, fun _ _ => rfl, fun _ _ => rfl, fun _ _ => rfl⟩
theorem sj_of : HasOf sjX := fun x h l v e q => (orX_r rfl).trans ((orX_r rfl).trans ((orX_r rfl).trans (ofX1_has x h l v e q)))
theorem j_rpub (N : Nat) (s : List Nat) (h : H) (hs : s.length = 32) (bs : byt s = true) : callX E sjX (N + 1) (.fn k_purserref09_Public) [.agg (ofI .u8 s)] h = some (.agg (ofI .u8 (shaV s)), h) := by
  refine x_known ((orX_r rfl).trans (orX_l (pureX_yes h ?_)))
  unfold pubRS
  simp only [unI, is32_of hs, bs, Bool.and_self]
theorem j_rsign (N : Nat) (s d : List Nat) (h : H) (hs : s.length = 32) (hd : d.length = 32) (bs : byt s = true) (bd : byt d = true) : callX E sjX (N + 1) (.fn k_purserref09_Sign) [.agg (ofI .u8 s), .agg (ofI .u8 d)] h = some (.slice (some (h.next, 0)) 64 none 1, h.new (.cells (ofI .u8 (s ++ shaV (s ++ d))) .sh)) := by
  refine x_known ((orX_r rfl).trans ((orX_r rfl).trans (orX_l ?_)))
  show (match unB (ofI .u8 s), unB (ofI .u8 d) with | some s, some d => (match is32 s && is32 d && byt s && byt d with | true => some (V.slice (some (h.next, 0)) 64 none 1, h.new (.cells (ofI .u8 (s ++ shaV (s ++ d))) .sh)) | false => none) | _, _ => none) = _
  simp only [unI, is32_of hs, is32_of hd, bs, bd, Bool.and_self]
theorem set_grow (g : List Nat) (i n : Nat) (hi : i < n) (hn : n ≤ g.length) : (g.take i ++ List.replicate (n - i) 0).set i (g.getD i 0) = g.take (i + 1) ++ List.replicate (n - (i + 1)) 0 := by
  have ts : g.take (i + 1) = g.take i ++ [g.getD i 0] := by
    rw [List.take_add_one, List.getD_eq_getElem?_getD, List.getElem?_eq_getElem (by omega)]; rfl
  have e1 : n - i = (n - (i + 1)) + 1 := by omega
  rw [e1, List.replicate_succ, List.set_append_right _ _ (by rw [List.length_take]; omega), List.length_take, Nat.min_eq_left (by omega), Nat.sub_self, List.set_cons_zero, ts, List.append_assoc]; rfl
structure RI (q b j oj : Nat) (v0 : V) (g : List Nat) (h0 : H) (i : Nat) (T : Tr V) (h : H) : Prop where
  il : i ≤ 32
  t0 : evO T (.t 0) = v0
  t1 : evO T (.t 1) = .slice (some (j, oj)) 64 none 1
  t5 : evO T (.t 5) = .ptr (some (b, 0))
  t7 : evO T (.t 7) = .ptr (some (q, 0))
  t8 : evO T (.t 8) = .int .i64 (i : Int)
  gq : h.get q = some (.cells (ofI .u8 (g.take i ++ List.replicate (32 - i) 0)) .rw)
  eq : Eqx q h0 h
theorem ri_step (Q : Orc) (m q b j oj : Nat) (v0 : V) (g : List Nat) (ws : List V) (mj : Md) (hg : g.length = 64) (h0 : H) (hj : j ≠ q) (gj : h0.get j = some (.cells ws mj)) (cg : ∀ i, i < 64 → ws[oj + i]? = some (.int .u8 (g.getD i 0 : Nat))) :
    ∀ i T h, i < 32 → RI q b j oj v0 g h0 i T h → ∃ T' h', evC Q 44 m none L_purserref09_Is_0 ⟨T, [], h⟩ = some (.normal, ⟨T', [], h'⟩) ∧ RI q b j oj v0 g h0 (i + 1) T' h' := by
  intro i T h hi ⟨_, t0, t1, t5, t7, t8, gq, eq⟩
  have gj' : h.get j = some (.cells ws mj) := by rw [eq.2 _ hj, gj]
  have c0 : decide ((i : Int) < 32) = true := decide_eq_true (by omega)
  have wi : wr .i64 ((i : Int) + 1) = ((i + 1 : Nat) : Int) := by rw [wr_i64 (by omega)]; omega
  have ix : idx (i : Int) 64 = some i := idxn (by omega)
  have ix2 : idx (i : Int) 32 = some i := idxn hi
  have cg' := cg i (by omega)
  have lc : (g.take i ++ List.replicate (32 - i) 0).length = 32 := by rw [List.length_append, List.length_take, List.length_replicate]; omega
  have ste := fun (h : H) (v : V) => stI .u8 (g.take i ++ List.replicate (32 - i) 0) [v] h q i (by rw [lc]; simp only [List.length_cons, List.length_nil]; omega)
  have su := wr1I .u8 (g.take i ++ List.replicate (32 - i) 0) i (g.getD i 0) (by omega)
  rw [set_grow g i 32 hi (by omega)] at su
  generalize g.getD i 0 = y at *
  obtain ⟨c2, ec2⟩ : ∃ c, g.take (i + 1) ++ List.replicate (32 - (i + 1)) 0 = c := ⟨_, rfl⟩
  obtain ⟨c1, ec1⟩ : ∃ c, g.take i ++ List.replicate (32 - i) 0 = c := ⟨_, rfl⟩
  rw [ec2] at su
  rw [ec1] at su gq ste lc
  refine ⟨_, _, by
    simp (config := {maxSteps := 2000000}) (disch := first | omega | (simp only [List.length_cons, List.length_nil, List.length_append, List.length_drop]; omega)) only [L_purserref09_Is_0, t1, t7, t8, gj', gq, cg', c0, wi, ix, ix2, ste, su, ↓b_xor32, ↓b_and32, ↓b_or32, ↓u_not32, b_xor32, b_and32, b_or32, u_not32, w32ad, ↓x_conv, x_convV, ↓x_fieldAddr, x_fieldV, ↓s_nilchk, x_nilchk, Nat.zero_add, Nat.add_zero, Nat.mul_one, ↓l_loop, ↓l_succ, ↓l_normal, l_normal, l_exit, l_ret, l_iteN, ↓h_put_get, ↓h_new_get, ↓h_del_get, h_next_put, h_next_new, h_next_del, Nat.add_assoc, Nat.add_eq_left, Nat.left_eq_add, Nat.add_left_cancel_iff, ↓s_load, m_load, ↓m_load1, m_load1, ↓m_st, m_stE, m_storeI, w_zero, w_succ, ↓s_alloc, ↓x_idxA, ↓x_idxS, x_idxAE, x_idxSE, x_addrE, x_idx, x_lenS, ↓s_len, ↓x_buildS, x_buildE, ↓x_P0, ↓x_P1, x_fill0, x_filli, x_fills, x_fillb, c_int, List.length_cons, List.length_nil, List.cons_append, List.drop_succ_cons, List.drop_zero, List.drop_nil, List.nil_append, Int.reduceAdd, Int.reduceToNat, Int.reduceLT, Int.reduceLE, Nat.reduceAdd, Nat.reduceMul, Nat.reduceLeDiff, Int.reduceEq, Int.reduceSub, Int.cast_ofNat_Int, s_resc, s_consR, m_load4, m_store4, s_res0, ↓s_skip, ↓s_ops, ↓s_dops, ↓s_seq, ↓s_cond, ↓s_block, ↓s_exit, ↓s_ret, ↓s_scope, ↓s_nil, ↓s_op, ↓s_opg, ↓s_wanted', ↓s_wantV, s_wantV, s_wantV0, beq_true, beq_false, ↓s_bindS, s_bindS, ↓s_bindE, s_bindE, s_bindE_ret, s_bindE_exit, s_bindE_iteN, s_norm, ↓s_condV, s_condV, s_block_ret, s_block_normal, s_block_exit, s_block_iteN, ↓s_getp, ↓s_getp0, ↓s_get, s_get0, ↓s_con, ↓s_fn, ↓s_os0, ↓s_os1, ↓s_list0, ↓s_list1, ↓s_mov, ↓s_pick, ↓s_pickE, s_pickE, ↓s_bin, ↓s_un, ↓s_minmax, ↓s_call, ↓s_callv, ↓s_callV, ↓s_ext, s_same, b_eql, b_neq, b_lss, b_leq, b_gtr, b_geq, b_add, b_sub, b_mul, b_eqlb, b_neqb, b_fnil, b_fnil', b_fnil2, b_fnil2', u_neg, u_not, m_two, s_end, s_end', s_end_iteN, s_res0, s_res1, s_tup1, s_tup2, ↓iteN_true, ↓iteN_false, iteN_true, iteN_false, Nat.zero_add, List.nil_append, List.append_nil, Nat.reduceEqDiff, reduceIte, decide_true, decide_false, Bool.not_true, Bool.not_false, List.getElem?_cons_zero, List.getElem?_cons_succ, Bool.false_eq_true, if_true, if_false, beq_self_eq_true]
    exact rfl, ⟨by omega, (by (simp only [s_getp, s_getp0, Nat.reduceEqDiff, decide_false, decide_true, iteN_false, iteN_true, t0]; try rfl)), (by (simp only [s_getp, s_getp0, Nat.reduceEqDiff, decide_false, decide_true, iteN_false, iteN_true, t1]; try rfl)), (by (simp only [s_getp, s_getp0, Nat.reduceEqDiff, decide_false, decide_true, iteN_false, iteN_true, t5]; try rfl)), (by (simp only [s_getp, s_getp0, Nat.reduceEqDiff, decide_false, decide_true, iteN_false, iteN_true, t7]; try rfl)), (by (simp only [s_getp, s_getp0, Nat.reduceEqDiff, decide_false, decide_true, iteN_false, iteN_true, t8]; try rfl)), by rw [h_put_same, ec2], eq.put _⟩⟩
theorem ri_loop (Q : Orc) (m q b j oj : Nat) (v0 : V) (g : List Nat) (ws : List V) (mj : Md) (hm : 32 < m) (hg : g.length = 64) (h0 : H) (hj : j ≠ q) (gj : h0.get j = some (.cells ws mj)) (cg : ∀ i, i < 64 → ws[oj + i]? = some (.int .u8 (g.getD i 0 : Nat)))
    (T : Tr V) (h : H) (I : RI q b j oj v0 g h0 0 T h) : ∃ T' h', loopN (evC Q 44 m none L_purserref09_Is_0) m ⟨T, [], h⟩ = some (.exit 0, ⟨T', [], h'⟩) ∧ RI q b j oj v0 g h0 32 T' h' :=
  loop_go (RI q b j oj v0 g h0) 32 (.exit 0) (by intro h; cases h) _ (ri_step Q m q b j oj v0 g ws mj hg h0 hj gj cg) (fun T h I => by
    obtain ⟨il, t0, t1, t5, t7, t8, gq, eq⟩ := I
    have c0 : decide (((32 : Nat) : Int) < 32) = false := rfl
    refine ⟨_, _, by
      simp (config := {maxSteps := 2000000}) (disch := first | omega | (simp only [List.length_cons, List.length_nil, List.length_append, List.length_drop]; omega)) only [L_purserref09_Is_0, t8, c0, ↓b_xor32, ↓b_and32, ↓b_or32, ↓u_not32, b_xor32, b_and32, b_or32, u_not32, w32ad, ↓x_conv, x_convV, ↓x_fieldAddr, x_fieldV, ↓s_nilchk, x_nilchk, Nat.zero_add, Nat.add_zero, Nat.mul_one, ↓l_loop, ↓l_succ, ↓l_normal, l_normal, l_exit, l_ret, l_iteN, ↓h_put_get, ↓h_new_get, ↓h_del_get, h_next_put, h_next_new, h_next_del, Nat.add_assoc, Nat.add_eq_left, Nat.left_eq_add, Nat.add_left_cancel_iff, ↓s_load, m_load, ↓m_load1, m_load1, ↓m_st, m_stE, m_storeI, m_storeE, w_zero, w_succ, ↓s_alloc, ↓x_idxA, ↓x_idxS, x_idxAE, x_idxSE, x_addrE, x_idx, x_lenS, ↓s_len, ↓x_buildS, x_buildE, ↓x_P0, ↓x_P1, x_fill0, x_filli, x_fills, x_fillb, c_int, List.length_cons, List.length_nil, List.cons_append, List.drop_succ_cons, List.drop_zero, List.drop_nil, List.nil_append, Int.reduceAdd, Int.reduceToNat, Int.reduceLT, Int.reduceLE, Nat.reduceAdd, Nat.reduceMul, Nat.reduceLeDiff, Int.reduceEq, Int.reduceSub, Int.cast_ofNat_Int, s_resc, s_consR, m_load4, m_store4, s_res0, ↓s_skip, ↓s_ops, ↓s_dops, ↓s_seq, ↓s_cond, ↓s_block, ↓s_exit, ↓s_ret, ↓s_scope, ↓s_nil, ↓s_op, ↓s_opg, ↓s_wanted', ↓s_wantV, s_wantV, s_wantV0, beq_true, beq_false, ↓s_bindS, s_bindS, ↓s_bindE, s_bindE, s_bindE_ret, s_bindE_exit, s_bindE_iteN, s_norm, ↓s_condV, s_condV, s_block_ret, s_block_normal, s_block_exit, s_block_iteN, ↓s_getp, ↓s_getp0, ↓s_get, s_get0, ↓s_con, ↓s_fn, ↓s_os0, ↓s_os1, ↓s_list0, ↓s_list1, ↓s_mov, ↓s_pick, ↓s_pickE, s_pickE, ↓s_bin, ↓s_un, ↓s_minmax, ↓s_call, ↓s_callv, ↓s_callV, ↓s_ext, s_same, b_eql, b_neq, b_lss, b_leq, b_gtr, b_geq, b_add, b_sub, b_mul, b_eqlb, b_neqb, b_fnil, b_fnil', b_fnil2, b_fnil2', u_neg, u_not, m_two, s_end, s_end', s_end_iteN, s_res0, s_res1, s_tup1, s_tup2, ↓iteN_true, ↓iteN_false, iteN_true, iteN_false, Nat.zero_add, List.nil_append, List.append_nil, Nat.reduceEqDiff, reduceIte, decide_true, decide_false, Bool.not_true, Bool.not_false, List.getElem?_cons_zero, List.getElem?_cons_succ, Bool.false_eq_true, if_true, if_false, beq_self_eq_true]
      exact rfl, ⟨il, (by (simp only [s_getp, s_getp0, Nat.reduceEqDiff, decide_false, decide_true, iteN_false, iteN_true, t0]; try rfl)), (by (simp only [s_getp, s_getp0, Nat.reduceEqDiff, decide_false, decide_true, iteN_false, iteN_true, t1]; try rfl)), (by (simp only [s_getp, s_getp0, Nat.reduceEqDiff, decide_false, decide_true, iteN_false, iteN_true, t5]; try rfl)), (by (simp only [s_getp, s_getp0, Nat.reduceEqDiff, decide_false, decide_true, iteN_false, iteN_true, t7]; try rfl)), (by (simp only [s_getp, s_getp0, Nat.reduceEqDiff, decide_false, decide_true, iteN_false, iteN_true, t8]; try rfl)), gq, eq⟩⟩) 32 0 (by omega) m hm T h I
theorem isV_s (p g d : List Nat) (hg : g.length = 64) : (decide (shaV (g.take 32) = p) && decide (g.take 32 ++ shaV (g.take 32 ++ d) = g)) = isV p g d := by
  unfold isV
  have : (g.take 32 ++ shaV (g.take 32 ++ d) = g) ↔ (shaV (g.take 32 ++ d) = g.drop 32) := by
    constructor
    · intro h
      have h2 := congrArg (List.drop 32) h
      rwa [List.drop_left' (by rw [List.length_take]; omega)] at h2
    · intro h; rw [h, List.take_append_drop]
  rw [decide_eq_decide.2 this]
set_option maxRecDepth 100000 in
set_option maxHeartbeats 2000000 in
theorem ris_all (e : E k_purserref09_Is = some f_purserref09_Is) (N : Nat) (p g d : List Nat) (bp : byt p = true) (bg : byt g = true) (bd : byt d = true) (hd : d.length = 32) (a b : Option (Nat × Nat)) (h : H) (sp : SrcH h a 1 p) (sg : SrcH h b 1 g) :
    ∃ h', callX E sjX (N + 40) (.fn k_purserref09_Is) [.slice a p.length none 1, .slice b g.length none 1, .agg (ofI .u8 d)] h = some (.bool (jV p g d), h') ∧ Kp h h' := by
  rw [x_cfn e _ _ (Nat.le_of_ble_eq_true rfl) rfl]
  by_cases hp : p.length = 32
  · by_cases hg : g.length = 64
    · rw [jV_is p g d hp hg, ← isV_s p g d hg]
      rcases sp with h0 | ⟨bi, oi, vs, mi, rfl, _, li, gi, lvs, evs⟩
      · rw [h0] at hp; cases hp
      rcases sg with h0 | ⟨bj, oj, ws, mj, rfl, _, lj, gj, lws, ews⟩
      · rw [h0] at hg; cases hg
      have st := str_src (h := h) (a := some (bi, oi)) (l := p) (ez := 1) (.inr ⟨bi, oi, vs, mi, rfl, rfl, li, gi, lvs, evs⟩) bp none
      have su := str_src (h := h) (a := some (bj, oj)) (l := g) (ez := 1) (.inr ⟨bj, oj, ws, mj, rfl, rfl, lj, gj, lws, ews⟩) bg none
      have cg : ∀ i, i < 64 → ws[oj + i]? = some (.int .u8 (g.getD i 0 : Nat)) := by
        intro i hi
        have : ((ws.drop oj).take 64)[i]? = (ofI .u8 g)[i]? := by rw [← ews, hg]
        rw [List.getElem?_take_of_lt (by omega), List.getElem?_drop, ofI_get _ _ _ (by omega)] at this
        exact this
      rw [hp] at lvs evs st
      rw [hg] at lws ews su
      rw [hp, hg]
      have nsp : nsE (some (.cells vs mi)) oi 32 = some (.str p) := by
        have := st; rw [show (32 : Nat) = 31 + 1 from rfl, nx_bs1, gi] at this; exact this
      have nsg : nsE (some (.cells ws mj)) oj 64 = some (.str g) := by
        have := su; rw [show (64 : Nat) = 63 + 1 from rfl, nx_bs1, gj] at this; exact this
      obtain ⟨A, eA⟩ : ∃ A, g.take 32 = A := ⟨_, rfl⟩
      have lA : A.length = 32 := by rw [← eA, List.length_take]; omega
      have bA : byt A = true := by
        rw [← eA]; exact byt_iff.2 (fun x hx => byt_iff.1 bg x (List.mem_of_mem_take hx))
      have lv := shaV_len A
      have bv := shaV_byt A
      have lS : (A ++ shaV (A ++ d)).length = 64 := by rw [List.length_append, shaV_len]; omega
      have bS : byt (A ++ shaV (A ++ d)) = true := byt_app' bA (shaV_byt _)
      have r1 := fun h => j_rpub (E := E) (N + 38) A h lA bA
      have r2 := fun h => j_rsign (E := E) (N + 38) A d h lA hd bA bd
      have q1 := fun e h => b_seq e h (shaV A) p
      have q2 := fun e h => b_seq e h (A ++ shaV (A ++ d)) g
      rw [eA]
      obtain ⟨w1, ew1⟩ : ∃ w, decide (shaV A = p) = w := ⟨_, rfl⟩
      obtain ⟨w2, ew2⟩ : ∃ w, decide (A ++ shaV (A ++ d) = g) = w := ⟨_, rfl⟩
      rw [ew1] at q1 ⊢
      rw [ew2] at q2 ⊢
      obtain ⟨SG, eSG⟩ : ∃ l, A ++ shaV (A ++ d) = l := ⟨_, rfl⟩
      rw [eSG] at lS bS r2 q2
      obtain ⟨SA, eSA⟩ : ∃ l, shaV A = l := ⟨_, rfl⟩
      rw [eSA] at lv bv r1 q1
      have ns1 : ∀ md, nsE (some (.cells (ofI .u8 SA) md)) 0 32 = some (.str SA) := fun md => by rw [nsI _ bv _ _ _ (by omega), List.drop_zero, take_all _ _ (by omega)]
      have ns2 : ∀ md, nsE (some (.cells (ofI .u8 SG) md)) 0 64 = some (.str SG) := fun md => by rw [nsI _ bS _ _ _ (by omega), List.drop_zero, take_all _ _ (by omega)]
      have z := z32e
      obtain ⟨h1, e1⟩ : ∃ h1, (h.new (.cells (ofI .u8 d) .rw)).new (.cells (ofI .u8 (List.replicate 32 0)) .rw) = h1 := ⟨_, rfl⟩
      have n1 : h1.next = h.next + 2 := by rw [← e1]; rfl
      have k1 : Kp h h1 := by rw [← e1]; exact (Kp.new _ _).trans (Kp.new _ _)
      have gd : h1.get h.next = some (.cells (ofI .u8 d) .rw) := by rw [← e1, h_new_ne _ _ (by rw [h_next_new]; omega), h_new_same]
      have gz : h1.get (h.next + 1) = some (.cells (ofI .u8 (List.replicate 32 0)) .rw) := by rw [← e1]; exact h_new_same' _ _ rfl
      have fin : ∀ T, RI (h.next + 1) h.next bj oj (.slice (some (bi, oi)) 32 none 1) g h1 0 T h1 → ∃ h', fnEnd [.tmp 6] (bindE (blockE 0 (loopN (evC (callX E sjX (N + 39)) 44 (N + 39) none L_purserref09_Is_0) (N + 39) ⟨T, [], h1⟩)) (evC (callX E sjX (N + 39)) 44 (N + 39) none R_purserref09_Is_0)) = some (.bool (w1 && w2), h') ∧ Kp h h' := by
        intro T I
        obtain ⟨T', h2, r, il, t0, t1, t5, t7, t8, gq, eq⟩ := ri_loop (callX E sjX (N + 39)) (N + 39) (h.next + 1) h.next bj oj _ g ws mj (by omega) hg h1 (by omega) (by rw [k1.2 _ lj, gj]) cg T h1 I
        rw [r]
        rw [eA, Nat.sub_self, List.replicate_zero, List.append_nil] at gq
        have gi2 : h2.get bi = some (.cells vs mi) := by rw [eq.2 _ (by omega), k1.2 _ li, gi]
        have gj2 : h2.get bj = some (.cells ws mj) := by rw [eq.2 _ (by omega), k1.2 _ lj, gj]
        have gd2 : h2.get h.next = some (.cells (ofI .u8 d) .rw) := by rw [eq.2 _ (by omega), gd]
        have m2 : h2.next = h.next + 2 := by rw [eq.1, n1]
        have i2 : (h.next + 2 = bi) = False := by simp; omega
        have j2 : (h.next + 2 = bj) = False := by simp; omega
        have j3 : (h.next + 2 + 1 = bj) = False := by simp; omega
        have j3' : (h.next + 3 = bj) = False := by simp; omega
        have k2 : Kp h h2 := ⟨by omega, fun i hi => by rw [eq.2 _ (by omega), k1.2 _ hi]⟩
        cases w1 with
        | false =>
          simp (config := {maxSteps := 2000000}) (disch := first | omega | rfl | (simp only [ofI_len, shaV_len, List.length_append, List.length_take, List.length_drop, List.length_cons, List.length_nil, List.length_replicate, List.length_set]; done) | (simp only [ofI_len, shaV_len, List.length_append, List.length_take, List.length_drop, List.length_cons, List.length_nil, List.length_replicate, List.length_set]; omega)) only [R_purserref09_Is_0, ← z, t0, t1, t5, t7, gq, gi2, gj2, gd2, m2, i2, j2, j3, j3', lA, hd, lv, lS, r1, r2, ns1, ns2, nsp, nsg, q1, q2, ↓ns_b2s, nx_bs1, vbeq_str, ↓s_dBuildS, s_dbE, rdI, ofI_get, m_src, m_src0, srcI, ldI, ld1I, wrAll, wrI, wr1I, stI, st32, take_all, drop_all, List.take_zero, List.drop_zero, List.nil_append, List.append_nil, appF_of, appFI, appF0, appU_of, appUIw, appUIs, app0, appN, eq32, neq32, ↓s_append, ↓x_copy, ↓x_slcA, x_slcAE, slcB_nn, slcB_hi, slcB_lo, slcB_lh, slcV_nn, slcV_hiU, slcV_hiC, slcV_lo, slcV_loL, slcV_hiUL, slcV_hiCL, slcV_mxL, slcB_hiL, slcB_loL, subC_some, subC_none, ↓x_slcS, x_bnd0, x_M1, x_M0, x_lenA, ofQ_some, Nat.sub_zero, ofI_len, shaV_len, ↓s_box, c_agg, List.length_append, List.length_cons, List.length_nil, Nat.reduceLeDiff, Nat.reduceSub, List.length_replicate, ↓b_xor32, ↓b_and32, ↓b_or32, ↓u_not32, b_xor32, b_and32, b_or32, u_not32, w32ad, ↓x_conv, x_convV, ↓x_fieldAddr, x_fieldV, ↓s_nilchk, x_nilchk, Nat.zero_add, Nat.add_zero, Nat.mul_one, ↓s_evD, ↓s_dnil, ↓s_dL, ↓s_dLg, ↓s_dR, ↓s_dRg, ↓s_dRj, ↓s_dRjg, ↓s_dB, ↓s_dBg, ↓s_dAlloc, ↓s_bindD, s_bindD, s_finD, s_finDx, s_addP0, s_addP1, s_addB, s_lookP, ↓s_bump0, ↓s_bump_get, s_bump_next, s_ok0, ↓s_ok1, s_okR0, ↓s_okR1, ↓s_okE, s_okE, s_okE1, s_nth0, s_nthS, Nat.add_zero, Bool.and_self, Bool.and_true, Bool.true_and, ↓l_loop, ↓l_succ, ↓l_normal, l_normal, l_exit, l_ret, l_iteN, ↓h_put_get, ↓h_new_get, ↓h_del_get, h_next_put, h_next_new, h_next_del, Nat.add_assoc, Nat.add_eq_left, Nat.left_eq_add, Nat.add_left_cancel_iff, ↓s_load, m_load, ↓m_load1, m_load1, ↓m_st, m_stE, m_storeI, m_storeE, ↓s_alloc, ↓x_idxA, ↓x_idxS, x_idxAE, x_idxSE, x_addrE, x_idx, x_lenS, ↓s_len, ↓x_buildS, x_buildE, ↓x_P0, ↓x_P1, x_fill0, x_filli, x_fills, x_fillb, c_int, List.length_cons, List.length_nil, List.cons_append, List.drop_succ_cons, List.drop_zero, List.drop_nil, List.nil_append, Int.reduceAdd, Int.reduceToNat, Int.reduceLT, Int.reduceLE, Nat.reduceAdd, Nat.reduceMul, Nat.reduceLeDiff, Int.reduceEq, Int.reduceSub, Int.cast_ofNat_Int, s_resc, s_consR, m_load4, m_store4, s_res0, ↓s_skip, ↓s_ops, ↓s_dops, ↓s_seq, ↓s_cond, ↓s_block, ↓s_exit, ↓s_ret, ↓s_scope, ↓s_nil, ↓s_op, ↓s_opg, ↓s_wanted', ↓s_wantV, s_wantV, s_wantV0, beq_true, beq_false, ↓s_bindS, s_bindS, ↓s_bindE, s_bindE, s_bindE_ret, s_bindE_exit, s_bindE_iteN, s_norm, ↓s_condV, s_condV, s_block_ret, s_block_normal, s_block_exit, s_block_iteN, ↓s_getp, ↓s_getp0, ↓s_get, s_get0, ↓s_con, ↓s_fn, ↓s_os0, ↓s_os1, ↓s_list0, ↓s_list1, ↓s_mov, ↓s_pick, ↓s_pickE, s_pickE, ↓s_bin, ↓s_un, ↓s_minmax, ↓s_call, ↓s_callv, ↓s_callV, ↓s_ext, s_same, b_eql, b_neq, b_lss, b_leq, b_gtr, b_geq, b_add, b_sub, b_mul, b_eqlb, b_neqb, b_fnil, b_fnil', b_fnil2, b_fnil2', u_neg, u_not, m_two, s_end, s_end', s_end_iteN, s_res0, s_res1, s_tup1, s_tup2, ↓iteN_true, ↓iteN_false, iteN_true, iteN_false, Nat.zero_add, List.nil_append, List.append_nil, Nat.reduceEqDiff, reduceIte, decide_true, decide_false, Bool.not_true, Bool.not_false, List.getElem?_cons_zero, List.getElem?_cons_succ, Bool.false_eq_true, if_true, if_false, beq_self_eq_true]
          exact ⟨_, rfl, (k2.trans (Kp.new _ _)).put _ (by omega)⟩
        | true =>
          simp (config := {maxSteps := 2000000}) (disch := first | omega | rfl | (simp only [ofI_len, shaV_len, List.length_append, List.length_take, List.length_drop, List.length_cons, List.length_nil, List.length_replicate, List.length_set]; done) | (simp only [ofI_len, shaV_len, List.length_append, List.length_take, List.length_drop, List.length_cons, List.length_nil, List.length_replicate, List.length_set]; omega)) only [R_purserref09_Is_0, ← z, t0, t1, t5, t7, gq, gi2, gj2, gd2, m2, i2, j2, j3, j3', lA, hd, lv, lS, r1, r2, ns1, ns2, nsp, nsg, q1, q2, ↓ns_b2s, nx_bs1, vbeq_str, ↓s_dBuildS, s_dbE, rdI, ofI_get, m_src, m_src0, srcI, ldI, ld1I, wrAll, wrI, wr1I, stI, st32, take_all, drop_all, List.take_zero, List.drop_zero, List.nil_append, List.append_nil, appF_of, appFI, appF0, appU_of, appUIw, appUIs, app0, appN, eq32, neq32, ↓s_append, ↓x_copy, ↓x_slcA, x_slcAE, slcB_nn, slcB_hi, slcB_lo, slcB_lh, slcV_nn, slcV_hiU, slcV_hiC, slcV_lo, slcV_loL, slcV_hiUL, slcV_hiCL, slcV_mxL, slcB_hiL, slcB_loL, subC_some, subC_none, ↓x_slcS, x_bnd0, x_M1, x_M0, x_lenA, ofQ_some, Nat.sub_zero, ofI_len, shaV_len, ↓s_box, c_agg, List.length_append, List.length_cons, List.length_nil, Nat.reduceLeDiff, Nat.reduceSub, List.length_replicate, ↓b_xor32, ↓b_and32, ↓b_or32, ↓u_not32, b_xor32, b_and32, b_or32, u_not32, w32ad, ↓x_conv, x_convV, ↓x_fieldAddr, x_fieldV, ↓s_nilchk, x_nilchk, Nat.zero_add, Nat.add_zero, Nat.mul_one, ↓s_evD, ↓s_dnil, ↓s_dL, ↓s_dLg, ↓s_dR, ↓s_dRg, ↓s_dRj, ↓s_dRjg, ↓s_dB, ↓s_dBg, ↓s_dAlloc, ↓s_bindD, s_bindD, s_finD, s_finDx, s_addP0, s_addP1, s_addB, s_lookP, ↓s_bump0, ↓s_bump_get, s_bump_next, s_ok0, ↓s_ok1, s_okR0, ↓s_okR1, ↓s_okE, s_okE, s_okE1, s_nth0, s_nthS, Nat.add_zero, Bool.and_self, Bool.and_true, Bool.true_and, ↓l_loop, ↓l_succ, ↓l_normal, l_normal, l_exit, l_ret, l_iteN, ↓h_put_get, ↓h_new_get, ↓h_del_get, h_next_put, h_next_new, h_next_del, Nat.add_assoc, Nat.add_eq_left, Nat.left_eq_add, Nat.add_left_cancel_iff, ↓s_load, m_load, ↓m_load1, m_load1, ↓m_st, m_stE, m_storeI, m_storeE, ↓s_alloc, ↓x_idxA, ↓x_idxS, x_idxAE, x_idxSE, x_addrE, x_idx, x_lenS, ↓s_len, ↓x_buildS, x_buildE, ↓x_P0, ↓x_P1, x_fill0, x_filli, x_fills, x_fillb, c_int, List.length_cons, List.length_nil, List.cons_append, List.drop_succ_cons, List.drop_zero, List.drop_nil, List.nil_append, Int.reduceAdd, Int.reduceToNat, Int.reduceLT, Int.reduceLE, Nat.reduceAdd, Nat.reduceMul, Nat.reduceLeDiff, Int.reduceEq, Int.reduceSub, Int.cast_ofNat_Int, s_resc, s_consR, m_load4, m_store4, s_res0, ↓s_skip, ↓s_ops, ↓s_dops, ↓s_seq, ↓s_cond, ↓s_block, ↓s_exit, ↓s_ret, ↓s_scope, ↓s_nil, ↓s_op, ↓s_opg, ↓s_wanted', ↓s_wantV, s_wantV, s_wantV0, beq_true, beq_false, ↓s_bindS, s_bindS, ↓s_bindE, s_bindE, s_bindE_ret, s_bindE_exit, s_bindE_iteN, s_norm, ↓s_condV, s_condV, s_block_ret, s_block_normal, s_block_exit, s_block_iteN, ↓s_getp, ↓s_getp0, ↓s_get, s_get0, ↓s_con, ↓s_fn, ↓s_os0, ↓s_os1, ↓s_list0, ↓s_list1, ↓s_mov, ↓s_pick, ↓s_pickE, s_pickE, ↓s_bin, ↓s_un, ↓s_minmax, ↓s_call, ↓s_callv, ↓s_callV, ↓s_ext, s_same, b_eql, b_neq, b_lss, b_leq, b_gtr, b_geq, b_add, b_sub, b_mul, b_eqlb, b_neqb, b_fnil, b_fnil', b_fnil2, b_fnil2', u_neg, u_not, m_two, s_end, s_end', s_end_iteN, s_res0, s_res1, s_tup1, s_tup2, ↓iteN_true, ↓iteN_false, iteN_true, iteN_false, Nat.zero_add, List.nil_append, List.append_nil, Nat.reduceEqDiff, reduceIte, decide_true, decide_false, Bool.not_true, Bool.not_false, List.getElem?_cons_zero, List.getElem?_cons_succ, Bool.false_eq_true, if_true, if_false, beq_self_eq_true]
          exact ⟨_, rfl, ((k2.trans (Kp.new _ _)).put _ (by omega)).trans (Kp.new _ _)⟩
      obtain ⟨R, eR⟩ : ∃ R, R_purserref09_Is_0 = R := ⟨_, rfl⟩
      obtain ⟨Lo, eL⟩ : ∃ R, L_purserref09_Is_0 = R := ⟨_, rfl⟩
      rw [eR, eL] at fin ⊢
      have c0 : decide ((32 : Int) = 32) = true := rfl
      have c1 : decide ((64 : Int) = 64) = true := rfl
      simp (config := {maxSteps := 2000000}) (disch := first | omega | rfl | (simp only [ofI_len, shaV_len, List.length_append, List.length_take, List.length_drop, List.length_cons, List.length_nil, List.length_replicate, List.length_set]; done) | (simp only [ofI_len, shaV_len, List.length_append, List.length_take, List.length_drop, List.length_cons, List.length_nil, List.length_replicate, List.length_set]; omega)) only [← z, c0, c1, e1, n1, ↓s_len, x_lenS, ↓b_xor32, ↓b_and32, ↓b_or32, ↓u_not32, b_xor32, b_and32, b_or32, u_not32, w32ad, ↓x_conv, x_convV, ↓x_fieldAddr, x_fieldV, ↓s_nilchk, x_nilchk, Nat.zero_add, Nat.add_zero, Nat.mul_one, ↓l_loop, ↓l_succ, ↓l_normal, l_normal, l_exit, l_ret, l_iteN, ↓h_put_get, ↓h_new_get, ↓h_del_get, h_next_put, h_next_new, h_next_del, Nat.add_assoc, Nat.add_eq_left, Nat.left_eq_add, Nat.add_left_cancel_iff, ↓s_load, m_load, ↓m_load1, m_load1, ↓m_st, m_stE, m_storeI, m_storeE, w_zero, w_succ, ↓s_alloc, ↓x_idxA, ↓x_idxS, x_idxAE, x_idxSE, x_addrE, x_idx, x_lenS, ↓s_len, ↓x_buildS, x_buildE, ↓x_P0, ↓x_P1, x_fill0, x_filli, x_fills, x_fillb, c_int, List.length_cons, List.length_nil, List.cons_append, List.drop_succ_cons, List.drop_zero, List.drop_nil, List.nil_append, Int.reduceAdd, Int.reduceToNat, Int.reduceLT, Int.reduceLE, Nat.reduceAdd, Nat.reduceMul, Nat.reduceLeDiff, Int.reduceEq, Int.reduceSub, Int.cast_ofNat_Int, s_resc, s_consR, m_load4, m_store4, s_res0, ↓s_skip, ↓s_ops, ↓s_dops, ↓s_seq, ↓s_cond, ↓s_block, ↓s_exit, ↓s_ret, ↓s_scope, ↓s_nil, ↓s_op, ↓s_opg, ↓s_wanted', ↓s_wantV, s_wantV, s_wantV0, beq_true, beq_false, ↓s_bindS, s_bindS, ↓s_bindE, s_bindE, s_bindE_ret, s_bindE_exit, s_bindE_iteN, s_norm, ↓s_condV, s_condV, s_block_ret, s_block_normal, s_block_exit, s_block_iteN, ↓s_getp, ↓s_getp0, ↓s_get, s_get0, ↓s_con, ↓s_fn, ↓s_os0, ↓s_os1, ↓s_list0, ↓s_list1, ↓s_mov, ↓s_pick, ↓s_pickE, s_pickE, ↓s_bin, ↓s_un, ↓s_minmax, ↓s_call, ↓s_callv, ↓s_callV, ↓s_ext, s_same, b_eql, b_neq, b_lss, b_leq, b_gtr, b_geq, b_add, b_sub, b_mul, b_eqlb, b_neqb, b_fnil, b_fnil', b_fnil2, b_fnil2', u_neg, u_not, m_two, s_end, s_end', s_end_iteN, s_res0, s_res1, s_tup1, s_tup2, ↓iteN_true, ↓iteN_false, iteN_true, iteN_false, Nat.zero_add, List.nil_append, List.append_nil, Nat.reduceEqDiff, reduceIte, decide_true, decide_false, Bool.not_true, Bool.not_false, List.getElem?_cons_zero, List.getElem?_cons_succ, Bool.false_eq_true, if_true, if_false, beq_self_eq_true, ↓s_box, c_agg]
      exact fin _ ⟨by omega, (by (simp only [s_getp, s_getp0, Nat.reduceEqDiff, decide_false, decide_true, iteN_false, iteN_true, eR]; try rfl)), (by (simp only [s_getp, s_getp0, Nat.reduceEqDiff, decide_false, decide_true, iteN_false, iteN_true, eR]; try rfl)), (by (simp only [s_getp, s_getp0, Nat.reduceEqDiff, decide_false, decide_true, iteN_false, iteN_true, eR]; try rfl)), (by (simp only [s_getp, s_getp0, Nat.reduceEqDiff, decide_false, decide_true, iteN_false, iteN_true, eR]; try rfl)), (by (simp only [s_getp, s_getp0, Nat.reduceEqDiff, decide_false, decide_true, iteN_false, iteN_true, eR]; try rfl)), gz, Eqx.refl _ _⟩
    · rw [jV_g p g d hg, hp]
      have c1 : decide ((g.length : Int) = 64) = false := decide_eq_false (by omega)
      have c0 : decide ((32 : Int) = 32) = true := rfl
      obtain ⟨n, en⟩ : ∃ n, g.length = n := ⟨_, rfl⟩
      rw [en] at c1 ⊢
      simp (config := {maxSteps := 2000000}) (disch := first | omega | rfl | (simp only [ofI_len, shaV_len, List.length_append, List.length_take, List.length_drop, List.length_cons, List.length_nil, List.length_replicate, List.length_set]; done) | (simp only [ofI_len, shaV_len, List.length_append, List.length_take, List.length_drop, List.length_cons, List.length_nil, List.length_replicate, List.length_set]; omega)) only [c0, c1, ↓s_len, x_lenS, ↓b_xor32, ↓b_and32, ↓b_or32, ↓u_not32, b_xor32, b_and32, b_or32, u_not32, w32ad, ↓x_conv, x_convV, ↓x_fieldAddr, x_fieldV, ↓s_nilchk, x_nilchk, Nat.zero_add, Nat.add_zero, Nat.mul_one, ↓l_loop, ↓l_succ, ↓l_normal, l_normal, l_exit, l_ret, l_iteN, ↓h_put_get, ↓h_new_get, ↓h_del_get, h_next_put, h_next_new, h_next_del, Nat.add_assoc, Nat.add_eq_left, Nat.left_eq_add, Nat.add_left_cancel_iff, ↓s_load, m_load, ↓m_load1, m_load1, ↓m_st, m_stE, m_storeI, m_storeE, ↓s_alloc, ↓x_idxA, ↓x_idxS, x_idxAE, x_idxSE, x_addrE, x_idx, x_lenS, ↓s_len, ↓x_buildS, x_buildE, ↓x_P0, ↓x_P1, x_fill0, x_filli, x_fills, x_fillb, c_int, List.length_cons, List.length_nil, List.cons_append, List.drop_succ_cons, List.drop_zero, List.drop_nil, List.nil_append, Int.reduceAdd, Int.reduceToNat, Int.reduceLT, Int.reduceLE, Nat.reduceAdd, Nat.reduceMul, Nat.reduceLeDiff, Int.reduceEq, Int.reduceSub, Int.cast_ofNat_Int, s_resc, s_consR, m_load4, m_store4, s_res0, ↓s_skip, ↓s_ops, ↓s_dops, ↓s_seq, ↓s_cond, ↓s_block, ↓s_exit, ↓s_ret, ↓s_scope, ↓s_nil, ↓s_op, ↓s_opg, ↓s_wanted', ↓s_wantV, s_wantV, s_wantV0, beq_true, beq_false, ↓s_bindS, s_bindS, ↓s_bindE, s_bindE, s_bindE_ret, s_bindE_exit, s_bindE_iteN, s_norm, ↓s_condV, s_condV, s_block_ret, s_block_normal, s_block_exit, s_block_iteN, ↓s_getp, ↓s_getp0, ↓s_get, s_get0, ↓s_con, ↓s_fn, ↓s_os0, ↓s_os1, ↓s_list0, ↓s_list1, ↓s_mov, ↓s_pick, ↓s_pickE, s_pickE, ↓s_bin, ↓s_un, ↓s_minmax, ↓s_call, ↓s_callv, ↓s_callV, ↓s_ext, s_same, b_eql, b_neq, b_lss, b_leq, b_gtr, b_geq, b_add, b_sub, b_mul, b_eqlb, b_neqb, b_fnil, b_fnil', b_fnil2, b_fnil2', u_neg, u_not, m_two, s_end, s_end', s_end_iteN, s_res0, s_res1, s_tup1, s_tup2, ↓iteN_true, ↓iteN_false, iteN_true, iteN_false, Nat.zero_add, List.nil_append, List.append_nil, Nat.reduceEqDiff, reduceIte, decide_true, decide_false, Bool.not_true, Bool.not_false, List.getElem?_cons_zero, List.getElem?_cons_succ, Bool.false_eq_true, if_true, if_false, beq_self_eq_true, ↓s_box, c_agg]
      exact ⟨_, rfl, by (repeat (first | exact Kp.refl _ | refine Kp.put ?_ _ (by first | omega | (simp only [h_next_put, h_next_new, h_next_del]; omega)) | refine Kp.del ?_ (by first | omega | (simp only [h_next_put, h_next_new, h_next_del]; omega)) | refine Kp.trans ?_ (Kp.new _ _)))⟩
  · rw [jV_p p g d hp]
    have c0 : decide ((p.length : Int) = 32) = false := decide_eq_false (by omega)
    obtain ⟨n, en⟩ : ∃ n, p.length = n := ⟨_, rfl⟩
    rw [en] at c0 ⊢
    simp (config := {maxSteps := 2000000}) (disch := first | omega | rfl | (simp only [ofI_len, shaV_len, List.length_append, List.length_take, List.length_drop, List.length_cons, List.length_nil, List.length_replicate, List.length_set]; done) | (simp only [ofI_len, shaV_len, List.length_append, List.length_take, List.length_drop, List.length_cons, List.length_nil, List.length_replicate, List.length_set]; omega)) only [c0, ↓s_len, x_lenS, ↓b_xor32, ↓b_and32, ↓b_or32, ↓u_not32, b_xor32, b_and32, b_or32, u_not32, w32ad, ↓x_conv, x_convV, ↓x_fieldAddr, x_fieldV, ↓s_nilchk, x_nilchk, Nat.zero_add, Nat.add_zero, Nat.mul_one, ↓l_loop, ↓l_succ, ↓l_normal, l_normal, l_exit, l_ret, l_iteN, ↓h_put_get, ↓h_new_get, ↓h_del_get, h_next_put, h_next_new, h_next_del, Nat.add_assoc, Nat.add_eq_left, Nat.left_eq_add, Nat.add_left_cancel_iff, ↓s_load, m_load, ↓m_load1, m_load1, ↓m_st, m_stE, m_storeI, m_storeE, ↓s_alloc, ↓x_idxA, ↓x_idxS, x_idxAE, x_idxSE, x_addrE, x_idx, x_lenS, ↓s_len, ↓x_buildS, x_buildE, ↓x_P0, ↓x_P1, x_fill0, x_filli, x_fills, x_fillb, c_int, List.length_cons, List.length_nil, List.cons_append, List.drop_succ_cons, List.drop_zero, List.drop_nil, List.nil_append, Int.reduceAdd, Int.reduceToNat, Int.reduceLT, Int.reduceLE, Nat.reduceAdd, Nat.reduceMul, Nat.reduceLeDiff, Int.reduceEq, Int.reduceSub, Int.cast_ofNat_Int, s_resc, s_consR, m_load4, m_store4, s_res0, ↓s_skip, ↓s_ops, ↓s_dops, ↓s_seq, ↓s_cond, ↓s_block, ↓s_exit, ↓s_ret, ↓s_scope, ↓s_nil, ↓s_op, ↓s_opg, ↓s_wanted', ↓s_wantV, s_wantV, s_wantV0, beq_true, beq_false, ↓s_bindS, s_bindS, ↓s_bindE, s_bindE, s_bindE_ret, s_bindE_exit, s_bindE_iteN, s_norm, ↓s_condV, s_condV, s_block_ret, s_block_normal, s_block_exit, s_block_iteN, ↓s_getp, ↓s_getp0, ↓s_get, s_get0, ↓s_con, ↓s_fn, ↓s_os0, ↓s_os1, ↓s_list0, ↓s_list1, ↓s_mov, ↓s_pick, ↓s_pickE, s_pickE, ↓s_bin, ↓s_un, ↓s_minmax, ↓s_call, ↓s_callv, ↓s_callV, ↓s_ext, s_same, b_eql, b_neq, b_lss, b_leq, b_gtr, b_geq, b_add, b_sub, b_mul, b_eqlb, b_neqb, b_fnil, b_fnil', b_fnil2, b_fnil2', u_neg, u_not, m_two, s_end, s_end', s_end_iteN, s_res0, s_res1, s_tup1, s_tup2, ↓iteN_true, ↓iteN_false, iteN_true, iteN_false, Nat.zero_add, List.nil_append, List.append_nil, Nat.reduceEqDiff, reduceIte, decide_true, decide_false, Bool.not_true, Bool.not_false, List.getElem?_cons_zero, List.getElem?_cons_succ, Bool.false_eq_true, if_true, if_false, beq_self_eq_true, ↓s_box, c_agg]
    exact ⟨_, rfl, by (repeat (first | exact Kp.refl _ | refine Kp.put ?_ _ (by first | omega | (simp only [h_next_put, h_next_new, h_next_del]; omega)) | refine Kp.del ?_ (by first | omega | (simp only [h_next_put, h_next_new, h_next_del]; omega)) | refine Kp.trans ?_ (Kp.new _ _)))⟩
set_option maxRecDepth 100000 in
set_option maxHeartbeats 4000000 in
theorem law_SignJudges (N : Nat) (e : E k_purserlaw09_SignJudges = some f_purserlaw09_SignJudges) (eR : E k_purserref09_Is = some f_purserref09_Is) (eS : EnSign E) (p g d : List Nat) (bp : byt p = true) (bg : byt g = true) (hd : d.length = 32) (bd : byt d = true) (a b : Option (Nat × Nat)) (h : H) (sp : SrcH h a 1 p) (sg : SrcH h b 1 g) :
    ∃ h2, callX E sjX (N + 102) (.fn k_purserlaw09_SignJudges) [.slice a p.length none 1, .slice b g.length none 1, .agg (ofI .u8 d)] h = some (.bool true, h2) := by
  rw [x_cfn e _ _ (Nat.le_of_ble_eq_true rfl) rfl]
  by_cases hp : 200 < p.length
  · have c1 : decide ((200 : Int) < (p.length : Int)) = true := decide_eq_true (by omega)
    simp (config := {maxSteps := 2000000}) (disch := first | omega | rfl | (simp only [ofI_len, shaV_len, List.length_append, List.length_take, List.length_drop, List.length_cons, List.length_nil, List.length_replicate, List.length_set]; done) | (simp only [ofI_len, shaV_len, List.length_append, List.length_take, List.length_drop, List.length_cons, List.length_nil, List.length_replicate, List.length_set]; omega)) only [c1, ↓s_len, x_lenS, ↓b_xor32, ↓b_and32, ↓b_or32, ↓u_not32, b_xor32, b_and32, b_or32, u_not32, w32ad, ↓x_conv, x_convV, ↓x_fieldAddr, x_fieldV, ↓s_nilchk, x_nilchk, Nat.zero_add, Nat.add_zero, Nat.mul_one, ↓l_loop, ↓l_succ, ↓l_normal, l_normal, l_exit, l_ret, l_iteN, ↓h_put_get, ↓h_new_get, ↓h_del_get, h_next_put, h_next_new, h_next_del, Nat.add_assoc, Nat.add_eq_left, Nat.left_eq_add, Nat.add_left_cancel_iff, ↓s_load, m_load, ↓m_load1, m_load1, ↓m_st, m_stE, m_storeI, m_storeE, ↓s_alloc, ↓x_idxA, ↓x_idxS, x_idxAE, x_idxSE, x_addrE, x_idx, x_lenS, ↓s_len, ↓x_buildS, x_buildE, ↓x_P0, ↓x_P1, x_fill0, x_filli, x_fills, x_fillb, c_int, List.length_cons, List.length_nil, List.cons_append, List.drop_succ_cons, List.drop_zero, List.drop_nil, List.nil_append, Int.reduceAdd, Int.reduceToNat, Int.reduceLT, Int.reduceLE, Nat.reduceAdd, Nat.reduceMul, Nat.reduceLeDiff, Int.reduceEq, Int.reduceSub, Int.cast_ofNat_Int, s_resc, s_consR, m_load4, m_store4, s_res0, ↓s_skip, ↓s_ops, ↓s_dops, ↓s_seq, ↓s_cond, ↓s_block, ↓s_exit, ↓s_ret, ↓s_scope, ↓s_nil, ↓s_op, ↓s_opg, ↓s_wanted', ↓s_wantV, s_wantV, s_wantV0, beq_true, beq_false, ↓s_bindS, s_bindS, ↓s_bindE, s_bindE, s_bindE_ret, s_bindE_exit, s_bindE_iteN, s_norm, ↓s_condV, s_condV, s_block_ret, s_block_normal, s_block_exit, s_block_iteN, ↓s_getp, ↓s_getp0, ↓s_get, s_get0, ↓s_con, ↓s_fn, ↓s_os0, ↓s_os1, ↓s_list0, ↓s_list1, ↓s_mov, ↓s_pick, ↓s_pickE, s_pickE, ↓s_bin, ↓s_un, ↓s_minmax, ↓s_call, ↓s_callv, ↓s_callV, ↓s_ext, s_same, b_eql, b_neq, b_lss, b_leq, b_gtr, b_geq, b_add, b_sub, b_mul, b_eqlb, b_neqb, b_fnil, b_fnil', b_fnil2, b_fnil2', u_neg, u_not, m_two, s_end, s_end', s_end_iteN, s_res0, s_res1, s_tup1, s_tup2, ↓iteN_true, ↓iteN_false, iteN_true, iteN_false, Nat.zero_add, List.nil_append, List.append_nil, Nat.reduceEqDiff, reduceIte, decide_true, decide_false, Bool.not_true, Bool.not_false, List.getElem?_cons_zero, List.getElem?_cons_succ, Bool.false_eq_true, if_true, if_false, beq_self_eq_true, ↓s_box, c_agg]
    exact ⟨_, rfl⟩
  have c1 : decide ((200 : Int) < (p.length : Int)) = false := decide_eq_false (by omega)
  by_cases hg : 200 < g.length
  · have c2 : decide ((200 : Int) < (g.length : Int)) = true := decide_eq_true (by omega)
    simp (config := {maxSteps := 2000000}) (disch := first | omega | rfl | (simp only [ofI_len, shaV_len, List.length_append, List.length_take, List.length_drop, List.length_cons, List.length_nil, List.length_replicate, List.length_set]; done) | (simp only [ofI_len, shaV_len, List.length_append, List.length_take, List.length_drop, List.length_cons, List.length_nil, List.length_replicate, List.length_set]; omega)) only [c1, c2, ↓s_len, x_lenS, ↓b_xor32, ↓b_and32, ↓b_or32, ↓u_not32, b_xor32, b_and32, b_or32, u_not32, w32ad, ↓x_conv, x_convV, ↓x_fieldAddr, x_fieldV, ↓s_nilchk, x_nilchk, Nat.zero_add, Nat.add_zero, Nat.mul_one, ↓l_loop, ↓l_succ, ↓l_normal, l_normal, l_exit, l_ret, l_iteN, ↓h_put_get, ↓h_new_get, ↓h_del_get, h_next_put, h_next_new, h_next_del, Nat.add_assoc, Nat.add_eq_left, Nat.left_eq_add, Nat.add_left_cancel_iff, ↓s_load, m_load, ↓m_load1, m_load1, ↓m_st, m_stE, m_storeI, m_storeE, ↓s_alloc, ↓x_idxA, ↓x_idxS, x_idxAE, x_idxSE, x_addrE, x_idx, x_lenS, ↓s_len, ↓x_buildS, x_buildE, ↓x_P0, ↓x_P1, x_fill0, x_filli, x_fills, x_fillb, c_int, List.length_cons, List.length_nil, List.cons_append, List.drop_succ_cons, List.drop_zero, List.drop_nil, List.nil_append, Int.reduceAdd, Int.reduceToNat, Int.reduceLT, Int.reduceLE, Nat.reduceAdd, Nat.reduceMul, Nat.reduceLeDiff, Int.reduceEq, Int.reduceSub, Int.cast_ofNat_Int, s_resc, s_consR, m_load4, m_store4, s_res0, ↓s_skip, ↓s_ops, ↓s_dops, ↓s_seq, ↓s_cond, ↓s_block, ↓s_exit, ↓s_ret, ↓s_scope, ↓s_nil, ↓s_op, ↓s_opg, ↓s_wanted', ↓s_wantV, s_wantV, s_wantV0, beq_true, beq_false, ↓s_bindS, s_bindS, ↓s_bindE, s_bindE, s_bindE_ret, s_bindE_exit, s_bindE_iteN, s_norm, ↓s_condV, s_condV, s_block_ret, s_block_normal, s_block_exit, s_block_iteN, ↓s_getp, ↓s_getp0, ↓s_get, s_get0, ↓s_con, ↓s_fn, ↓s_os0, ↓s_os1, ↓s_list0, ↓s_list1, ↓s_mov, ↓s_pick, ↓s_pickE, s_pickE, ↓s_bin, ↓s_un, ↓s_minmax, ↓s_call, ↓s_callv, ↓s_callV, ↓s_ext, s_same, b_eql, b_neq, b_lss, b_leq, b_gtr, b_geq, b_add, b_sub, b_mul, b_eqlb, b_neqb, b_fnil, b_fnil', b_fnil2, b_fnil2', u_neg, u_not, m_two, s_end, s_end', s_end_iteN, s_res0, s_res1, s_tup1, s_tup2, ↓iteN_true, ↓iteN_false, iteN_true, iteN_false, Nat.zero_add, List.nil_append, List.append_nil, Nat.reduceEqDiff, reduceIte, decide_true, decide_false, Bool.not_true, Bool.not_false, List.getElem?_cons_zero, List.getElem?_cons_succ, Bool.false_eq_true, if_true, if_false, beq_self_eq_true, ↓s_box, c_agg]
    exact ⟨_, rfl⟩
  have c2 : decide ((200 : Int) < (g.length : Int)) = false := decide_eq_false (by omega)
  obtain ⟨hb, ehb⟩ : ∃ hb, h.new (.cells (ofI .u8 d) .rw) = hb := ⟨_, rfl⟩
  have nb : hb.next = h.next + 1 := by rw [← ehb]; rfl
  have kb : Kp h hb := by rw [← ehb]; exact Kp.new _ _
  have gd : hb.get h.next = some (.cells (ofI .u8 d) .rw) := by rw [← ehb, h_new_same]
  obtain ⟨v1, h1, P, md1, h2, ap1, nq1, k1, ap2, k2, hP0, hPn, gP⟩ := own_byte hb p 7 (by omega)
  obtain ⟨v3, h3, Q, md2, h4, ap3, nq3, k3, ap4, k4, hQ0, hQn, gQ⟩ := own_byte h2 g 7 (by omega)
  have sc1 := ((sp.mono kb).mono (Kp.new hb (.cells [] .rw))).cellz none
  have sc2 := src1 h1 7
  have sc3 := ((sg.mono (kb.trans k2)).mono (Kp.new h2 (.cells [] .rw))).cellz none
  have sc4 := src1 h3 7
  have gP4 : h4.get P = some (.cells (ofI .u8 (p ++ [7])) md1) := by rw [k4.2 _ hPn, gP]
  have nd4 : h.next < h4.next := by have := k2.1; have := k4.1; omega
  have gd4 : h4.get h.next = some (.cells (ofI .u8 d) .rw) := by rw [k4.2 _ (by have := k2.1; omega), k2.2 _ (by omega), gd]
  obtain ⟨h5, r5, k5⟩ := is_all eS sj_no sj_of (N + 97) P Q (p ++ [7]) (g ++ [7]) p g d md1 md2 h4 (by have := k4.1; omega) hQn gP4 gQ (by rw [List.length_append]; omega) (by rw [List.length_append]; omega) (List.take_left' rfl) (List.take_left' rfl) hd
  have gd5 : h5.get h.next = some (.cells (ofI .u8 d) .rw) := by rw [k5.2 _ nd4, gd4]
  have k05 : Kp h h5 := ((kb.trans k2).trans k4).trans k5
  obtain ⟨h6, r6, k6⟩ := ris_all (E := E) eR (N + 61) p g d bp bg bd hd a b h5 (sp.mono k05) (sg.mono k05)
  have gd6 : h6.get h.next = some (.cells (ofI .u8 d) .rw) := by rw [k6.2 _ (by have := k5.1; omega), gd5]
  have byap : ∀ l, byt l = true → byt (l ++ [7]) = true := fun l hl => byt_app' hl rfl
  have so : ∀ (l : List Nat) (i : Nat) (m : Md), byt l = true → h6.get i = some (.cells (ofI .u8 (l ++ [7])) m) → b2sV h6 (.slice (some (i, 0)) (l.length + 1) none 1) = some (.str (l ++ [7])) := by
    intro l i m bl hg
    rw [nx_bs1, hg, nsI _ (byap l bl) _ _ _ (by rw [List.length_append]; simp), List.drop_zero, take_all _ _ (by rw [List.length_append]; simp)]
  have soP := so p P md1 bp (by rw [k6.2 _ (by have := k5.1; have := k4.1; omega), k5.2 _ (by have := k4.1; omega), gP4])
  have soQ := so g Q md2 bg (by rw [k6.2 _ (by have := k5.1; omega), k5.2 _ hQn, gQ])
  have stp := str_src (sp.mono (k05.trans k6)) bp none
  have stg := str_src (sg.mono (k05.trans k6)) bg none
  obtain ⟨h7, r7, k7⟩ := pub_go eS sj_no sj_of (N + 99) d hd h6
  have gd7 : h7.get h.next = some (.cells (ofI .u8 d) .rw) := by rw [k7.2 _ (by have := k6.1; have := k5.1; omega), gd6]
  have r8 := j_rpub (E := E) (N + 100) d h7 hd bd
  have sa1 : ∀ e h, binV .add e h (.str p) (.str [7]) = some (.str (p ++ [7])) := fun e h => b_sadd e h p [7] (by simp; omega)
  have sa2 : ∀ e h, binV .add e h (.str g) (.str [7]) = some (.str (g ++ [7])) := fun e h => b_sadd e h g [7] (by simp; omega)
  have sv1 := slcV_hiB (p.length + 1) p.length (some (P, 0)) .i64 (by omega)
  have sv2 := slcV_hiB (g.length + 1) g.length (some (Q, 0)) .i64 (by omega)
  obtain ⟨W, eW⟩ : ∃ W, jV p g d = W := ⟨_, rfl⟩
  rw [eW] at r5 r6
  have qW : ∀ h, binV .eql .bool h (.bool W) (.bool W) = some (.bool true) := fun h => by cases W <;> rfl
  have lv := shaV_len d
  obtain ⟨SD, eSD⟩ : ∃ W, shaV d = W := ⟨_, rfl⟩
  rw [eSD] at r7 r8 lv
  obtain ⟨PS, ePS⟩ : ∃ W, p ++ [7] = W := ⟨_, rfl⟩
  rw [ePS] at soP sa1
  obtain ⟨GS, eGS⟩ : ∃ W, g ++ [7] = W := ⟨_, rfl⟩
  rw [eGS] at soQ sa2
  simp only [Int.cast_ofNat_Int] at ap2 sc2 ap4 sc4
  obtain ⟨np, enp⟩ : ∃ o, p.length = o := ⟨_, rfl⟩
  obtain ⟨ng, eng⟩ : ∃ o, g.length = o := ⟨_, rfl⟩
  rw [enp] at c1 ap1 ap2 sc1 sv1 r5 r6 soP stp ⊢
  rw [eng] at c2 ap3 ap4 sc3 sv2 r5 r6 soQ stg ⊢
  simp (config := {maxSteps := 2000000}) (disch := first | omega | rfl | (simp only [ofI_len, shaV_len, List.length_append, List.length_take, List.length_drop, List.length_cons, List.length_nil, List.length_replicate, List.length_set]; done) | (simp only [ofI_len, shaV_len, List.length_append, List.length_take, List.length_drop, List.length_cons, List.length_nil, List.length_replicate, List.length_set]; omega)) only [c1, c2, ehb, ap1, ap2, ap3, ap4, sc1, sc2, sc3, sc4, sv1, sv2, gd4, gd5, gd6, gd7, r5, r6, r7, r8, soP, soQ, stp, stg, sa1, sa2, qW, hd, lv, ↓ns_b2s, b_seq, vbeq_str, vbeq_I, ↓s_append, ↓x_slcS, x_M0, x_M1, eq32, ↓s_len, x_lenS, ↓s_dBuildS, s_dbE, rdI, ofI_get, m_src, m_src0, srcI, ldI, ld1I, wrAll, wrI, wr1I, stI, st32, take_all, drop_all, List.take_zero, List.drop_zero, List.nil_append, List.append_nil, appF_of, appFI, appF0, appU_of, appUIw, appUIs, app0, appN, eq32, neq32, ↓s_append, ↓x_copy, ↓x_slcA, x_slcAE, slcB_nn, slcB_hi, slcB_lo, slcB_lh, slcV_nn, slcV_hiU, slcV_hiC, slcV_lo, slcV_loL, slcV_hiUL, slcV_hiCL, slcV_mxL, slcB_hiL, slcB_loL, subC_some, subC_none, ↓x_slcS, x_bnd0, x_M1, x_M0, x_lenA, ofQ_some, Nat.sub_zero, ofI_len, shaV_len, ↓s_box, c_agg, List.length_append, List.length_cons, List.length_nil, Nat.reduceLeDiff, Nat.reduceSub, List.length_replicate, ↓b_xor32, ↓b_and32, ↓b_or32, ↓u_not32, b_xor32, b_and32, b_or32, u_not32, w32ad, ↓x_conv, x_convV, ↓x_fieldAddr, x_fieldV, ↓s_nilchk, x_nilchk, Nat.zero_add, Nat.add_zero, Nat.mul_one, ↓s_evD, ↓s_dnil, ↓s_dL, ↓s_dLg, ↓s_dR, ↓s_dRg, ↓s_dRj, ↓s_dRjg, ↓s_dB, ↓s_dBg, ↓s_dAlloc, ↓s_bindD, s_bindD, s_finD, s_finDx, s_addP0, s_addP1, s_addB, s_lookP, ↓s_bump0, ↓s_bump_get, s_bump_next, s_ok0, ↓s_ok1, s_okR0, ↓s_okR1, ↓s_okE, s_okE, s_okE1, s_nth0, s_nthS, Nat.add_zero, Bool.and_self, Bool.and_true, Bool.true_and, ↓l_loop, ↓l_succ, ↓l_normal, l_normal, l_exit, l_ret, l_iteN, ↓h_put_get, ↓h_new_get, ↓h_del_get, h_next_put, h_next_new, h_next_del, Nat.add_assoc, Nat.add_eq_left, Nat.left_eq_add, Nat.add_left_cancel_iff, ↓s_load, m_load, ↓m_load1, m_load1, ↓m_st, m_stE, m_storeI, m_storeE, w_zero, w_succ, ↓s_alloc, ↓x_idxA, ↓x_idxS, x_idxAE, x_idxSE, x_addrE, x_idx, x_lenS, ↓s_len, ↓x_buildS, x_buildE, ↓x_P0, ↓x_P1, x_fill0, x_filli, x_fills, x_fillb, c_int, List.length_cons, List.length_nil, List.cons_append, List.drop_succ_cons, List.drop_zero, List.drop_nil, List.nil_append, Int.reduceAdd, Int.reduceToNat, Int.reduceLT, Int.reduceLE, Nat.reduceAdd, Nat.reduceMul, Nat.reduceLeDiff, Int.reduceEq, Int.reduceSub, Int.cast_ofNat_Int, s_resc, s_consR, m_load4, m_store4, s_res0, ↓s_skip, ↓s_ops, ↓s_dops, ↓s_seq, ↓s_cond, ↓s_block, ↓s_exit, ↓s_ret, ↓s_scope, ↓s_nil, ↓s_op, ↓s_opg, ↓s_wanted', ↓s_wantV, s_wantV, s_wantV0, beq_true, beq_false, ↓s_bindS, s_bindS, ↓s_bindE, s_bindE, s_bindE_ret, s_bindE_exit, s_bindE_iteN, s_norm, ↓s_condV, s_condV, s_block_ret, s_block_normal, s_block_exit, s_block_iteN, ↓s_getp, ↓s_getp0, ↓s_get, s_get0, ↓s_con, ↓s_fn, ↓s_os0, ↓s_os1, ↓s_list0, ↓s_list1, ↓s_mov, ↓s_pick, ↓s_pickE, s_pickE, ↓s_bin, ↓s_un, ↓s_minmax, ↓s_call, ↓s_callv, ↓s_callV, ↓s_ext, s_same, b_eql, b_neq, b_lss, b_leq, b_gtr, b_geq, b_add, b_sub, b_mul, b_eqlb, b_neqb, b_fnil, b_fnil', b_fnil2, b_fnil2', u_neg, u_not, m_two, s_end, s_end', s_end_iteN, s_res0, s_res1, s_tup1, s_tup2, ↓iteN_true, ↓iteN_false, iteN_true, iteN_false, Nat.zero_add, List.nil_append, List.append_nil, Nat.reduceEqDiff, reduceIte, decide_true, decide_false, Bool.not_true, Bool.not_false, List.getElem?_cons_zero, List.getElem?_cons_succ, Bool.false_eq_true, if_true, if_false, beq_self_eq_true, ↓s_box, c_agg]
  exact ⟨_, rfl⟩
end Go.Eng
