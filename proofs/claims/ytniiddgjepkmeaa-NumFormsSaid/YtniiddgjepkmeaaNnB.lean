/- What functions of the program come to: own work. -/
import Derived.Test.YtniiddgjepkmeaaNnA
namespace Go.Eng
open Go
variable {E : Nat → Option Fn}
set_option linter.unusedSimpArgs false
set_option linter.unusedVariables false
/-- the digits, the lowest first -/
def digs : Nat → Nat → List Nat
  | 0, _ => []
  | k + 1, m => match m with
    | 0 => []
    | m + 1 => (m + 1) % 256 :: digs k ((m + 1) / 256)
theorem s_callVy1 (Q : Orc) (xs : List V) (l : Nat) (h : H) : callV Q xs (.yld l) h = Q (.yld l) xs h := _root_.id rfl
theorem b_shr8 (e : EqK) (h : H) (a : Nat) : binV .shr e h (.int .i64 (a : Int)) (.int .u64 8) = some (.int .i64 ((a / 256 : Nat) : Int)) := rfl
theorem s_buildS1 (x : V) (k : IntKind) (y : Int) (h : x = .int k y) : True := trivial
/-- an append to bytes -/
theorem s_append (Q : Orc) (T : Tr V) (h : H) (esz bytes : Nat) (s x : O) : Eng.step (.append esz bytes s x) Q T h = appendC h esz bytes (evO T s) (srcCells h esz (evO T x)) := _root_.id rfl
noncomputable def srcE (b : Option Blk) (off len esz : Nat) : Option (Nat × List V) := match b with
  | some (.cells vs _) => match readN vs off (len * esz) with | some l => some (len, l) | none => none
  | _ => none
@[congr] theorem srcE_congr {b b' : Option Blk} {off len esz : Nat} (e : b = b') : srcE b off len esz = srcE b' off len esz := by rw [e]
theorem m_src (h : H) (esz i off len : Nat) (c : Option Nat) (e : Nat) : srcCells h esz (.slice (some (i, off)) (len + 1) c e) = srcE (h.get i) off (len + 1) esz := by
  unfold srcCells srcE cellsAt
  simp only
  cases h.get i with
  | none => rfl
  | some b => cases b <;> rfl
theorem m_src1 (v : V) (m : Md) : srcE (some (.cells [v] m)) 0 1 1 = some (1, [v]) := _root_.id rfl
theorem m_app0 (h : H) (k : IntKind) (n : Int) (e : Nat) : appendC h 1 1 (.slice none 0 (some 0) e) (some (1, [.int k n])) = some (.slice (some (h.next, 0)) 1 none 1, h.new (.cells [.int k n] .rw)) := by
  unfold appendC
  simp only
  have c : (roomy (0 + 1) 1 && (Nat.beq e 1 || (none : Option (Nat × Nat)).isNone) && [V.int k n].all plainV) = true := by
    simp [roomy, plainV]
  rw [c]
  rfl
noncomputable def appE (b : Option Blk) (h : H) (i len : Nat) (new : List V) : Option (V × H) := match b with
  | some (.cells vs m) => match m with
    | .ro => none
    | m => match readN vs 0 (len * 1) with
      | some old => some (.slice (some (h.next, 0)) (len + 1) none 1, (h.del i).new (.cells (old ++ new) .sh))
      | none => none
  | _ => none
@[congr] theorem appE_congr {b b' : Option Blk} {h : H} {i len : Nat} {new : List V} (e : b = b') : appE b h i len new = appE b' h i len new := by rw [e]
theorem m_app (h : H) (i len : Nat) (k : IntKind) (n : Int) (hl : len ≤ 1000) : appendC h 1 1 (.slice (some (i, 0)) len none 1) (some (1, [.int k n])) = appE (h.get i) h i len [.int k n] := by
  unfold appendC appE
  simp only
  have c : (roomy (len + 1) 1 && (Nat.beq 1 1 || (some (i, 0) : Option (Nat × Nat)).isNone) && [V.int k n].all plainV) = true := by
    simp [roomy, plainV]; omega
  rw [c]
  simp only [_root_.cond_true]
  cases h.get i with
  | none => rfl
  | some b =>
    cases b with
    | loop => rfl
    | defers => rfl
    | cells vs m => cases m <;> rfl
theorem m_appE (vs : List V) (m : Md) (hm : isRo m = false) (h : H) (i len : Nat) (new old : List V) (hr : readN vs 0 len = some old) : appE (some (.cells vs m)) h i len new = some (.slice (some (h.next, 0)) (len + 1) none 1, (h.del i).new (.cells (old ++ new) .sh)) := by
  unfold appE
  cases m with
  | ro => cases hm
  | rw => simp only [Nat.mul_one, hr]
  | sh => simp only [Nat.mul_one, hr]

/-- what a round has -/
structure EI (m : Nat) (ds : List Nat) (sl : V) (T0 T : Tr V) (h : H) : Prop where
  t0 : evO T (.t 0) = .yld 3
  t1 : evO T (.t 1) = .ptr (some (1, 0))
  nx : 4 ≤ h.next
  b0 : h.get 0 = some (.cells [sl] .rw)
  b1 : h.get 1 = some (.cells [.int .i64 (m : Int)] .rw)
  b2 : h.get 2 = some .defers
  b3 : h.get 3 = some (.loop 0 none 32 T0 [16, 17] eAsg eBody 2)
  sl : (ds = [] ∧ sl = .slice none 0 (some 0) 0) ∨ (∃ p md, 4 ≤ p ∧ p < h.next ∧ isRo md = false ∧ ds ≠ [] ∧ sl = .slice (some (p, 0)) ds.length none 1 ∧ h.get p = some (.cells (ofBytes ds) md))
theorem ofBytes_app (a b : List Nat) : ofBytes (a ++ b) = ofBytes a ++ ofBytes b := by
  induction a with
  | nil => rfl
  | cons x r ih => simp only [List.cons_append, ofBytes, ih]
theorem ofBytes_len (s : List Nat) : (ofBytes s).length = s.length := by
  induction s with
  | nil => rfl
  | cons a r ih => simp only [ofBytes, List.length_cons, ih]
theorem e_more {Q Q' : Orc} {n n' : Nat} (hY : ∀ args h, Q (.yld 3) args h = cYld Q' n' 3 args h) (m : Nat) (hm : m ≠ 0) (hmM : m < 9223372036854775808) (ds : List Nat) (hds : ds.length ≤ 100) (sl : V) (T0 T : Tr V) (h : H) (hT : evO T0 (.t 4) = .ptr (some (0, 0))) (I : EI m ds sl T0 T h) :
    ∃ sl' T' h', evC Q 11 n none eLoop ⟨T, [], h⟩ = some (.normal, ⟨T', [], h'⟩) ∧ EI (m / 256) (ds ++ [m % 256]) sl' T0 T' h' := by
  obtain ⟨t0, t1, nx, b0, b1, b2, b3, hs⟩ := I
  obtain ⟨lo, elo⟩ : ∃ lo, m % 256 = lo := ⟨_, rfl⟩
  obtain ⟨up, eup⟩ : ∃ up, m / 256 = up := ⟨_, rfl⟩
  have wl : wr .u8 (m : Int) = (lo : Int) := by
    rw [wr_eq]
    simp only [IntKind.wrap, IntKind.bits, IntKind.signed]
    simp
    omega
  have sh : ∀ e h, binV .shr e h (.int .i64 (m : Int)) (.int .u64 8) = some (.int .i64 (up : Int)) := fun e h => by rw [b_shr8, eup]
  have n0 : (h.next = 0) = False := by simp; omega
  have n1 : (h.next = 1) = False := by simp; omega
  have n2 : (h.next = 2) = False := by simp; omega
  have n3 : (h.next = 3) = False := by simp; omega
  have m0 : (h.next + 1 = 0) = False := by simp
  have m1 : (h.next + 1 = 1) = False := by simp; omega
  have m2 : (h.next + 1 = 2) = False := by simp; omega
  have m3 : (h.next + 1 = 3) = False := by simp; omega
  have cd : (lo : Int) = 0 → (up : Int) = 0 → False := fun h1 h2 => by omega
  rw [elo, eup]
  have k0 : (0 = h.next + 1) = False := by simp
  have k3 : (3 = h.next + 1) = False := by simp; omega
  have k1 : (1 = h.next + 1) = False := by simp; omega
  rcases hs with ⟨rfl, rfl⟩ | ⟨p, md, p4, pn, hmd, hne, rfl, bp⟩
  · rw [List.nil_append]
    by_cases hl : (lo : Int) = 0
    · have c1 : decide ((lo : Int) = 0) = true := decide_eq_true hl
      have c2 : decide ((up : Int) = 0) = false := decide_eq_false (fun h => cd hl h)
      simp (config := {maxSteps := 1000000}) (disch := first | omega | (simp only [List.length_cons, List.length_nil, List.length_append, List.length_drop]; omega)) only [eLoop, t0, t1, b0, b1, b3, hT, sh, wl, c1, c2, n0, n1, n2, n3, m0, m1, m2, m3, hY, s_callVy1, y_cyld, y_ready, y_set2, y_mid, y_busy, y_end, y_done, y_jn, Option.isNone_none, eAsg, eBody, ↓x_conv, x_convV, ↓s_append, m_src, m_src1, m_app0, m_app, m_storeS, ↓l_loop, ↓l_succ, ↓l_normal, l_normal, l_exit, l_ret, l_iteN, ↓h_put_get, ↓h_new_get, ↓h_del_get, h_next_put, h_next_new, h_next_del, Nat.add_assoc, Nat.add_eq_left, Nat.left_eq_add, Nat.add_left_cancel_iff, ↓s_load, m_load, ↓m_load1, m_load1, ↓m_st, m_stE, m_storeI, m_storeE, w_zero, w_succ, ↓s_alloc, ↓x_idxA, ↓x_idxS, x_idxAE, x_idxSE, x_addrE, x_idx, x_lenS, ↓s_len, ↓x_buildS, x_buildE, ↓x_P0, ↓x_P1, x_fill0, x_filli, x_fills, x_fillb, c_int, List.length_cons, List.length_nil, List.cons_append, List.drop_succ_cons, List.drop_zero, List.drop_nil, List.nil_append, Int.reduceAdd, Int.reduceToNat, Int.reduceLT, Int.reduceLE, Nat.reduceAdd, Nat.reduceMul, Nat.reduceLeDiff, Int.reduceEq, Int.reduceSub, Int.cast_ofNat_Int, s_resc, s_consR, m_load4, m_store4, s_res0, ↓s_skip, ↓s_ops, ↓s_dops, ↓s_seq, ↓s_cond, ↓s_block, ↓s_exit, ↓s_ret, ↓s_scope, ↓s_nil, ↓s_op, ↓s_opg, ↓s_wanted', ↓s_wantV, s_wantV, s_wantV0, beq_true, beq_false, ↓s_bindS, s_bindS, ↓s_bindE, s_bindE, s_bindE_ret, s_bindE_exit, s_bindE_iteN, s_norm, ↓s_condV, s_condV, s_block_ret, s_block_normal, s_block_exit, s_block_iteN, ↓s_getp, ↓s_getp0, ↓s_get, s_get0, ↓s_con, ↓s_fn, ↓s_os0, ↓s_os1, ↓s_list0, ↓s_list1, ↓s_mov, ↓s_pick, ↓s_pickE, s_pickE, ↓s_bin, ↓s_un, ↓s_minmax, ↓s_call, ↓s_callv, ↓s_callV, ↓s_ext, s_same, b_eql, b_neq, b_lss, b_leq, b_gtr, b_geq, b_add, b_sub, b_mul, b_eqlb, b_neqb, b_fnil, b_fnil', b_fnil2, b_fnil2', u_neg, u_not, m_two, s_end, s_end', s_end_iteN, s_res0, s_res1, s_tup1, s_tup2, ↓iteN_true, ↓iteN_false, iteN_true, iteN_false, Nat.zero_add, List.nil_append, List.append_nil, Nat.reduceEqDiff, reduceIte, decide_true, decide_false, Bool.not_true, Bool.not_false, List.getElem?_cons_zero, List.getElem?_cons_succ, Bool.false_eq_true, if_true, if_false, beq_self_eq_true]
      refine ⟨_, _, _, rfl, ⟨by (first | (simp only [s_getp, s_getp0, Nat.reduceEqDiff, decide_false, decide_true, iteN_false, iteN_true, t0, t1, h_put_get, h_new_get, h_del_get, h_next_put, h_next_new, h_next_del, b0, b1, b2, b3, n0, n1, n2, n3, m0, m1, m2, m3]; done) | (simp only [s_getp, s_getp0, Nat.reduceEqDiff, decide_false, decide_true, iteN_false, iteN_true, t0, t1, h_put_get, h_new_get, h_del_get, h_next_put, h_next_new, h_next_del, b0, b1, b2, b3, n0, n1, n2, n3, m0, m1, m2, m3]; rfl)), by (first | (simp only [s_getp, s_getp0, Nat.reduceEqDiff, decide_false, decide_true, iteN_false, iteN_true, t0, t1, h_put_get, h_new_get, h_del_get, h_next_put, h_next_new, h_next_del, b0, b1, b2, b3, n0, n1, n2, n3, m0, m1, m2, m3]; done) | (simp only [s_getp, s_getp0, Nat.reduceEqDiff, decide_false, decide_true, iteN_false, iteN_true, t0, t1, h_put_get, h_new_get, h_del_get, h_next_put, h_next_new, h_next_del, b0, b1, b2, b3, n0, n1, n2, n3, m0, m1, m2, m3]; rfl)), by simp only [h_next_put, h_next_new, h_next_del]; omega, by (first | (simp only [s_getp, s_getp0, Nat.reduceEqDiff, decide_false, decide_true, iteN_false, iteN_true, t0, t1, h_put_get, h_new_get, h_del_get, h_next_put, h_next_new, h_next_del, b0, b1, b2, b3, n0, n1, n2, n3, m0, m1, m2, m3]; done) | (simp only [s_getp, s_getp0, Nat.reduceEqDiff, decide_false, decide_true, iteN_false, iteN_true, t0, t1, h_put_get, h_new_get, h_del_get, h_next_put, h_next_new, h_next_del, b0, b1, b2, b3, n0, n1, n2, n3, m0, m1, m2, m3]; rfl)), by (first | (simp only [s_getp, s_getp0, Nat.reduceEqDiff, decide_false, decide_true, iteN_false, iteN_true, t0, t1, h_put_get, h_new_get, h_del_get, h_next_put, h_next_new, h_next_del, b0, b1, b2, b3, n0, n1, n2, n3, m0, m1, m2, m3]; done) | (simp only [s_getp, s_getp0, Nat.reduceEqDiff, decide_false, decide_true, iteN_false, iteN_true, t0, t1, h_put_get, h_new_get, h_del_get, h_next_put, h_next_new, h_next_del, b0, b1, b2, b3, n0, n1, n2, n3, m0, m1, m2, m3]; rfl)), by (first | (simp only [s_getp, s_getp0, Nat.reduceEqDiff, decide_false, decide_true, iteN_false, iteN_true, t0, t1, h_put_get, h_new_get, h_del_get, h_next_put, h_next_new, h_next_del, b0, b1, b2, b3, n0, n1, n2, n3, m0, m1, m2, m3]; done) | (simp only [s_getp, s_getp0, Nat.reduceEqDiff, decide_false, decide_true, iteN_false, iteN_true, t0, t1, h_put_get, h_new_get, h_del_get, h_next_put, h_next_new, h_next_del, b0, b1, b2, b3, n0, n1, n2, n3, m0, m1, m2, m3]; rfl)), by (first | (simp only [s_getp, s_getp0, Nat.reduceEqDiff, decide_false, decide_true, iteN_false, iteN_true, t0, t1, h_put_get, h_new_get, h_del_get, h_next_put, h_next_new, h_next_del, b0, b1, b2, b3, n0, n1, n2, n3, m0, m1, m2, m3]; done) | (simp only [s_getp, s_getp0, Nat.reduceEqDiff, decide_false, decide_true, iteN_false, iteN_true, t0, t1, h_put_get, h_new_get, h_del_get, h_next_put, h_next_new, h_next_del, b0, b1, b2, b3, n0, n1, n2, n3, m0, m1, m2, m3]; rfl)), .inr ⟨h.next + 1, .rw, by omega, by simp only [h_next_put, h_next_new, h_next_del]; omega, rfl, by simp, rfl, ?_⟩⟩⟩
      simp only [h_put_get, h_new_get, h_next_put, h_next_new, n0, n1, n2, n3, m0, m1, m2, m3, k0, k1, k3, decide_false, decide_true, iteN_false, iteN_true]
      rfl
    · have c1 : decide ((lo : Int) = 0) = false := decide_eq_false hl
      have c2 : True := trivial
      simp (config := {maxSteps := 1000000}) (disch := first | omega | (simp only [List.length_cons, List.length_nil, List.length_append, List.length_drop]; omega)) only [eLoop, t0, t1, b0, b1, b3, hT, sh, wl, c1, c2, n0, n1, n2, n3, m0, m1, m2, m3, hY, s_callVy1, y_cyld, y_ready, y_set2, y_mid, y_busy, y_end, y_done, y_jn, Option.isNone_none, eAsg, eBody, ↓x_conv, x_convV, ↓s_append, m_src, m_src1, m_app0, m_app, m_storeS, ↓l_loop, ↓l_succ, ↓l_normal, l_normal, l_exit, l_ret, l_iteN, ↓h_put_get, ↓h_new_get, ↓h_del_get, h_next_put, h_next_new, h_next_del, Nat.add_assoc, Nat.add_eq_left, Nat.left_eq_add, Nat.add_left_cancel_iff, ↓s_load, m_load, ↓m_load1, m_load1, ↓m_st, m_stE, m_storeI, m_storeE, w_zero, w_succ, ↓s_alloc, ↓x_idxA, ↓x_idxS, x_idxAE, x_idxSE, x_addrE, x_idx, x_lenS, ↓s_len, ↓x_buildS, x_buildE, ↓x_P0, ↓x_P1, x_fill0, x_filli, x_fills, x_fillb, c_int, List.length_cons, List.length_nil, List.cons_append, List.drop_succ_cons, List.drop_zero, List.drop_nil, List.nil_append, Int.reduceAdd, Int.reduceToNat, Int.reduceLT, Int.reduceLE, Nat.reduceAdd, Nat.reduceMul, Nat.reduceLeDiff, Int.reduceEq, Int.reduceSub, Int.cast_ofNat_Int, s_resc, s_consR, m_load4, m_store4, s_res0, ↓s_skip, ↓s_ops, ↓s_dops, ↓s_seq, ↓s_cond, ↓s_block, ↓s_exit, ↓s_ret, ↓s_scope, ↓s_nil, ↓s_op, ↓s_opg, ↓s_wanted', ↓s_wantV, s_wantV, s_wantV0, beq_true, beq_false, ↓s_bindS, s_bindS, ↓s_bindE, s_bindE, s_bindE_ret, s_bindE_exit, s_bindE_iteN, s_norm, ↓s_condV, s_condV, s_block_ret, s_block_normal, s_block_exit, s_block_iteN, ↓s_getp, ↓s_getp0, ↓s_get, s_get0, ↓s_con, ↓s_fn, ↓s_os0, ↓s_os1, ↓s_list0, ↓s_list1, ↓s_mov, ↓s_pick, ↓s_pickE, s_pickE, ↓s_bin, ↓s_un, ↓s_minmax, ↓s_call, ↓s_callv, ↓s_callV, ↓s_ext, s_same, b_eql, b_neq, b_lss, b_leq, b_gtr, b_geq, b_add, b_sub, b_mul, b_eqlb, b_neqb, b_fnil, b_fnil', b_fnil2, b_fnil2', u_neg, u_not, m_two, s_end, s_end', s_end_iteN, s_res0, s_res1, s_tup1, s_tup2, ↓iteN_true, ↓iteN_false, iteN_true, iteN_false, Nat.zero_add, List.nil_append, List.append_nil, Nat.reduceEqDiff, reduceIte, decide_true, decide_false, Bool.not_true, Bool.not_false, List.getElem?_cons_zero, List.getElem?_cons_succ, Bool.false_eq_true, if_true, if_false, beq_self_eq_true]
      refine ⟨_, _, _, rfl, ⟨by (first | (simp only [s_getp, s_getp0, Nat.reduceEqDiff, decide_false, decide_true, iteN_false, iteN_true, t0, t1, h_put_get, h_new_get, h_del_get, h_next_put, h_next_new, h_next_del, b0, b1, b2, b3, n0, n1, n2, n3, m0, m1, m2, m3]; done) | (simp only [s_getp, s_getp0, Nat.reduceEqDiff, decide_false, decide_true, iteN_false, iteN_true, t0, t1, h_put_get, h_new_get, h_del_get, h_next_put, h_next_new, h_next_del, b0, b1, b2, b3, n0, n1, n2, n3, m0, m1, m2, m3]; rfl)), by (first | (simp only [s_getp, s_getp0, Nat.reduceEqDiff, decide_false, decide_true, iteN_false, iteN_true, t0, t1, h_put_get, h_new_get, h_del_get, h_next_put, h_next_new, h_next_del, b0, b1, b2, b3, n0, n1, n2, n3, m0, m1, m2, m3]; done) | (simp only [s_getp, s_getp0, Nat.reduceEqDiff, decide_false, decide_true, iteN_false, iteN_true, t0, t1, h_put_get, h_new_get, h_del_get, h_next_put, h_next_new, h_next_del, b0, b1, b2, b3, n0, n1, n2, n3, m0, m1, m2, m3]; rfl)), by simp only [h_next_put, h_next_new, h_next_del]; omega, by (first | (simp only [s_getp, s_getp0, Nat.reduceEqDiff, decide_false, decide_true, iteN_false, iteN_true, t0, t1, h_put_get, h_new_get, h_del_get, h_next_put, h_next_new, h_next_del, b0, b1, b2, b3, n0, n1, n2, n3, m0, m1, m2, m3]; done) | (simp only [s_getp, s_getp0, Nat.reduceEqDiff, decide_false, decide_true, iteN_false, iteN_true, t0, t1, h_put_get, h_new_get, h_del_get, h_next_put, h_next_new, h_next_del, b0, b1, b2, b3, n0, n1, n2, n3, m0, m1, m2, m3]; rfl)), by (first | (simp only [s_getp, s_getp0, Nat.reduceEqDiff, decide_false, decide_true, iteN_false, iteN_true, t0, t1, h_put_get, h_new_get, h_del_get, h_next_put, h_next_new, h_next_del, b0, b1, b2, b3, n0, n1, n2, n3, m0, m1, m2, m3]; done) | (simp only [s_getp, s_getp0, Nat.reduceEqDiff, decide_false, decide_true, iteN_false, iteN_true, t0, t1, h_put_get, h_new_get, h_del_get, h_next_put, h_next_new, h_next_del, b0, b1, b2, b3, n0, n1, n2, n3, m0, m1, m2, m3]; rfl)), by (first | (simp only [s_getp, s_getp0, Nat.reduceEqDiff, decide_false, decide_true, iteN_false, iteN_true, t0, t1, h_put_get, h_new_get, h_del_get, h_next_put, h_next_new, h_next_del, b0, b1, b2, b3, n0, n1, n2, n3, m0, m1, m2, m3]; done) | (simp only [s_getp, s_getp0, Nat.reduceEqDiff, decide_false, decide_true, iteN_false, iteN_true, t0, t1, h_put_get, h_new_get, h_del_get, h_next_put, h_next_new, h_next_del, b0, b1, b2, b3, n0, n1, n2, n3, m0, m1, m2, m3]; rfl)), by (first | (simp only [s_getp, s_getp0, Nat.reduceEqDiff, decide_false, decide_true, iteN_false, iteN_true, t0, t1, h_put_get, h_new_get, h_del_get, h_next_put, h_next_new, h_next_del, b0, b1, b2, b3, n0, n1, n2, n3, m0, m1, m2, m3]; done) | (simp only [s_getp, s_getp0, Nat.reduceEqDiff, decide_false, decide_true, iteN_false, iteN_true, t0, t1, h_put_get, h_new_get, h_del_get, h_next_put, h_next_new, h_next_del, b0, b1, b2, b3, n0, n1, n2, n3, m0, m1, m2, m3]; rfl)), .inr ⟨h.next + 1, .rw, by omega, by simp only [h_next_put, h_next_new, h_next_del]; omega, rfl, by simp, rfl, ?_⟩⟩⟩
      simp only [h_put_get, h_new_get, h_next_put, h_next_new, n0, n1, n2, n3, m0, m1, m2, m3, k0, k1, k3, decide_false, decide_true, iteN_false, iteN_true]
      rfl
  · have p0 : (p = 0) = False := by simp; omega
    have p1 : (p = 1) = False := by simp; omega
    have p2 : (p = 2) = False := by simp; omega
    have p3 : (p = 3) = False := by simp; omega
    have q0 : (0 = p) = False := by simp; omega
    have q1 : (1 = p) = False := by simp; omega
    have q2 : (2 = p) = False := by simp; omega
    have q3 : (3 = p) = False := by simp; omega
    have pe : (h.next = p) = False := by simp; omega
    have pe1 : (h.next + 1 = p) = False := by simp; omega
    have pn1 : (p = h.next + 1) = False := by simp; omega
    have rd : readN (ofBytes ds) 0 ds.length = some (ofBytes ds) := x_readAll _ _ (ofBytes_len ds)
    have ap := fun (h : H) (i : Nat) (new : List V) => m_appE (ofBytes ds) md hmd h i ds.length new _ rd
    by_cases hl : (lo : Int) = 0
    · have c1 : decide ((lo : Int) = 0) = true := decide_eq_true hl
      have c2 : decide ((up : Int) = 0) = false := decide_eq_false (fun h => cd hl h)
      simp (config := {maxSteps := 1000000}) (disch := first | omega | (simp only [List.length_cons, List.length_nil, List.length_append, List.length_drop]; omega)) only [eLoop, t0, t1, b0, b1, b3, hT, sh, wl, c1, c2, n0, n1, n2, n3, m0, m1, m2, m3, bp, rd, ap, p0, p1, p2, p3, q0, q1, q2, q3, pe, pe1, pn1, hY, s_callVy1, y_cyld, y_ready, y_set2, y_mid, y_busy, y_end, y_done, y_jn, Option.isNone_none, eAsg, eBody, ↓x_conv, x_convV, ↓s_append, m_src, m_src1, m_app0, m_app, m_storeS, ↓l_loop, ↓l_succ, ↓l_normal, l_normal, l_exit, l_ret, l_iteN, ↓h_put_get, ↓h_new_get, ↓h_del_get, h_next_put, h_next_new, h_next_del, Nat.add_assoc, Nat.add_eq_left, Nat.left_eq_add, Nat.add_left_cancel_iff, ↓s_load, m_load, ↓m_load1, m_load1, ↓m_st, m_stE, m_storeI, m_storeE, w_zero, w_succ, ↓s_alloc, ↓x_idxA, ↓x_idxS, x_idxAE, x_idxSE, x_addrE, x_idx, x_lenS, ↓s_len, ↓x_buildS, x_buildE, ↓x_P0, ↓x_P1, x_fill0, x_filli, x_fills, x_fillb, c_int, List.length_cons, List.length_nil, List.cons_append, List.drop_succ_cons, List.drop_zero, List.drop_nil, List.nil_append, Int.reduceAdd, Int.reduceToNat, Int.reduceLT, Int.reduceLE, Nat.reduceAdd, Nat.reduceMul, Nat.reduceLeDiff, Int.reduceEq, Int.reduceSub, Int.cast_ofNat_Int, s_resc, s_consR, m_load4, m_store4, s_res0, ↓s_skip, ↓s_ops, ↓s_dops, ↓s_seq, ↓s_cond, ↓s_block, ↓s_exit, ↓s_ret, ↓s_scope, ↓s_nil, ↓s_op, ↓s_opg, ↓s_wanted', ↓s_wantV, s_wantV, s_wantV0, beq_true, beq_false, ↓s_bindS, s_bindS, ↓s_bindE, s_bindE, s_bindE_ret, s_bindE_exit, s_bindE_iteN, s_norm, ↓s_condV, s_condV, s_block_ret, s_block_normal, s_block_exit, s_block_iteN, ↓s_getp, ↓s_getp0, ↓s_get, s_get0, ↓s_con, ↓s_fn, ↓s_os0, ↓s_os1, ↓s_list0, ↓s_list1, ↓s_mov, ↓s_pick, ↓s_pickE, s_pickE, ↓s_bin, ↓s_un, ↓s_minmax, ↓s_call, ↓s_callv, ↓s_callV, ↓s_ext, s_same, b_eql, b_neq, b_lss, b_leq, b_gtr, b_geq, b_add, b_sub, b_mul, b_eqlb, b_neqb, b_fnil, b_fnil', b_fnil2, b_fnil2', u_neg, u_not, m_two, s_end, s_end', s_end_iteN, s_res0, s_res1, s_tup1, s_tup2, ↓iteN_true, ↓iteN_false, iteN_true, iteN_false, Nat.zero_add, List.nil_append, List.append_nil, Nat.reduceEqDiff, reduceIte, decide_true, decide_false, Bool.not_true, Bool.not_false, List.getElem?_cons_zero, List.getElem?_cons_succ, Bool.false_eq_true, if_true, if_false, beq_self_eq_true]
      refine ⟨_, _, _, rfl, ⟨by (first | (simp only [s_getp, s_getp0, Nat.reduceEqDiff, decide_false, decide_true, iteN_false, iteN_true, t0, t1, h_put_get, h_new_get, h_del_get, h_next_put, h_next_new, h_next_del, b0, b1, b2, b3, n0, n1, n2, n3, m0, m1, m2, m3, p0, p1, p2, p3, q0, q1, q2, q3, pe, pe1, pn1]; done) | (simp only [s_getp, s_getp0, Nat.reduceEqDiff, decide_false, decide_true, iteN_false, iteN_true, t0, t1, h_put_get, h_new_get, h_del_get, h_next_put, h_next_new, h_next_del, b0, b1, b2, b3, n0, n1, n2, n3, m0, m1, m2, m3, p0, p1, p2, p3, q0, q1, q2, q3, pe, pe1, pn1]; rfl)), by (first | (simp only [s_getp, s_getp0, Nat.reduceEqDiff, decide_false, decide_true, iteN_false, iteN_true, t0, t1, h_put_get, h_new_get, h_del_get, h_next_put, h_next_new, h_next_del, b0, b1, b2, b3, n0, n1, n2, n3, m0, m1, m2, m3, p0, p1, p2, p3, q0, q1, q2, q3, pe, pe1, pn1]; done) | (simp only [s_getp, s_getp0, Nat.reduceEqDiff, decide_false, decide_true, iteN_false, iteN_true, t0, t1, h_put_get, h_new_get, h_del_get, h_next_put, h_next_new, h_next_del, b0, b1, b2, b3, n0, n1, n2, n3, m0, m1, m2, m3, p0, p1, p2, p3, q0, q1, q2, q3, pe, pe1, pn1]; rfl)), by simp only [h_next_put, h_next_new, h_next_del]; omega, by (first | (simp only [s_getp, s_getp0, Nat.reduceEqDiff, decide_false, decide_true, iteN_false, iteN_true, t0, t1, h_put_get, h_new_get, h_del_get, h_next_put, h_next_new, h_next_del, b0, b1, b2, b3, n0, n1, n2, n3, m0, m1, m2, m3, p0, p1, p2, p3, q0, q1, q2, q3, pe, pe1, pn1]; done) | (simp only [s_getp, s_getp0, Nat.reduceEqDiff, decide_false, decide_true, iteN_false, iteN_true, t0, t1, h_put_get, h_new_get, h_del_get, h_next_put, h_next_new, h_next_del, b0, b1, b2, b3, n0, n1, n2, n3, m0, m1, m2, m3, p0, p1, p2, p3, q0, q1, q2, q3, pe, pe1, pn1]; rfl)), by (first | (simp only [s_getp, s_getp0, Nat.reduceEqDiff, decide_false, decide_true, iteN_false, iteN_true, t0, t1, h_put_get, h_new_get, h_del_get, h_next_put, h_next_new, h_next_del, b0, b1, b2, b3, n0, n1, n2, n3, m0, m1, m2, m3, p0, p1, p2, p3, q0, q1, q2, q3, pe, pe1, pn1]; done) | (simp only [s_getp, s_getp0, Nat.reduceEqDiff, decide_false, decide_true, iteN_false, iteN_true, t0, t1, h_put_get, h_new_get, h_del_get, h_next_put, h_next_new, h_next_del, b0, b1, b2, b3, n0, n1, n2, n3, m0, m1, m2, m3, p0, p1, p2, p3, q0, q1, q2, q3, pe, pe1, pn1]; rfl)), by (first | (simp only [s_getp, s_getp0, Nat.reduceEqDiff, decide_false, decide_true, iteN_false, iteN_true, t0, t1, h_put_get, h_new_get, h_del_get, h_next_put, h_next_new, h_next_del, b0, b1, b2, b3, n0, n1, n2, n3, m0, m1, m2, m3, p0, p1, p2, p3, q0, q1, q2, q3, pe, pe1, pn1]; done) | (simp only [s_getp, s_getp0, Nat.reduceEqDiff, decide_false, decide_true, iteN_false, iteN_true, t0, t1, h_put_get, h_new_get, h_del_get, h_next_put, h_next_new, h_next_del, b0, b1, b2, b3, n0, n1, n2, n3, m0, m1, m2, m3, p0, p1, p2, p3, q0, q1, q2, q3, pe, pe1, pn1]; rfl)), by (first | (simp only [s_getp, s_getp0, Nat.reduceEqDiff, decide_false, decide_true, iteN_false, iteN_true, t0, t1, h_put_get, h_new_get, h_del_get, h_next_put, h_next_new, h_next_del, b0, b1, b2, b3, n0, n1, n2, n3, m0, m1, m2, m3, p0, p1, p2, p3, q0, q1, q2, q3, pe, pe1, pn1]; done) | (simp only [s_getp, s_getp0, Nat.reduceEqDiff, decide_false, decide_true, iteN_false, iteN_true, t0, t1, h_put_get, h_new_get, h_del_get, h_next_put, h_next_new, h_next_del, b0, b1, b2, b3, n0, n1, n2, n3, m0, m1, m2, m3, p0, p1, p2, p3, q0, q1, q2, q3, pe, pe1, pn1]; rfl)), .inr ⟨h.next + 1, .sh, by omega, by simp only [h_next_put, h_next_new, h_next_del]; omega, rfl, by simp, by rw [List.length_append]; rfl, ?_⟩⟩⟩
      simp only [h_put_get, h_new_get, h_del_get, h_next_put, h_next_new, h_next_del, n0, n1, n2, n3, m0, m1, m2, m3, k0, k1, k3, decide_false, decide_true, iteN_false, iteN_true, ofBytes_app]
      rfl
    · have c1 : decide ((lo : Int) = 0) = false := decide_eq_false hl
      have c2 : True := trivial
      simp (config := {maxSteps := 1000000}) (disch := first | omega | (simp only [List.length_cons, List.length_nil, List.length_append, List.length_drop]; omega)) only [eLoop, t0, t1, b0, b1, b3, hT, sh, wl, c1, c2, n0, n1, n2, n3, m0, m1, m2, m3, bp, rd, ap, p0, p1, p2, p3, q0, q1, q2, q3, pe, pe1, pn1, hY, s_callVy1, y_cyld, y_ready, y_set2, y_mid, y_busy, y_end, y_done, y_jn, Option.isNone_none, eAsg, eBody, ↓x_conv, x_convV, ↓s_append, m_src, m_src1, m_app0, m_app, m_storeS, ↓l_loop, ↓l_succ, ↓l_normal, l_normal, l_exit, l_ret, l_iteN, ↓h_put_get, ↓h_new_get, ↓h_del_get, h_next_put, h_next_new, h_next_del, Nat.add_assoc, Nat.add_eq_left, Nat.left_eq_add, Nat.add_left_cancel_iff, ↓s_load, m_load, ↓m_load1, m_load1, ↓m_st, m_stE, m_storeI, m_storeE, w_zero, w_succ, ↓s_alloc, ↓x_idxA, ↓x_idxS, x_idxAE, x_idxSE, x_addrE, x_idx, x_lenS, ↓s_len, ↓x_buildS, x_buildE, ↓x_P0, ↓x_P1, x_fill0, x_filli, x_fills, x_fillb, c_int, List.length_cons, List.length_nil, List.cons_append, List.drop_succ_cons, List.drop_zero, List.drop_nil, List.nil_append, Int.reduceAdd, Int.reduceToNat, Int.reduceLT, Int.reduceLE, Nat.reduceAdd, Nat.reduceMul, Nat.reduceLeDiff, Int.reduceEq, Int.reduceSub, Int.cast_ofNat_Int, s_resc, s_consR, m_load4, m_store4, s_res0, ↓s_skip, ↓s_ops, ↓s_dops, ↓s_seq, ↓s_cond, ↓s_block, ↓s_exit, ↓s_ret, ↓s_scope, ↓s_nil, ↓s_op, ↓s_opg, ↓s_wanted', ↓s_wantV, s_wantV, s_wantV0, beq_true, beq_false, ↓s_bindS, s_bindS, ↓s_bindE, s_bindE, s_bindE_ret, s_bindE_exit, s_bindE_iteN, s_norm, ↓s_condV, s_condV, s_block_ret, s_block_normal, s_block_exit, s_block_iteN, ↓s_getp, ↓s_getp0, ↓s_get, s_get0, ↓s_con, ↓s_fn, ↓s_os0, ↓s_os1, ↓s_list0, ↓s_list1, ↓s_mov, ↓s_pick, ↓s_pickE, s_pickE, ↓s_bin, ↓s_un, ↓s_minmax, ↓s_call, ↓s_callv, ↓s_callV, ↓s_ext, s_same, b_eql, b_neq, b_lss, b_leq, b_gtr, b_geq, b_add, b_sub, b_mul, b_eqlb, b_neqb, b_fnil, b_fnil', b_fnil2, b_fnil2', u_neg, u_not, m_two, s_end, s_end', s_end_iteN, s_res0, s_res1, s_tup1, s_tup2, ↓iteN_true, ↓iteN_false, iteN_true, iteN_false, Nat.zero_add, List.nil_append, List.append_nil, Nat.reduceEqDiff, reduceIte, decide_true, decide_false, Bool.not_true, Bool.not_false, List.getElem?_cons_zero, List.getElem?_cons_succ, Bool.false_eq_true, if_true, if_false, beq_self_eq_true]
      refine ⟨_, _, _, rfl, ⟨by (first | (simp only [s_getp, s_getp0, Nat.reduceEqDiff, decide_false, decide_true, iteN_false, iteN_true, t0, t1, h_put_get, h_new_get, h_del_get, h_next_put, h_next_new, h_next_del, b0, b1, b2, b3, n0, n1, n2, n3, m0, m1, m2, m3, p0, p1, p2, p3, q0, q1, q2, q3, pe, pe1, pn1]; done) | (simp only [s_getp, s_getp0, Nat.reduceEqDiff, decide_false, decide_true, iteN_false, iteN_true, t0, t1, h_put_get, h_new_get, h_del_get, h_next_put, h_next_new, h_next_del, b0, b1, b2, b3, n0, n1, n2, n3, m0, m1, m2, m3, p0, p1, p2, p3, q0, q1, q2, q3, pe, pe1, pn1]; rfl)), by (first | (simp only [s_getp, s_getp0, Nat.reduceEqDiff, decide_false, decide_true, iteN_false, iteN_true, t0, t1, h_put_get, h_new_get, h_del_get, h_next_put, h_next_new, h_next_del, b0, b1, b2, b3, n0, n1, n2, n3, m0, m1, m2, m3, p0, p1, p2, p3, q0, q1, q2, q3, pe, pe1, pn1]; done) | (simp only [s_getp, s_getp0, Nat.reduceEqDiff, decide_false, decide_true, iteN_false, iteN_true, t0, t1, h_put_get, h_new_get, h_del_get, h_next_put, h_next_new, h_next_del, b0, b1, b2, b3, n0, n1, n2, n3, m0, m1, m2, m3, p0, p1, p2, p3, q0, q1, q2, q3, pe, pe1, pn1]; rfl)), by simp only [h_next_put, h_next_new, h_next_del]; omega, by (first | (simp only [s_getp, s_getp0, Nat.reduceEqDiff, decide_false, decide_true, iteN_false, iteN_true, t0, t1, h_put_get, h_new_get, h_del_get, h_next_put, h_next_new, h_next_del, b0, b1, b2, b3, n0, n1, n2, n3, m0, m1, m2, m3, p0, p1, p2, p3, q0, q1, q2, q3, pe, pe1, pn1]; done) | (simp only [s_getp, s_getp0, Nat.reduceEqDiff, decide_false, decide_true, iteN_false, iteN_true, t0, t1, h_put_get, h_new_get, h_del_get, h_next_put, h_next_new, h_next_del, b0, b1, b2, b3, n0, n1, n2, n3, m0, m1, m2, m3, p0, p1, p2, p3, q0, q1, q2, q3, pe, pe1, pn1]; rfl)), by (first | (simp only [s_getp, s_getp0, Nat.reduceEqDiff, decide_false, decide_true, iteN_false, iteN_true, t0, t1, h_put_get, h_new_get, h_del_get, h_next_put, h_next_new, h_next_del, b0, b1, b2, b3, n0, n1, n2, n3, m0, m1, m2, m3, p0, p1, p2, p3, q0, q1, q2, q3, pe, pe1, pn1]; done) | (simp only [s_getp, s_getp0, Nat.reduceEqDiff, decide_false, decide_true, iteN_false, iteN_true, t0, t1, h_put_get, h_new_get, h_del_get, h_next_put, h_next_new, h_next_del, b0, b1, b2, b3, n0, n1, n2, n3, m0, m1, m2, m3, p0, p1, p2, p3, q0, q1, q2, q3, pe, pe1, pn1]; rfl)), by (first | (simp only [s_getp, s_getp0, Nat.reduceEqDiff, decide_false, decide_true, iteN_false, iteN_true, t0, t1, h_put_get, h_new_get, h_del_get, h_next_put, h_next_new, h_next_del, b0, b1, b2, b3, n0, n1, n2, n3, m0, m1, m2, m3, p0, p1, p2, p3, q0, q1, q2, q3, pe, pe1, pn1]; done) | (simp only [s_getp, s_getp0, Nat.reduceEqDiff, decide_false, decide_true, iteN_false, iteN_true, t0, t1, h_put_get, h_new_get, h_del_get, h_next_put, h_next_new, h_next_del, b0, b1, b2, b3, n0, n1, n2, n3, m0, m1, m2, m3, p0, p1, p2, p3, q0, q1, q2, q3, pe, pe1, pn1]; rfl)), by (first | (simp only [s_getp, s_getp0, Nat.reduceEqDiff, decide_false, decide_true, iteN_false, iteN_true, t0, t1, h_put_get, h_new_get, h_del_get, h_next_put, h_next_new, h_next_del, b0, b1, b2, b3, n0, n1, n2, n3, m0, m1, m2, m3, p0, p1, p2, p3, q0, q1, q2, q3, pe, pe1, pn1]; done) | (simp only [s_getp, s_getp0, Nat.reduceEqDiff, decide_false, decide_true, iteN_false, iteN_true, t0, t1, h_put_get, h_new_get, h_del_get, h_next_put, h_next_new, h_next_del, b0, b1, b2, b3, n0, n1, n2, n3, m0, m1, m2, m3, p0, p1, p2, p3, q0, q1, q2, q3, pe, pe1, pn1]; rfl)), .inr ⟨h.next + 1, .sh, by omega, by simp only [h_next_put, h_next_new, h_next_del]; omega, rfl, by simp, by rw [List.length_append]; rfl, ?_⟩⟩⟩
      simp only [h_put_get, h_new_get, h_del_get, h_next_put, h_next_new, h_next_del, n0, n1, n2, n3, m0, m1, m2, m3, k0, k1, k3, decide_false, decide_true, iteN_false, iteN_true, ofBytes_app]
      rfl
end Go.Eng
namespace Go.Eng
open Go
variable {E : Nat → Option Fn}
set_option linter.unusedSimpArgs false
set_option linter.unusedVariables false
theorem y_doneX (l i : Nat) (h : H) (s : Nat) (j : Option Jump) (N : Nat) (T : Tr V) (ps : List Nat) (asg body : C) (dd : Nat) : yE3 l (.exit i) h (some (.loop s j N T ps asg body dd)) = some (.bool false, h.put l (.loop 2 (some (.exit i)) N T ps asg body dd)) := _root_.id rfl
/-- behind the rounds -/
structure EF (ds : List Nat) (sl : V) (T0 : Tr V) (h : H) : Prop where
  nx : 4 ≤ h.next
  b0 : h.get 0 = some (.cells [sl] .rw)
  b2 : h.get 2 = some .defers
  b3 : h.get 3 = some (.loop 2 (some (.exit 0)) 32 T0 [16, 17] eAsg eBody 2)
  sl : (ds = [] ∧ sl = .slice none 0 (some 0) 0) ∨ (∃ p md, 4 ≤ p ∧ p < h.next ∧ isRo md = false ∧ ds ≠ [] ∧ sl = .slice (some (p, 0)) ds.length none 1 ∧ h.get p = some (.cells (ofBytes ds) md))
theorem e_stop {Q Q' : Orc} {n n' : Nat} (hY : ∀ args h, Q (.yld 3) args h = cYld Q' n' 3 args h) (ds : List Nat) (sl : V) (T0 T : Tr V) (h : H) (hT : evO T0 (.t 4) = .ptr (some (0, 0))) (I : EI 0 ds sl T0 T h) :
    ∃ T' h', evC Q 11 n none eLoop ⟨T, [], h⟩ = some (.exit 0, ⟨T', [], h'⟩) ∧ EF ds sl T0 h' := by
  obtain ⟨t0, t1, nx, b0, b1, b2, b3, hs⟩ := I
  have wl : wr .u8 0 = 0 := rfl
  have sh : ∀ e h, binV .shr e h (.int .i64 0) (.int .u64 8) = some (.int .i64 0) := fun e h => rfl
  simp (config := {maxSteps := 1000000}) (disch := first | omega | (simp only [List.length_cons, List.length_nil, List.length_append, List.length_drop]; omega)) only [eLoop, t0, t1, b0, b1, b3, hT, sh, wl, hY, s_callVy1, y_cyld, y_ready, y_set2, y_mid, y_busy, y_end, y_doneX, eAsg, eBody, ↓x_conv, x_convV, ↓l_loop, ↓l_succ, ↓l_normal, l_normal, l_exit, l_ret, l_iteN, ↓h_put_get, ↓h_new_get, ↓h_del_get, h_next_put, h_next_new, h_next_del, Nat.add_assoc, Nat.add_eq_left, Nat.left_eq_add, Nat.add_left_cancel_iff, ↓s_load, m_load, ↓m_load1, m_load1, ↓m_st, m_stE, m_storeI, m_storeE, w_zero, w_succ, ↓s_alloc, ↓x_idxA, ↓x_idxS, x_idxAE, x_idxSE, x_addrE, x_idx, x_lenS, ↓s_len, ↓x_buildS, x_buildE, ↓x_P0, ↓x_P1, x_fill0, x_filli, x_fills, x_fillb, c_int, List.length_cons, List.length_nil, List.cons_append, List.drop_succ_cons, List.drop_zero, List.drop_nil, List.nil_append, Int.reduceAdd, Int.reduceToNat, Int.reduceLT, Int.reduceLE, Nat.reduceAdd, Nat.reduceMul, Nat.reduceLeDiff, Int.reduceEq, Int.reduceSub, Int.cast_ofNat_Int, s_resc, s_consR, m_load4, m_store4, s_res0, ↓s_skip, ↓s_ops, ↓s_dops, ↓s_seq, ↓s_cond, ↓s_block, ↓s_exit, ↓s_ret, ↓s_scope, ↓s_nil, ↓s_op, ↓s_opg, ↓s_wanted', ↓s_wantV, s_wantV, s_wantV0, beq_true, beq_false, ↓s_bindS, s_bindS, ↓s_bindE, s_bindE, s_bindE_ret, s_bindE_exit, s_bindE_iteN, s_norm, ↓s_condV, s_condV, s_block_ret, s_block_normal, s_block_exit, s_block_iteN, ↓s_getp, ↓s_getp0, ↓s_get, s_get0, ↓s_con, ↓s_fn, ↓s_os0, ↓s_os1, ↓s_list0, ↓s_list1, ↓s_mov, ↓s_pick, ↓s_pickE, s_pickE, ↓s_bin, ↓s_un, ↓s_minmax, ↓s_call, ↓s_callv, ↓s_callV, ↓s_ext, s_same, b_eql, b_neq, b_lss, b_leq, b_gtr, b_geq, b_add, b_sub, b_mul, b_eqlb, b_neqb, b_fnil, b_fnil', b_fnil2, b_fnil2', u_neg, u_not, m_two, s_end, s_end', s_end_iteN, s_res0, s_res1, s_tup1, s_tup2, ↓iteN_true, ↓iteN_false, iteN_true, iteN_false, Nat.zero_add, List.nil_append, List.append_nil, Nat.reduceEqDiff, reduceIte, decide_true, decide_false, Bool.not_true, Bool.not_false, List.getElem?_cons_zero, List.getElem?_cons_succ, Bool.false_eq_true, if_true, if_false, beq_self_eq_true]
  refine ⟨_, _, rfl, ⟨by simp only [h_next_put]; exact nx, by simp only [h_put_get, Nat.reduceEqDiff, decide_false, decide_true, iteN_false, iteN_true, b0], by simp only [h_put_get, Nat.reduceEqDiff, decide_false, decide_true, iteN_false, iteN_true, b2], by (simp only [h_put_get, Nat.reduceEqDiff, decide_false, decide_true, iteN_false, iteN_true]; rfl), ?_⟩⟩
  rcases hs with hs | ⟨p, md, p4, pn, hmd, hne, e, bp⟩
  · exact .inl hs
  · refine .inr ⟨p, md, p4, by simp only [h_next_put]; exact pn, hmd, hne, e, ?_⟩
    have q3 : (3 = p) = False := by simp; omega
    simp only [h_put_get, q3, decide_false, iteN_false, bp]
theorem e_loop {Q Q' : Orc} {n n' : Nat} (hY : ∀ args h, Q (.yld 3) args h = cYld Q' n' 3 args h) (T0 : Tr V) (hT : evO T0 (.t 4) = .ptr (some (0, 0))) : ∀ (k m : Nat), m < 256 ^ k → k ≤ 7 → ∀ (g : Nat), k < g → ∀ (ds : List Nat) (sl : V) (T : Tr V) (h : H), ds.length + k ≤ 50 → EI m ds sl T0 T h →
    ∃ sl' T' h', loopN (evC Q 11 n none eLoop) g ⟨T, [], h⟩ = some (.exit 0, ⟨T', [], h'⟩) ∧ EF (ds ++ digs k m) sl' T0 h' := by
  intro k
  induction k with
  | zero =>
    intro m hm _ g hg ds sl T h _ I
    obtain ⟨g, rfl⟩ : ∃ j, g = j + 1 := ⟨g - 1, by omega⟩
    have : m = 0 := by simpa using hm
    subst this
    obtain ⟨T', h', r1, r2⟩ := e_stop hY ds sl T0 T h hT I
    exact ⟨sl, T', h', by rw [l_succ, r1, l_exit], by simpa [digs] using r2⟩
  | succ k ih =>
    intro m hm hk g hg ds sl T h hl I
    obtain ⟨g, rfl⟩ : ∃ j, g = j + 1 := ⟨g - 1, by omega⟩
    cases m with
    | zero =>
      obtain ⟨T', h', r1, r2⟩ := e_stop hY ds sl T0 T h hT I
      exact ⟨sl, T', h', by rw [l_succ, r1, l_exit], by simpa [digs] using r2⟩
    | succ m =>
      have hM : m + 1 < 9223372036854775808 := by
        have : 256 ^ (k + 1) ≤ 256 ^ 7 := Nat.pow_le_pow_right (by omega) (by omega)
        have e7 : (256 : Nat) ^ 7 = 72057594037927936 := rfl
        omega
      obtain ⟨sl1, T1, h1, r1, r2⟩ := e_more hY (m + 1) (by omega) hM ds (by omega) sl T0 T h hT I
      obtain ⟨sl2, T2, h2, r3, r4⟩ := ih ((m + 1) / 256) (Nat.div_lt_of_lt_mul (by rw [Nat.pow_succ, Nat.mul_comm] at hm; exact hm)) (by omega) g (by omega) _ _ _ _ (by rw [List.length_append]; simp only [List.length_cons, List.length_nil]; omega) r2
      refine ⟨sl2, T2, h2, by rw [l_succ, r1, l_normal]; exact r3, ?_⟩
      rw [List.append_assoc] at r4
      exact r4

/-- with the sign -/
def sgn (ds : List Nat) (neg : Bool) : List Nat := match ds.reverse with
  | [] => []
  | d :: r => if d < 128 then r.reverse ++ [if neg then d + 128 else d] else r.reverse ++ [d, if neg then 128 else 0]
theorem sgn_app (i : List Nat) (d : Nat) (neg : Bool) : sgn (i ++ [d]) neg = if d < 128 then i ++ [if neg then d + 128 else d] else i ++ [d, if neg then 128 else 0] := by
  unfold sgn
  rw [List.reverse_append]
  simp only [List.reverse_cons, List.reverse_nil, List.nil_append, List.singleton_append, List.reverse_reverse]
theorem b_and8 (e : EqK) (h : H) : ∀ a : Nat, a < 256 → binV .and e h (.int .u8 (a : Int)) (.int .u8 128) = some (.int .u8 (if a < 128 then 0 else 128)) := by
  intro a ha
  have e1 : binV .and e h (.int .u8 (a : Int)) (.int .u8 128) = some (.int .u8 (asK .u8 (Nat.land (a % 256) 128))) := rfl
  rw [e1]
  have : ∀ a : Nat, a < 256 → asK .u8 (Nat.land (a % 256) 128) = if a < 128 then 0 else 128 := by decide +kernel
  rw [this a ha]
theorem b_or8 (e : EqK) (h : H) : ∀ a : Nat, a < 128 → binV .or e h (.int .u8 (a : Int)) (.int .u8 128) = some (.int .u8 ((a + 128 : Nat) : Int)) := by
  intro a ha
  have e1 : binV .or e h (.int .u8 (a : Int)) (.int .u8 128) = some (.int .u8 (asK .u8 (Nat.lor (a % 256) 128))) := rfl
  rw [e1]
  have : ∀ a : Nat, a < 128 → asK .u8 (Nat.lor (a % 256) 128) = ((a + 128 : Nat) : Int) := by decide +kernel
  rw [this a ha]
theorem writeN_app (a : List V) (x y : V) : writeN (a ++ [x]) a.length [y] = a ++ [y] := by
  induction a with
  | nil => rfl
  | cons u r ih => simp only [List.cons_append, List.length_cons, w_succ, ih]
theorem writeN_app2 (a : List V) (x y : V) : writeN (a ++ [x]) (a.length) [y] = a ++ [y] := writeN_app a x y
theorem get_app (a : List V) (x : V) : (a ++ [x])[a.length]? = some x := by simp
theorem sp_signed0 {X : Orc} (e : E k_num_signed = some f_num_signed) (hx : ∀ args h, X (.fn k_num_signed) args h = none) (N : Nat) (neg : Bool) (h : H) : callX E X (N + 1) (.fn k_num_signed) [.slice none 0 (some 0) 0, .bool neg] h = some (.slice none 0 (some 0) 0, h) := by
  rw [x_cfn e _ _ (Nat.le_of_ble_eq_true rfl) (hx _ _)]
  simp (config := {maxSteps := 1000000}) (disch := first | omega | (simp only [List.length_cons, List.length_nil, List.length_append, List.length_drop]; omega)) only [↓s_len, x_lenS, ↓l_loop, ↓l_succ, ↓l_normal, l_normal, l_exit, l_ret, l_iteN, ↓h_put_get, ↓h_new_get, ↓h_del_get, h_next_put, h_next_new, h_next_del, Nat.add_assoc, Nat.add_eq_left, Nat.left_eq_add, Nat.add_left_cancel_iff, ↓s_load, m_load, ↓m_load1, m_load1, ↓m_st, m_stE, m_storeI, m_storeE, w_zero, w_succ, ↓s_alloc, ↓x_idxA, ↓x_idxS, x_idxAE, x_idxSE, x_addrE, x_idx, x_lenS, ↓s_len, ↓x_buildS, x_buildE, ↓x_P0, ↓x_P1, x_fill0, x_filli, x_fills, x_fillb, c_int, List.length_cons, List.length_nil, List.cons_append, List.drop_succ_cons, List.drop_zero, List.drop_nil, List.nil_append, Int.reduceAdd, Int.reduceToNat, Int.reduceLT, Int.reduceLE, Nat.reduceAdd, Nat.reduceMul, Nat.reduceLeDiff, Int.reduceEq, Int.reduceSub, Int.cast_ofNat_Int, s_resc, s_consR, m_load4, m_store4, s_res0, ↓s_skip, ↓s_ops, ↓s_dops, ↓s_seq, ↓s_cond, ↓s_block, ↓s_exit, ↓s_ret, ↓s_scope, ↓s_nil, ↓s_op, ↓s_opg, ↓s_wanted', ↓s_wantV, s_wantV, s_wantV0, beq_true, beq_false, ↓s_bindS, s_bindS, ↓s_bindE, s_bindE, s_bindE_ret, s_bindE_exit, s_bindE_iteN, s_norm, ↓s_condV, s_condV, s_block_ret, s_block_normal, s_block_exit, s_block_iteN, ↓s_getp, ↓s_getp0, ↓s_get, s_get0, ↓s_con, ↓s_fn, ↓s_os0, ↓s_os1, ↓s_list0, ↓s_list1, ↓s_mov, ↓s_pick, ↓s_pickE, s_pickE, ↓s_bin, ↓s_un, ↓s_minmax, ↓s_call, ↓s_callv, ↓s_callV, ↓s_ext, s_same, b_eql, b_neq, b_lss, b_leq, b_gtr, b_geq, b_add, b_sub, b_mul, b_eqlb, b_neqb, b_fnil, b_fnil', b_fnil2, b_fnil2', u_neg, u_not, m_two, s_end, s_end', s_end_iteN, s_res0, s_res1, s_tup1, s_tup2, ↓iteN_true, ↓iteN_false, iteN_true, iteN_false, Nat.zero_add, List.nil_append, List.append_nil, Nat.reduceEqDiff, reduceIte, decide_true, decide_false, Bool.not_true, Bool.not_false, List.getElem?_cons_zero, List.getElem?_cons_succ, Bool.false_eq_true, if_true, if_false, beq_self_eq_true]
theorem sp_signed {X : Orc} (e : E k_num_signed = some f_num_signed) (hx : ∀ args h, X (.fn k_num_signed) args h = none) (N : Nat) (neg : Bool) (i : List Nat) (d : Nat) (hd : d < 256) (hi : i.length ≤ 50) (h : H) (p : Nat) (md : Md) (hmd : isRo md = false) (hp : p < h.next) (bp : h.get p = some (.cells (ofBytes (i ++ [d])) md)) :
    ∃ p' md' h', callX E X (N + 1) (.fn k_num_signed) [.slice (some (p, 0)) (i ++ [d]).length none 1, .bool neg] h = some (.slice (some (p', 0)) (sgn (i ++ [d]) neg).length none 1, h') ∧ isRo md' = false ∧ h'.get p' = some (.cells (ofBytes (sgn (i ++ [d]) neg)) md') ∧ (∀ j, j < h.next → j ≠ p → h'.get j = h.get j) := by
  rw [x_cfn e _ _ (Nat.le_of_ble_eq_true rfl) (hx _ _), sgn_app]
  obtain ⟨L, eL⟩ : ∃ L, i.length = L := ⟨_, rfl⟩
  have ln : (i ++ [d]).length = L + 1 := by rw [List.length_append, eL]; rfl
  obtain ⟨w, ew⟩ : ∃ w, ofBytes i = w := ⟨_, rfl⟩
  have wL : w.length = L := by rw [← ew, ofBytes_len, eL]
  have ec : ofBytes (i ++ [d]) = w ++ [.int .u8 (d : Int)] := by rw [ofBytes_app, ew]; rfl
  rw [ec] at bp
  rw [ln]
  have c0 : decide (((L + 1 : Nat) : Int) = 0) = false := decide_eq_false (by omega)
  have lt : wr .i64 (((L + 1 : Nat) : Int) - 1) = (L : Int) := by rw [wr_i64 (by omega)]; omega
  have tn : (L : Int).toNat = L := Int.toNat_natCast L
  have g1 : (w ++ [V.int .u8 (d : Int)])[L]? = some (.int .u8 (d : Int)) := by rw [← wL]; exact get_app _ _
  have a8 := fun e h => b_and8 e h d hd
  have idx1 : idx (L : Int) (L + 1) = some L := by rw [x_idx (by omega) (by omega), tn]
  by_cases hlt : d < 128
  · simp only [if_pos hlt] at a8 ⊢
    cases neg with
    | false =>
      simp (config := {maxSteps := 1000000}) (disch := first | omega | (simp only [List.length_cons, List.length_nil, List.length_append, List.length_drop]; omega)) only [c0, lt, tn, bp, g1, a8, idx1, Nat.mul_one, ↓s_len, x_lenS, ↓l_loop, ↓l_succ, ↓l_normal, l_normal, l_exit, l_ret, l_iteN, ↓h_put_get, ↓h_new_get, ↓h_del_get, h_next_put, h_next_new, h_next_del, Nat.add_assoc, Nat.add_eq_left, Nat.left_eq_add, Nat.add_left_cancel_iff, ↓s_load, m_load, ↓m_load1, m_load1, ↓m_st, m_stE, m_storeI, m_storeE, w_zero, w_succ, ↓s_alloc, ↓x_idxA, ↓x_idxS, x_idxAE, x_idxSE, x_addrE, x_idx, x_lenS, ↓s_len, ↓x_buildS, x_buildE, ↓x_P0, ↓x_P1, x_fill0, x_filli, x_fills, x_fillb, c_int, List.length_cons, List.length_nil, List.cons_append, List.drop_succ_cons, List.drop_zero, List.drop_nil, List.nil_append, Int.reduceAdd, Int.reduceToNat, Int.reduceLT, Int.reduceLE, Nat.reduceAdd, Nat.reduceMul, Nat.reduceLeDiff, Int.reduceEq, Int.reduceSub, Int.cast_ofNat_Int, s_resc, s_consR, m_load4, m_store4, s_res0, ↓s_skip, ↓s_ops, ↓s_dops, ↓s_seq, ↓s_cond, ↓s_block, ↓s_exit, ↓s_ret, ↓s_scope, ↓s_nil, ↓s_op, ↓s_opg, ↓s_wanted', ↓s_wantV, s_wantV, s_wantV0, beq_true, beq_false, ↓s_bindS, s_bindS, ↓s_bindE, s_bindE, s_bindE_ret, s_bindE_exit, s_bindE_iteN, s_norm, ↓s_condV, s_condV, s_block_ret, s_block_normal, s_block_exit, s_block_iteN, ↓s_getp, ↓s_getp0, ↓s_get, s_get0, ↓s_con, ↓s_fn, ↓s_os0, ↓s_os1, ↓s_list0, ↓s_list1, ↓s_mov, ↓s_pick, ↓s_pickE, s_pickE, ↓s_bin, ↓s_un, ↓s_minmax, ↓s_call, ↓s_callv, ↓s_callV, ↓s_ext, s_same, b_eql, b_neq, b_lss, b_leq, b_gtr, b_geq, b_add, b_sub, b_mul, b_eqlb, b_neqb, b_fnil, b_fnil', b_fnil2, b_fnil2', u_neg, u_not, m_two, s_end, s_end', s_end_iteN, s_res0, s_res1, s_tup1, s_tup2, ↓iteN_true, ↓iteN_false, iteN_true, iteN_false, Nat.zero_add, List.nil_append, List.append_nil, Nat.reduceEqDiff, reduceIte, decide_true, decide_false, Bool.not_true, Bool.not_false, List.getElem?_cons_zero, List.getElem?_cons_succ, Bool.false_eq_true, if_true, if_false, beq_self_eq_true]
      refine ⟨p, md, _, by rw [List.length_append, eL]; rfl, hmd, ?_, fun j _ _ => rfl⟩
      rw [bp, ← ec]
    | true =>
      have o8 := fun e h => b_or8 e h d hlt
      have wn : writeN (w ++ [V.int .u8 (d : Int)]) L [.int .u8 ((d + 128 : Nat) : Int)] = w ++ [.int .u8 ((d + 128 : Nat) : Int)] := by rw [← wL]; exact writeN_app _ _ _
      have st : ∀ (x : H), storeE (some (.cells (w ++ [V.int .u8 (d : Int)]) md)) x p L [.int .u8 ((d + 128 : Nat) : Int)] = some (x.put p (.cells (w ++ [.int .u8 ((d + 128 : Nat) : Int)]) md)) := by
        intro x
        have hle : L + [V.int .u8 ((d + 128 : Nat) : Int)].length ≤ (w ++ [V.int .u8 (d : Int)]).length := by simp only [List.length_append, List.length_cons, List.length_nil, wL]; omega
        cases md with
        | ro => cases hmd
        | rw => rw [m_storeE _ _ _ _ _ hle, wn]
        | sh => rw [m_storeEs _ _ _ _ _ hle, wn]
      simp (config := {maxSteps := 1000000}) (disch := first | omega | (simp only [List.length_cons, List.length_nil, List.length_append, List.length_drop]; omega)) only [c0, lt, tn, bp, g1, a8, o8, st, idx1, Nat.mul_one, ↓s_len, x_lenS, ↓l_loop, ↓l_succ, ↓l_normal, l_normal, l_exit, l_ret, l_iteN, ↓h_put_get, ↓h_new_get, ↓h_del_get, h_next_put, h_next_new, h_next_del, Nat.add_assoc, Nat.add_eq_left, Nat.left_eq_add, Nat.add_left_cancel_iff, ↓s_load, m_load, ↓m_load1, m_load1, ↓m_st, m_stE, m_storeI, w_zero, w_succ, ↓s_alloc, ↓x_idxA, ↓x_idxS, x_idxAE, x_idxSE, x_addrE, x_idx, x_lenS, ↓s_len, ↓x_buildS, x_buildE, ↓x_P0, ↓x_P1, x_fill0, x_filli, x_fills, x_fillb, c_int, List.length_cons, List.length_nil, List.cons_append, List.drop_succ_cons, List.drop_zero, List.drop_nil, List.nil_append, Int.reduceAdd, Int.reduceToNat, Int.reduceLT, Int.reduceLE, Nat.reduceAdd, Nat.reduceMul, Nat.reduceLeDiff, Int.reduceEq, Int.reduceSub, Int.cast_ofNat_Int, s_resc, s_consR, m_load4, m_store4, s_res0, ↓s_skip, ↓s_ops, ↓s_dops, ↓s_seq, ↓s_cond, ↓s_block, ↓s_exit, ↓s_ret, ↓s_scope, ↓s_nil, ↓s_op, ↓s_opg, ↓s_wanted', ↓s_wantV, s_wantV, s_wantV0, beq_true, beq_false, ↓s_bindS, s_bindS, ↓s_bindE, s_bindE, s_bindE_ret, s_bindE_exit, s_bindE_iteN, s_norm, ↓s_condV, s_condV, s_block_ret, s_block_normal, s_block_exit, s_block_iteN, ↓s_getp, ↓s_getp0, ↓s_get, s_get0, ↓s_con, ↓s_fn, ↓s_os0, ↓s_os1, ↓s_list0, ↓s_list1, ↓s_mov, ↓s_pick, ↓s_pickE, s_pickE, ↓s_bin, ↓s_un, ↓s_minmax, ↓s_call, ↓s_callv, ↓s_callV, ↓s_ext, s_same, b_eql, b_neq, b_lss, b_leq, b_gtr, b_geq, b_add, b_sub, b_mul, b_eqlb, b_neqb, b_fnil, b_fnil', b_fnil2, b_fnil2', u_neg, u_not, m_two, s_end, s_end', s_end_iteN, s_res0, s_res1, s_tup1, s_tup2, ↓iteN_true, ↓iteN_false, iteN_true, iteN_false, Nat.zero_add, List.nil_append, List.append_nil, Nat.reduceEqDiff, reduceIte, decide_true, decide_false, Bool.not_true, Bool.not_false, List.getElem?_cons_zero, List.getElem?_cons_succ, Bool.false_eq_true, if_true, if_false, beq_self_eq_true]
      refine ⟨p, md, _, by rw [List.length_append, eL]; rfl, hmd, ?_, fun j _ hj => by rw [h_put_ne _ _ (Ne.symm hj)]⟩
      rw [h_put_same, ofBytes_app, ew]; rfl
  · simp only [if_neg hlt] at a8 ⊢
    have pe : (h.next = p) = False := by simp; omega
    have pe1 : (h.next + 1 = p) = False := by simp; omega
    have rd : readN (w ++ [V.int .u8 (d : Int)]) 0 (L + 1) = some (w ++ [V.int .u8 (d : Int)]) := x_readAll _ _ (by simp only [List.length_append, List.length_cons, List.length_nil, wL])
    have ap := fun (h : H) (i : Nat) (new : List V) => m_appE (w ++ [V.int .u8 (d : Int)]) md hmd h i (L + 1) new _ rd
    have pn1 : (p = h.next + 1) = False := by simp; omega
    cases neg with
    | false =>
      simp (config := {maxSteps := 1000000}) (disch := first | omega | (simp only [List.length_cons, List.length_nil, List.length_append, List.length_drop]; omega)) only [c0, lt, tn, bp, g1, a8, idx1, pe, pe1, rd, ap, ↓s_append, m_src, m_src1, m_app, Nat.mul_one, ↓s_len, x_lenS, ↓l_loop, ↓l_succ, ↓l_normal, l_normal, l_exit, l_ret, l_iteN, ↓h_put_get, ↓h_new_get, ↓h_del_get, h_next_put, h_next_new, h_next_del, Nat.add_assoc, Nat.add_eq_left, Nat.left_eq_add, Nat.add_left_cancel_iff, ↓s_load, m_load, ↓m_load1, m_load1, ↓m_st, m_stE, m_storeI, m_storeE, w_zero, w_succ, ↓s_alloc, ↓x_idxA, ↓x_idxS, x_idxAE, x_idxSE, x_addrE, x_idx, x_lenS, ↓s_len, ↓x_buildS, x_buildE, ↓x_P0, ↓x_P1, x_fill0, x_filli, x_fills, x_fillb, c_int, List.length_cons, List.length_nil, List.cons_append, List.drop_succ_cons, List.drop_zero, List.drop_nil, List.nil_append, Int.reduceAdd, Int.reduceToNat, Int.reduceLT, Int.reduceLE, Nat.reduceAdd, Nat.reduceMul, Nat.reduceLeDiff, Int.reduceEq, Int.reduceSub, Int.cast_ofNat_Int, s_resc, s_consR, m_load4, m_store4, s_res0, ↓s_skip, ↓s_ops, ↓s_dops, ↓s_seq, ↓s_cond, ↓s_block, ↓s_exit, ↓s_ret, ↓s_scope, ↓s_nil, ↓s_op, ↓s_opg, ↓s_wanted', ↓s_wantV, s_wantV, s_wantV0, beq_true, beq_false, ↓s_bindS, s_bindS, ↓s_bindE, s_bindE, s_bindE_ret, s_bindE_exit, s_bindE_iteN, s_norm, ↓s_condV, s_condV, s_block_ret, s_block_normal, s_block_exit, s_block_iteN, ↓s_getp, ↓s_getp0, ↓s_get, s_get0, ↓s_con, ↓s_fn, ↓s_os0, ↓s_os1, ↓s_list0, ↓s_list1, ↓s_mov, ↓s_pick, ↓s_pickE, s_pickE, ↓s_bin, ↓s_un, ↓s_minmax, ↓s_call, ↓s_callv, ↓s_callV, ↓s_ext, s_same, b_eql, b_neq, b_lss, b_leq, b_gtr, b_geq, b_add, b_sub, b_mul, b_eqlb, b_neqb, b_fnil, b_fnil', b_fnil2, b_fnil2', u_neg, u_not, m_two, s_end, s_end', s_end_iteN, s_res0, s_res1, s_tup1, s_tup2, ↓iteN_true, ↓iteN_false, iteN_true, iteN_false, Nat.zero_add, List.nil_append, List.append_nil, Nat.reduceEqDiff, reduceIte, decide_true, decide_false, Bool.not_true, Bool.not_false, List.getElem?_cons_zero, List.getElem?_cons_succ, Bool.false_eq_true, if_true, if_false, beq_self_eq_true]
      refine ⟨h.next + 1, .sh, _, by rw [List.length_append, eL]; rfl, rfl, ?_, fun j hj hjp => ?_⟩
      · have : (h.next + 1 = h.next + 1) = True := by simp
        simp only [h_new_get, h_del_get, h_next_new, h_next_del, this, decide_true, iteN_true, ofBytes_app, ew, List.append_assoc]; rfl
      · rw [h_new_ne _ _ (by simp only [h_next_new, h_next_del]; omega), h_del_ne _ (Ne.symm hjp), h_new_ne _ _ (by omega)]
    | true =>
      have g2 : ((w ++ [V.int .u8 (d : Int)]) ++ [V.int .u8 0])[L + 1]? = some (.int .u8 0) := by
        have := get_app (w ++ [V.int .u8 (d : Int)]) (V.int .u8 0)
        simp only [List.length_append, List.length_cons, List.length_nil, wL] at this
        exact this
      have lt2 : wr .i64 (((L + 1 + 1 : Nat) : Int) - 1) = ((L + 1 : Nat) : Int) := by rw [wr_i64 (by omega)]; omega
      have tn2 : ((L + 1 : Nat) : Int).toNat = L + 1 := Int.toNat_natCast _
      have idx2 : idx ((L + 1 : Nat) : Int) (L + 1 + 1) = some (L + 1) := by rw [x_idx (by omega) (by omega), tn2]
      have o8 : ∀ e h, binV .or e h (.int .u8 0) (.int .u8 128) = some (.int .u8 128) := fun e h => rfl
      have st : ∀ (x : H) (q : Nat), storeE (some (.cells ((w ++ [V.int .u8 (d : Int)]) ++ [V.int .u8 0]) .sh)) x q (L + 1) [.int .u8 128] = some (x.put q (.cells ((w ++ [.int .u8 (d : Int)]) ++ [.int .u8 128]) .sh)) := by
        intro x q
        have hle : L + 1 + [V.int .u8 128].length ≤ ((w ++ [V.int .u8 (d : Int)]) ++ [V.int .u8 0]).length := by simp only [List.length_append, List.length_cons, List.length_nil, wL]; omega
        have wn := writeN_app (w ++ [V.int .u8 (d : Int)]) (V.int .u8 0) (V.int .u8 128)
        simp only [List.length_append, List.length_cons, List.length_nil, wL] at wn
        rw [m_storeEs _ _ _ _ _ hle, wn]
      simp (config := {maxSteps := 1000000}) (disch := first | omega | (simp only [List.length_cons, List.length_nil, List.length_append, List.length_drop]; omega)) only [c0, lt, lt2, tn, tn2, bp, g1, g2, a8, o8, st, idx1, idx2, pe, pe1, rd, ap, ↓s_append, m_src, m_src1, m_app, Nat.mul_one, ↓s_len, x_lenS, ↓l_loop, ↓l_succ, ↓l_normal, l_normal, l_exit, l_ret, l_iteN, ↓h_put_get, ↓h_new_get, ↓h_del_get, h_next_put, h_next_new, h_next_del, Nat.add_assoc, Nat.add_eq_left, Nat.left_eq_add, Nat.add_left_cancel_iff, ↓s_load, m_load, ↓m_load1, m_load1, ↓m_st, m_stE, m_storeI, w_zero, w_succ, ↓s_alloc, ↓x_idxA, ↓x_idxS, x_idxAE, x_idxSE, x_addrE, x_idx, x_lenS, ↓s_len, ↓x_buildS, x_buildE, ↓x_P0, ↓x_P1, x_fill0, x_filli, x_fills, x_fillb, c_int, List.length_cons, List.length_nil, List.cons_append, List.drop_succ_cons, List.drop_zero, List.drop_nil, List.nil_append, Int.reduceAdd, Int.reduceToNat, Int.reduceLT, Int.reduceLE, Nat.reduceAdd, Nat.reduceMul, Nat.reduceLeDiff, Int.reduceEq, Int.reduceSub, Int.cast_ofNat_Int, s_resc, s_consR, m_load4, m_store4, s_res0, ↓s_skip, ↓s_ops, ↓s_dops, ↓s_seq, ↓s_cond, ↓s_block, ↓s_exit, ↓s_ret, ↓s_scope, ↓s_nil, ↓s_op, ↓s_opg, ↓s_wanted', ↓s_wantV, s_wantV, s_wantV0, beq_true, beq_false, ↓s_bindS, s_bindS, ↓s_bindE, s_bindE, s_bindE_ret, s_bindE_exit, s_bindE_iteN, s_norm, ↓s_condV, s_condV, s_block_ret, s_block_normal, s_block_exit, s_block_iteN, ↓s_getp, ↓s_getp0, ↓s_get, s_get0, ↓s_con, ↓s_fn, ↓s_os0, ↓s_os1, ↓s_list0, ↓s_list1, ↓s_mov, ↓s_pick, ↓s_pickE, s_pickE, ↓s_bin, ↓s_un, ↓s_minmax, ↓s_call, ↓s_callv, ↓s_callV, ↓s_ext, s_same, b_eql, b_neq, b_lss, b_leq, b_gtr, b_geq, b_add, b_sub, b_mul, b_eqlb, b_neqb, b_fnil, b_fnil', b_fnil2, b_fnil2', u_neg, u_not, m_two, s_end, s_end', s_end_iteN, s_res0, s_res1, s_tup1, s_tup2, ↓iteN_true, ↓iteN_false, iteN_true, iteN_false, Nat.zero_add, List.nil_append, List.append_nil, Nat.reduceEqDiff, reduceIte, decide_true, decide_false, Bool.not_true, Bool.not_false, List.getElem?_cons_zero, List.getElem?_cons_succ, Bool.false_eq_true, if_true, if_false, beq_self_eq_true]
      refine ⟨h.next + 1, .sh, _, by rw [List.length_append, eL]; rfl, rfl, ?_, fun j hj hjp => ?_⟩
      · have : (h.next + 1 = h.next + 1) = True := by simp
        simp only [h_put_get, h_new_get, h_del_get, h_next_new, h_next_del, this, decide_true, iteN_true, ofBytes_app, ew, List.append_assoc]; rfl
      · rw [h_put_ne _ _ (by omega), h_new_ne _ _ (by simp only [h_next_new, h_next_del]; omega), h_del_ne _ (Ne.symm hjp), h_new_ne _ _ (by omega)]
end Go.Eng
namespace Go.Eng
open Go
variable {E : Nat → Option Fn}
set_option linter.unusedSimpArgs false
set_option linter.unusedVariables false
theorem empty_next : H.empty.next = 0 := rfl
theorem e_first {X : Orc} (e : E k_num_lowFirst_1 = some f_num_lowFirst_1) (hx : ∀ args h, X (.fn k_num_lowFirst_1) args h = none) (hy : ∀ l args h, X (.yld l) args h = none) (N m : Nat) (hm : m < 256 ^ 5) (T0 : Tr V) (hT : evO T0 (.t 4) = .ptr (some (0, 0))) (h : H) (nx : 4 ≤ h.next)
    (b0 : h.get 0 = some (.cells [.slice none 0 (some 0) 0] .rw)) (b1 : h.get 1 = some (.cells [.int .i64 (m : Int)] .rw)) (b2 : h.get 2 = some .defers) (b3 : h.get 3 = some (.loop 0 none 32 T0 [16, 17] eAsg eBody 2)) :
    ∃ sl h', callX E X (N + 8) (.fn k_num_lowFirst_1) [.yld 3, .ptr (some (1, 0))] h = some (.tup [], h') ∧ EF (digs 5 m) sl T0 h' := by
  obtain ⟨sl, T', h', r, F⟩ := e_loop (Q := callX E X (N + 7)) (Q' := callX E X (N + 6)) (n := N + 7) (n' := N + 6) (fun args h => x_yld (hy _ _ _)) T0 hT 5 m hm (by omega) (N + 7) (by omega) [] (.slice none 0 (some 0) 0) (ofList 0 [.yld 3, .ptr (some (1, 0))] .e) h (by simp) ⟨rfl, rfl, nx, b0, b1, b2, b3, .inl ⟨rfl, rfl⟩⟩
  refine ⟨sl, h', ?_, by simpa using F⟩
  rw [x_cfn e _ _ (Nat.le_of_ble_eq_true rfl) (hx _ _)]
  have r' : loopN (evC (callX E X (N + 7)) 11 (N + 7) none eLoop) (N + 7) ⟨ofList 0 [.yld 3, .ptr (some (1, 0))] .e, [], h⟩ = some (.exit 0, ⟨T', [], h'⟩) := r
  show fnEnd [] (evC (callX E X (N + 7)) 11 (N + 7) none (.block 0 (.loop eLoop)) _) = _
  rw [s_block, s_loop, r', s_block_exit]
  simp only [if_true, e_normal, d_nil, e_some]
  rfl
theorem sp_sizeX {X : Orc} (e : E k_num_integer_size = some f_num_integer_size) (hx : ∀ args h, X (.fn k_num_integer_size) args h = none) (N : Nat) (n : Int) (hn : -549755813887 ≤ n ∧ n ≤ 549755813887) (h : H) : callX E X (N + 1) (.fn k_num_integer_size) [.int .i64 n] h = some (.int .i64 (n.natAbs : Int), h) := by
  rw [x_cfn e _ _ (Nat.le_of_ble_eq_true rfl) (hx _ _)]
  have w : wr .i64 (0 - n) = -n := by rw [wr_i64 (by omega)]; omega
  have q : (if n < -n then -n else n) = (n.natAbs : Int) := by split <;> omega
  simp (config := {maxSteps := 1000000}) (disch := first | omega | (simp only [List.length_cons, List.length_nil, List.length_append, List.length_drop]; omega)) only [w, q, ↓l_loop, ↓l_succ, ↓l_normal, l_normal, l_exit, l_ret, l_iteN, ↓h_put_get, ↓h_new_get, ↓h_del_get, h_next_put, h_next_new, h_next_del, Nat.add_assoc, Nat.add_eq_left, Nat.left_eq_add, Nat.add_left_cancel_iff, ↓s_load, m_load, ↓m_load1, m_load1, ↓m_st, m_stE, m_storeI, m_storeE, w_zero, w_succ, ↓s_alloc, ↓x_idxA, ↓x_idxS, x_idxAE, x_idxSE, x_addrE, x_idx, x_lenS, ↓s_len, ↓x_buildS, x_buildE, ↓x_P0, ↓x_P1, x_fill0, x_filli, x_fills, x_fillb, c_int, List.length_cons, List.length_nil, List.cons_append, List.drop_succ_cons, List.drop_zero, List.drop_nil, List.nil_append, Int.reduceAdd, Int.reduceToNat, Int.reduceLT, Int.reduceLE, Nat.reduceAdd, Nat.reduceMul, Nat.reduceLeDiff, Int.reduceEq, Int.reduceSub, Int.cast_ofNat_Int, s_resc, s_consR, m_load4, m_store4, s_res0, ↓s_skip, ↓s_ops, ↓s_dops, ↓s_seq, ↓s_cond, ↓s_block, ↓s_exit, ↓s_ret, ↓s_scope, ↓s_nil, ↓s_op, ↓s_opg, ↓s_wanted', ↓s_wantV, s_wantV, s_wantV0, beq_true, beq_false, ↓s_bindS, s_bindS, ↓s_bindE, s_bindE, s_bindE_ret, s_bindE_exit, s_bindE_iteN, s_norm, ↓s_condV, s_condV, s_block_ret, s_block_normal, s_block_exit, s_block_iteN, ↓s_getp, ↓s_getp0, ↓s_get, s_get0, ↓s_con, ↓s_fn, ↓s_os0, ↓s_os1, ↓s_list0, ↓s_list1, ↓s_mov, ↓s_pick, ↓s_pickE, s_pickE, ↓s_bin, ↓s_un, ↓s_minmax, ↓s_call, ↓s_callv, ↓s_callV, ↓s_ext, s_same, b_eql, b_neq, b_lss, b_leq, b_gtr, b_geq, b_add, b_sub, b_mul, b_eqlb, b_neqb, b_fnil, b_fnil', b_fnil2, b_fnil2', u_neg, u_not, m_two, s_end, s_end', s_end_iteN, s_res0, s_res1, s_tup1, s_tup2, ↓iteN_true, ↓iteN_false, iteN_true, iteN_false, Nat.zero_add, List.nil_append, List.append_nil, Nat.reduceEqDiff, reduceIte, decide_true, decide_false, Bool.not_true, Bool.not_false, List.getElem?_cons_zero, List.getElem?_cons_succ, Bool.false_eq_true, if_true, if_false, beq_self_eq_true]
theorem sp_lowFirstX {X : Orc} (e : E k_num_lowFirst = some f_num_lowFirst) (hx : ∀ args h, X (.fn k_num_lowFirst) args h = none) (N : Nat) (n : Int) (h : H) : callX E X (N + 1) (.fn k_num_lowFirst) [.int .i64 n] h = some (.fn k_num_lowFirst_1 [] [.ptr (some (h.next, 0))], h.new (.cells [.int .i64 n] .rw)) := by
  rw [x_cfn e _ _ (Nat.le_of_ble_eq_true rfl) (hx _ _)]
  simp (config := {maxSteps := 1000000}) (disch := first | omega | (simp only [List.length_cons, List.length_nil, List.length_append, List.length_drop]; omega)) only [↓s_mkfn, ↓s_box, ↓l_loop, ↓l_succ, ↓l_normal, l_normal, l_exit, l_ret, l_iteN, ↓h_put_get, ↓h_new_get, ↓h_del_get, h_next_put, h_next_new, h_next_del, Nat.add_assoc, Nat.add_eq_left, Nat.left_eq_add, Nat.add_left_cancel_iff, ↓s_load, m_load, ↓m_load1, m_load1, ↓m_st, m_stE, m_storeI, m_storeE, w_zero, w_succ, ↓s_alloc, ↓x_idxA, ↓x_idxS, x_idxAE, x_idxSE, x_addrE, x_idx, x_lenS, ↓s_len, ↓x_buildS, x_buildE, ↓x_P0, ↓x_P1, x_fill0, x_filli, x_fills, x_fillb, c_int, List.length_cons, List.length_nil, List.cons_append, List.drop_succ_cons, List.drop_zero, List.drop_nil, List.nil_append, Int.reduceAdd, Int.reduceToNat, Int.reduceLT, Int.reduceLE, Nat.reduceAdd, Nat.reduceMul, Nat.reduceLeDiff, Int.reduceEq, Int.reduceSub, Int.cast_ofNat_Int, s_resc, s_consR, m_load4, m_store4, s_res0, ↓s_skip, ↓s_ops, ↓s_dops, ↓s_seq, ↓s_cond, ↓s_block, ↓s_exit, ↓s_ret, ↓s_scope, ↓s_nil, ↓s_op, ↓s_opg, ↓s_wanted', ↓s_wantV, s_wantV, s_wantV0, beq_true, beq_false, ↓s_bindS, s_bindS, ↓s_bindE, s_bindE, s_bindE_ret, s_bindE_exit, s_bindE_iteN, s_norm, ↓s_condV, s_condV, s_block_ret, s_block_normal, s_block_exit, s_block_iteN, ↓s_getp, ↓s_getp0, ↓s_get, s_get0, ↓s_con, ↓s_fn, ↓s_os0, ↓s_os1, ↓s_list0, ↓s_list1, ↓s_mov, ↓s_pick, ↓s_pickE, s_pickE, ↓s_bin, ↓s_un, ↓s_minmax, ↓s_call, ↓s_callv, ↓s_callV, ↓s_ext, s_same, b_eql, b_neq, b_lss, b_leq, b_gtr, b_geq, b_add, b_sub, b_mul, b_eqlb, b_neqb, b_fnil, b_fnil', b_fnil2, b_fnil2', u_neg, u_not, m_two, s_end, s_end', s_end_iteN, s_res0, s_res1, s_tup1, s_tup2, ↓iteN_true, ↓iteN_false, iteN_true, iteN_false, Nat.zero_add, List.nil_append, List.append_nil, Nat.reduceEqDiff, reduceIte, decide_true, decide_false, Bool.not_true, Bool.not_false, List.getElem?_cons_zero, List.getElem?_cons_succ, Bool.false_eq_true, if_true, if_false, beq_self_eq_true]
def eR1 : C := (.ops [⟨(some 13), .mov (.t 0), none⟩,
       ⟨(some 14), .call k_num_integer_size [(.t 13)], none⟩,
       ⟨(some 15), .call k_num_lowFirst [(.t 14)], none⟩])
def eS : C := (.seq (.ops [⟨(some 28), .load none (.t 4), none⟩,
      ⟨(some 29), .mov (.t 0), none⟩,
      ⟨(some 30), .bin .lss .no (.t 29) (.c (.int .i64 0)), none⟩,
      ⟨(some 31), .call k_num_signed [(.t 28), (.t 30)], none⟩,
      ⟨(some 2), .mov (.t 31), none⟩,
      ⟨(some 3), .mov (.c (.int .i64 0)), none⟩])
   (.ret))
def eRS : C := .seq (.seq eR1 (.block 0 (.rangeF (.t 15) [16, 17] eAsg eBody))) eS
def enc (n : Int) : List Nat := sgn (digs 5 n.natAbs) (decide (n < 0))
structure NumX (E : Nat → Option Fn) (X : Orc) : Prop where
  e1 : E k_num_lowFirst_1 = some f_num_lowFirst_1
  e2 : E k_num_lowFirst = some f_num_lowFirst
  e3 : E k_num_integer_size = some f_num_integer_size
  e4 : E k_num_signed = some f_num_signed
  e5 : E k_num_Encode = some f_num_Encode
  hx : ∀ f args h, X (.fn f) args h = none
  hy : ∀ l args h, X (.yld l) args h = none
theorem digs_lt : ∀ (k m : Nat), ∀ x ∈ digs k m, x < 256 := by
  intro k
  induction k with
  | zero => intro m x hx; cases hx
  | succ k ih =>
    intro m x hx
    cases m with
    | zero => cases hx
    | succ m =>
      simp only [digs, List.mem_cons] at hx
      rcases hx with rfl | hx
      · exact Nat.mod_lt _ (by omega)
      · exact ih _ _ hx
theorem digs_len : ∀ (k m : Nat), (digs k m).length ≤ k := by
  intro k
  induction k with
  | zero => intro m; simp [digs]
  | succ k ih =>
    intro m
    cases m with
    | zero => simp [digs]
    | succ m => simp only [digs, List.length_cons]; have := ih ((m + 1) / 256); omega
theorem e_fin {X : Orc} (A : NumX E X) (N : Nat) (n : Int) (hn : -549755813887 ≤ n ∧ n ≤ 549755813887) (T : Tr V) (t0 : evO T (.t 0) = .int .i64 n) (t4 : evO T (.t 4) = .ptr (some (0, 0))) :
    (enc n = [] ∧ ∃ h1, fnEnd [.tmp 2, .tmp 3] (evC (callX E X (N + 9)) 32 (N + 9) none eRS ⟨T, [], H.empty.new (.cells [.slice none 0 (some 0) 0] .rw)⟩) = some (.tup [.slice none 0 (some 0) 0, .int .i64 0], h1)) ∨
    (enc n ≠ [] ∧ ∃ p md h1, fnEnd [.tmp 2, .tmp 3] (evC (callX E X (N + 9)) 32 (N + 9) none eRS ⟨T, [], H.empty.new (.cells [.slice none 0 (some 0) 0] .rw)⟩) = some (.tup [.slice (some (p, 0)) (enc n).length none 1, .int .i64 0], h1) ∧ isRo md = false ∧ h1.get p = some (.cells (ofBytes (enc n)) md)) := by
  obtain ⟨sz, esz⟩ : ∃ m, n.natAbs = m := ⟨_, rfl⟩
  have lf : ∀ (x : Int) (h : H), callX E X (N + 9) (.fn k_num_lowFirst) [.int .i64 x] h = _ := fun x h => sp_lowFirstX A.e2 (A.hx _) (N + 8) x h
  have si : ∀ (h : H), callX E X (N + 9) (.fn k_num_integer_size) [.int .i64 n] h = _ := fun h => sp_sizeX A.e3 (A.hx _) (N + 8) n hn h
  have lt : decide (n < 0) = decide (n < 0) := rfl
  obtain ⟨T0, eT0⟩ : ∃ T0, putT (putT (putT T (some 13) (.int .i64 n)) (some 14) (.int .i64 (sz : Int))) (some 15) (.fn k_num_lowFirst_1 [] [.ptr (some (1, 0))]) = T0 := ⟨_, rfl⟩
  have hT4 : evO T0 (.t 4) = .ptr (some (0, 0)) := by rw [← eT0]; simp only [s_getp, Nat.reduceEqDiff, decide_false, iteN_false, t4]
  have hT0 : evO T0 (.t 0) = .int .i64 n := by rw [← eT0]; simp only [s_getp, Nat.reduceEqDiff, decide_false, iteN_false, t0]
  have hT15 : evO T0 (.t 15) = .fn k_num_lowFirst_1 [] [.ptr (some (1, 0))] := by rw [← eT0]; simp only [s_getp, Nat.reduceEqDiff, decide_true, iteN_true]
  obtain ⟨sl, h', r, F⟩ := e_first A.e1 (A.hx _) A.hy (N + 1) sz (by have : (256:Nat)^5 = 1099511627776 := rfl; omega) T0 hT4 ((((H.empty.new (.cells [.slice none 0 (some 0) 0] .rw)).new (.cells [.int .i64 (sz : Int)] .rw)).new .defers).new (.loop 0 none 32 T0 [16, 17] eAsg eBody 2)) (by simp only [h_next_new]; exact Nat.le_of_ble_eq_true rfl) (by simp only [h_new_get, h_next_new, empty_next, Nat.reduceAdd, Nat.reduceEqDiff, decide_false, decide_true, iteN_false, iteN_true]) (by simp only [h_new_get, h_next_new, empty_next, Nat.reduceAdd, Nat.reduceEqDiff, decide_false, decide_true, iteN_false, iteN_true]) (by simp only [h_new_get, h_next_new, empty_next, Nat.reduceAdd, Nat.reduceEqDiff, decide_false, decide_true, iteN_false, iteN_true]) (by simp only [h_new_get, h_next_new, empty_next, Nat.reduceAdd, Nat.reduceEqDiff, decide_false, decide_true, iteN_false, iteN_true])
  have run1 : evC (callX E X (N + 9)) 32 (N + 9) none (.seq eR1 (.block 0 (.rangeF (.t 15) [16, 17] eAsg eBody))) ⟨T, [], H.empty.new (.cells [.slice none 0 (some 0) 0] .rw)⟩ = some (.normal, ⟨T0, [2], h'.del 3⟩) := by
    rw [s_seq]
    simp (config := {maxSteps := 1000000}) (disch := first | omega | (simp only [List.length_cons, List.length_nil, List.length_append, List.length_drop]; omega)) only [eR1, t0, lf, si, esz, eT0, empty_next, ↓l_loop, ↓l_succ, ↓l_normal, l_normal, l_exit, l_ret, l_iteN, ↓h_put_get, ↓h_new_get, ↓h_del_get, h_next_put, h_next_new, h_next_del, Nat.add_assoc, Nat.add_eq_left, Nat.left_eq_add, Nat.add_left_cancel_iff, ↓s_load, m_load, ↓m_load1, m_load1, ↓m_st, m_stE, m_storeI, m_storeE, w_zero, w_succ, ↓s_alloc, ↓x_idxA, ↓x_idxS, x_idxAE, x_idxSE, x_addrE, x_idx, x_lenS, ↓s_len, ↓x_buildS, x_buildE, ↓x_P0, ↓x_P1, x_fill0, x_filli, x_fills, x_fillb, c_int, List.length_cons, List.length_nil, List.cons_append, List.drop_succ_cons, List.drop_zero, List.drop_nil, List.nil_append, Int.reduceAdd, Int.reduceToNat, Int.reduceLT, Int.reduceLE, Nat.reduceAdd, Nat.reduceMul, Nat.reduceLeDiff, Int.reduceEq, Int.reduceSub, Int.cast_ofNat_Int, s_resc, s_consR, m_load4, m_store4, s_res0, ↓s_skip, ↓s_ops, ↓s_dops, ↓s_seq, ↓s_cond, ↓s_block, ↓s_exit, ↓s_ret, ↓s_scope, ↓s_nil, ↓s_op, ↓s_opg, ↓s_wanted', ↓s_wantV, s_wantV, s_wantV0, beq_true, beq_false, ↓s_bindS, s_bindS, ↓s_bindE, s_bindE, s_bindE_ret, s_bindE_exit, s_bindE_iteN, s_norm, ↓s_condV, s_condV, s_block_ret, s_block_normal, s_block_exit, s_block_iteN, ↓s_getp, ↓s_getp0, ↓s_get, s_get0, ↓s_con, ↓s_fn, ↓s_os0, ↓s_os1, ↓s_list0, ↓s_list1, ↓s_mov, ↓s_pick, ↓s_pickE, s_pickE, ↓s_bin, ↓s_un, ↓s_minmax, ↓s_call, ↓s_callv, ↓s_callV, ↓s_ext, s_same, b_eql, b_neq, b_lss, b_leq, b_gtr, b_geq, b_add, b_sub, b_mul, b_eqlb, b_neqb, b_fnil, b_fnil', b_fnil2, b_fnil2', u_neg, u_not, m_two, s_end, s_end', s_end_iteN, s_res0, s_res1, s_tup1, s_tup2, ↓iteN_true, ↓iteN_false, iteN_true, iteN_false, Nat.zero_add, List.nil_append, List.append_nil, Nat.reduceEqDiff, reduceIte, decide_true, decide_false, Bool.not_true, Bool.not_false, List.getElem?_cons_zero, List.getElem?_cons_succ, Bool.false_eq_true, if_true, if_false, beq_self_eq_true]
    rw [s_range, hT15]
    simp only [h_next_new, empty_next, Nat.reduceAdd]
    rw [s_callF]
    simp only [List.nil_append, List.cons_append]
    rw [show callX E X (N + 9) (.fn k_num_lowFirst_1) [.yld 3, .ptr (some (1, 0))] _ = _ from r, r_end, F.b3, r_2, r_je, s_block_exit]
    simp only [if_true]
  show _ ∨ _
  have bneg : ∀ e h, binV .lss e h (.int .i64 n) (.int .i64 0) = some (.bool (decide (n < 0))) := fun e h => b_lss e h _ _ _
  have g0 : h'.get 0 = some (.cells [sl] .rw) := F.b0
  have g2 : h'.get 2 = some .defers := F.b2
  have hsz : enc n = sgn (digs 5 sz) (decide (n < 0)) := by unfold enc; rw [esz]
  rcases F.sl with ⟨ed, esl⟩ | ⟨p, md, p4, pn, hmd, hne, esl, bp⟩
  · refine .inl ⟨by rw [hsz, ed]; rfl, ?_⟩
    have sg : ∀ (b : Bool) (h : H), callX E X (N + 9) (.fn k_num_signed) [.slice none 0 (some 0) 0, .bool b] h = _ := fun b h => sp_signed0 A.e4 (A.hx _) (N + 8) b h
    subst esl
    refine ⟨(h'.del 3).del 2, ?_⟩
    unfold eRS
    rw [s_seq, run1]
    simp (config := {maxSteps := 1000000}) (disch := first | omega | (simp only [List.length_cons, List.length_nil, List.length_append, List.length_drop]; omega)) only [eS, hT0, hT4, g0, g2, bneg, sg, d_cons, d_yes, d_nil, e_ret, e_some, ↓h_del_get, ↓l_loop, ↓l_succ, ↓l_normal, l_normal, l_exit, l_ret, l_iteN, ↓h_put_get, ↓h_new_get, ↓h_del_get, h_next_put, h_next_new, h_next_del, Nat.add_assoc, Nat.add_eq_left, Nat.left_eq_add, Nat.add_left_cancel_iff, ↓s_load, m_load, ↓m_load1, m_load1, ↓m_st, m_stE, m_storeI, m_storeE, w_zero, w_succ, ↓s_alloc, ↓x_idxA, ↓x_idxS, x_idxAE, x_idxSE, x_addrE, x_idx, x_lenS, ↓s_len, ↓x_buildS, x_buildE, ↓x_P0, ↓x_P1, x_fill0, x_filli, x_fills, x_fillb, c_int, List.length_cons, List.length_nil, List.cons_append, List.drop_succ_cons, List.drop_zero, List.drop_nil, List.nil_append, Int.reduceAdd, Int.reduceToNat, Int.reduceLT, Int.reduceLE, Nat.reduceAdd, Nat.reduceMul, Nat.reduceLeDiff, Int.reduceEq, Int.reduceSub, Int.cast_ofNat_Int, s_resc, s_consR, m_load4, m_store4, s_res0, ↓s_skip, ↓s_ops, ↓s_dops, ↓s_seq, ↓s_cond, ↓s_block, ↓s_exit, ↓s_ret, ↓s_scope, ↓s_nil, ↓s_op, ↓s_opg, ↓s_wanted', ↓s_wantV, s_wantV, s_wantV0, beq_true, beq_false, ↓s_bindS, s_bindS, ↓s_bindE, s_bindE, s_bindE_ret, s_bindE_exit, s_bindE_iteN, s_norm, ↓s_condV, s_condV, s_block_ret, s_block_normal, s_block_exit, s_block_iteN, ↓s_getp, ↓s_getp0, ↓s_get, s_get0, ↓s_con, ↓s_fn, ↓s_os0, ↓s_os1, ↓s_list0, ↓s_list1, ↓s_mov, ↓s_pick, ↓s_pickE, s_pickE, ↓s_bin, ↓s_un, ↓s_minmax, ↓s_call, ↓s_callv, ↓s_callV, ↓s_ext, s_same, b_eql, b_neq, b_lss, b_leq, b_gtr, b_geq, b_add, b_sub, b_mul, b_eqlb, b_neqb, b_fnil, b_fnil', b_fnil2, b_fnil2', u_neg, u_not, m_two, s_end, s_end', s_end_iteN, s_res0, s_res1, s_tup1, s_tup2, ↓iteN_true, ↓iteN_false, iteN_true, iteN_false, Nat.zero_add, List.nil_append, List.append_nil, Nat.reduceEqDiff, reduceIte, decide_true, decide_false, Bool.not_true, Bool.not_false, List.getElem?_cons_zero, List.getElem?_cons_succ, Bool.false_eq_true, if_true, if_false, beq_self_eq_true]
  · refine .inr ?_
    have sne : digs 5 sz = (digs 5 sz).dropLast ++ [(digs 5 sz).getLast hne] := (List.dropLast_concat_getLast hne).symm
    obtain ⟨i, ei⟩ : ∃ i, (digs 5 sz).dropLast = i := ⟨_, rfl⟩
    obtain ⟨d, edd⟩ : ∃ d, (digs 5 sz).getLast hne = d := ⟨_, rfl⟩
    rw [ei, edd] at sne
    have hd : d < 256 := digs_lt 5 sz d (by rw [← edd]; exact List.getLast_mem hne)
    have hl : i.length ≤ 50 := by have := digs_len 5 sz; rw [sne] at this; simp only [List.length_append, List.length_cons, List.length_nil] at this; omega
    obtain ⟨p', md', h2, q1, q2, q3, q4⟩ := sp_signed A.e4 (A.hx _) (N + 8) (decide (n < 0)) i d hd hl (h'.del 3) p md hmd (by rw [h_next_del]; exact pn) (by rw [h_del_get, show decide (3 = p) = false from decide_eq_false (by omega), iteN_false, bp, sne])
    have g22 : h2.get 2 = some .defers := by
      rw [q4 2 (by rw [h_next_del]; have := F.nx; omega) (by omega), h_del_get]
      simp only [Nat.reduceEqDiff, decide_false, iteN_false, g2]
    rw [hsz]
    refine ⟨?_, p', md', h2.del 2, ?_, q2, ?_⟩
    · rw [sne, sgn_app]; split <;> simp
    · unfold eRS
      rw [s_seq, run1]
      rw [sne] at esl
      rw [esl] at g0
      rw [show N + 8 + 1 = N + 9 from rfl] at q1
      simp (config := {maxSteps := 1000000}) (disch := first | omega | (simp only [List.length_cons, List.length_nil, List.length_append, List.length_drop]; omega)) only [eS, hT0, hT4, g0, g22, bneg, q1, d_cons, d_yes, d_nil, e_ret, e_some, ↓h_del_get, ↓l_loop, ↓l_succ, ↓l_normal, l_normal, l_exit, l_ret, l_iteN, ↓h_put_get, ↓h_new_get, ↓h_del_get, h_next_put, h_next_new, h_next_del, Nat.add_assoc, Nat.add_eq_left, Nat.left_eq_add, Nat.add_left_cancel_iff, ↓s_load, m_load, ↓m_load1, m_load1, ↓m_st, m_stE, m_storeI, m_storeE, w_zero, w_succ, ↓s_alloc, ↓x_idxA, ↓x_idxS, x_idxAE, x_idxSE, x_addrE, x_idx, x_lenS, ↓s_len, ↓x_buildS, x_buildE, ↓x_P0, ↓x_P1, x_fill0, x_filli, x_fills, x_fillb, c_int, List.length_cons, List.length_nil, List.cons_append, List.drop_succ_cons, List.drop_zero, List.drop_nil, List.nil_append, Int.reduceAdd, Int.reduceToNat, Int.reduceLT, Int.reduceLE, Nat.reduceAdd, Nat.reduceMul, Nat.reduceLeDiff, Int.reduceEq, Int.reduceSub, Int.cast_ofNat_Int, s_resc, s_consR, m_load4, m_store4, s_res0, ↓s_skip, ↓s_ops, ↓s_dops, ↓s_seq, ↓s_cond, ↓s_block, ↓s_exit, ↓s_ret, ↓s_scope, ↓s_nil, ↓s_op, ↓s_opg, ↓s_wanted', ↓s_wantV, s_wantV, s_wantV0, beq_true, beq_false, ↓s_bindS, s_bindS, ↓s_bindE, s_bindE, s_bindE_ret, s_bindE_exit, s_bindE_iteN, s_norm, ↓s_condV, s_condV, s_block_ret, s_block_normal, s_block_exit, s_block_iteN, ↓s_getp, ↓s_getp0, ↓s_get, s_get0, ↓s_con, ↓s_fn, ↓s_os0, ↓s_os1, ↓s_list0, ↓s_list1, ↓s_mov, ↓s_pick, ↓s_pickE, s_pickE, ↓s_bin, ↓s_un, ↓s_minmax, ↓s_call, ↓s_callv, ↓s_callV, ↓s_ext, s_same, b_eql, b_neq, b_lss, b_leq, b_gtr, b_geq, b_add, b_sub, b_mul, b_eqlb, b_neqb, b_fnil, b_fnil', b_fnil2, b_fnil2', u_neg, u_not, m_two, s_end, s_end', s_end_iteN, s_res0, s_res1, s_tup1, s_tup2, ↓iteN_true, ↓iteN_false, iteN_true, iteN_false, Nat.zero_add, List.nil_append, List.append_nil, Nat.reduceEqDiff, reduceIte, decide_true, decide_false, Bool.not_true, Bool.not_false, List.getElem?_cons_zero, List.getElem?_cons_succ, Bool.false_eq_true, if_true, if_false, beq_self_eq_true]
      rw [sne]
      try rfl
    · have : p' ≠ 2 := by
        intro e2
        rw [e2, g22] at q3
        cases q3
      rw [h_del_get, show decide (2 = p') = false from decide_eq_false (by omega), iteN_false, q3, sne]
def encIn (n : Int) : Bool := decide (-549755813887 ≤ n ∧ n ≤ 549755813887)
def encS (args : List V) : Option (List V × V) := match args with
  | [.int .i64 n] => if encIn n then some (ofBytes (enc n), .int .i64 0) else some ([], .int .i64 110)
  | _ => none
theorem datas_ofBytes (l : List Nat) : datas (ofBytes l) = true := by
  induction l with
  | nil => rfl
  | cons a r ih => simp only [ofBytes, datas, dataV, ih, Bool.and_self]
theorem f_enc : f_num_Encode = ⟨32, [.tmp 2, .tmp 3],
  .seq (.ops [⟨(some 2), .mov (.c (.slice none 0 (some 0) 0)), none⟩,
     ⟨(some 3), .mov (.c (.int .i64 0)), none⟩])
  (.scope (.seq (.seq (.ops [⟨(some 7), .mov (.t 0), none⟩,
       ⟨(some 8), .bin .lss .no (.t 7) (.c (.int .i64 (-549755813887))), none⟩,
       ⟨(some 9), .mov (.t 8), none⟩,
       ⟨(some 10), .mov (.t 0), (some (9, false))⟩,
       ⟨(some 11), .bin .gtr .no (.t 10) (.c (.int .i64 549755813887)), (some (9, false))⟩,
       ⟨(some 12), .pick (.t 9) (.c (.bool true)) (.t 11), none⟩])
    (.cond (.t 12)
     (.seq (.ops [⟨(some 2), .mov (.c (.slice none 0 (some 0) 0)), none⟩,
         ⟨(some 3), .mov (.c (.int .i64 110)), none⟩])
      (.ret))
     (.skip)))
   (.seq (.ops [⟨(some 4), .alloc [(.slice none 0 (some 0) 0)], none⟩])
   (.seq (.skip) eRS))))⟩ := rfl
theorem sp_enc0 {X : Orc} (A : NumX E X) (N : Nat) (n : Int) (hn : ¬ (-549755813887 ≤ n ∧ n ≤ 549755813887)) : callX E X (N + 1) (.fn k_num_Encode) [.int .i64 n] H.empty = some (.tup [.slice none 0 (some 0) 0, .int .i64 110], H.empty) := by
  rw [x_cfn A.e5 _ _ (Nat.le_of_ble_eq_true rfl) (A.hx _ _ _)]
  by_cases c : n < -549755813887
  · have c1 : decide (n < -549755813887) = true := decide_eq_true c
    simp (config := {maxSteps := 1000000}) (disch := first | omega | (simp only [List.length_cons, List.length_nil, List.length_append, List.length_drop]; omega)) only [c1, ↓l_loop, ↓l_succ, ↓l_normal, l_normal, l_exit, l_ret, l_iteN, ↓h_put_get, ↓h_new_get, ↓h_del_get, h_next_put, h_next_new, h_next_del, Nat.add_assoc, Nat.add_eq_left, Nat.left_eq_add, Nat.add_left_cancel_iff, ↓s_load, m_load, ↓m_load1, m_load1, ↓m_st, m_stE, m_storeI, m_storeE, w_zero, w_succ, ↓s_alloc, ↓x_idxA, ↓x_idxS, x_idxAE, x_idxSE, x_addrE, x_idx, x_lenS, ↓s_len, ↓x_buildS, x_buildE, ↓x_P0, ↓x_P1, x_fill0, x_filli, x_fills, x_fillb, c_int, List.length_cons, List.length_nil, List.cons_append, List.drop_succ_cons, List.drop_zero, List.drop_nil, List.nil_append, Int.reduceAdd, Int.reduceToNat, Int.reduceLT, Int.reduceLE, Nat.reduceAdd, Nat.reduceMul, Nat.reduceLeDiff, Int.reduceEq, Int.reduceSub, Int.cast_ofNat_Int, s_resc, s_consR, m_load4, m_store4, s_res0, ↓s_skip, ↓s_ops, ↓s_dops, ↓s_seq, ↓s_cond, ↓s_block, ↓s_exit, ↓s_ret, ↓s_scope, ↓s_nil, ↓s_op, ↓s_opg, ↓s_wanted', ↓s_wantV, s_wantV, s_wantV0, beq_true, beq_false, ↓s_bindS, s_bindS, ↓s_bindE, s_bindE, s_bindE_ret, s_bindE_exit, s_bindE_iteN, s_norm, ↓s_condV, s_condV, s_block_ret, s_block_normal, s_block_exit, s_block_iteN, ↓s_getp, ↓s_getp0, ↓s_get, s_get0, ↓s_con, ↓s_fn, ↓s_os0, ↓s_os1, ↓s_list0, ↓s_list1, ↓s_mov, ↓s_pick, ↓s_pickE, s_pickE, ↓s_bin, ↓s_un, ↓s_minmax, ↓s_call, ↓s_callv, ↓s_callV, ↓s_ext, s_same, b_eql, b_neq, b_lss, b_leq, b_gtr, b_geq, b_add, b_sub, b_mul, b_eqlb, b_neqb, b_fnil, b_fnil', b_fnil2, b_fnil2', u_neg, u_not, m_two, s_end, s_end', s_end_iteN, s_res0, s_res1, s_tup1, s_tup2, ↓iteN_true, ↓iteN_false, iteN_true, iteN_false, Nat.zero_add, List.nil_append, List.append_nil, Nat.reduceEqDiff, reduceIte, decide_true, decide_false, Bool.not_true, Bool.not_false, List.getElem?_cons_zero, List.getElem?_cons_succ, Bool.false_eq_true, if_true, if_false, beq_self_eq_true]
  · have c1 : decide (n < -549755813887) = false := decide_eq_false c
    have c2 : decide (549755813887 < n) = true := decide_eq_true (by omega)
    simp (config := {maxSteps := 1000000}) (disch := first | omega | (simp only [List.length_cons, List.length_nil, List.length_append, List.length_drop]; omega)) only [c1, c2, ↓l_loop, ↓l_succ, ↓l_normal, l_normal, l_exit, l_ret, l_iteN, ↓h_put_get, ↓h_new_get, ↓h_del_get, h_next_put, h_next_new, h_next_del, Nat.add_assoc, Nat.add_eq_left, Nat.left_eq_add, Nat.add_left_cancel_iff, ↓s_load, m_load, ↓m_load1, m_load1, ↓m_st, m_stE, m_storeI, m_storeE, w_zero, w_succ, ↓s_alloc, ↓x_idxA, ↓x_idxS, x_idxAE, x_idxSE, x_addrE, x_idx, x_lenS, ↓s_len, ↓x_buildS, x_buildE, ↓x_P0, ↓x_P1, x_fill0, x_filli, x_fills, x_fillb, c_int, List.length_cons, List.length_nil, List.cons_append, List.drop_succ_cons, List.drop_zero, List.drop_nil, List.nil_append, Int.reduceAdd, Int.reduceToNat, Int.reduceLT, Int.reduceLE, Nat.reduceAdd, Nat.reduceMul, Nat.reduceLeDiff, Int.reduceEq, Int.reduceSub, Int.cast_ofNat_Int, s_resc, s_consR, m_load4, m_store4, s_res0, ↓s_skip, ↓s_ops, ↓s_dops, ↓s_seq, ↓s_cond, ↓s_block, ↓s_exit, ↓s_ret, ↓s_scope, ↓s_nil, ↓s_op, ↓s_opg, ↓s_wanted', ↓s_wantV, s_wantV, s_wantV0, beq_true, beq_false, ↓s_bindS, s_bindS, ↓s_bindE, s_bindE, s_bindE_ret, s_bindE_exit, s_bindE_iteN, s_norm, ↓s_condV, s_condV, s_block_ret, s_block_normal, s_block_exit, s_block_iteN, ↓s_getp, ↓s_getp0, ↓s_get, s_get0, ↓s_con, ↓s_fn, ↓s_os0, ↓s_os1, ↓s_list0, ↓s_list1, ↓s_mov, ↓s_pick, ↓s_pickE, s_pickE, ↓s_bin, ↓s_un, ↓s_minmax, ↓s_call, ↓s_callv, ↓s_callV, ↓s_ext, s_same, b_eql, b_neq, b_lss, b_leq, b_gtr, b_geq, b_add, b_sub, b_mul, b_eqlb, b_neqb, b_fnil, b_fnil', b_fnil2, b_fnil2', u_neg, u_not, m_two, s_end, s_end', s_end_iteN, s_res0, s_res1, s_tup1, s_tup2, ↓iteN_true, ↓iteN_false, iteN_true, iteN_false, Nat.zero_add, List.nil_append, List.append_nil, Nat.reduceEqDiff, reduceIte, decide_true, decide_false, Bool.not_true, Bool.not_false, List.getElem?_cons_zero, List.getElem?_cons_succ, Bool.false_eq_true, if_true, if_false, beq_self_eq_true]
theorem sp_enc {X : Orc} (A : NumX E X) (N : Nat) (n : Int) (hn : -549755813887 ≤ n ∧ n ≤ 549755813887) :
    (enc n = [] ∧ ∃ h1, callX E X (N + 10) (.fn k_num_Encode) [.int .i64 n] H.empty = some (.tup [.slice none 0 (some 0) 0, .int .i64 0], h1)) ∨
    (enc n ≠ [] ∧ ∃ p md h1, callX E X (N + 10) (.fn k_num_Encode) [.int .i64 n] H.empty = some (.tup [.slice (some (p, 0)) (enc n).length none 1, .int .i64 0], h1) ∧ isRo md = false ∧ h1.get p = some (.cells (ofBytes (enc n)) md)) := by
  have c1 : decide (n < -549755813887) = false := decide_eq_false (by omega)
  have c2 : decide (549755813887 < n) = false := decide_eq_false (by omega)
  have e5 := A.e5
  rw [f_enc] at e5
  rw [x_cfn e5 _ _ (Nat.le_of_ble_eq_true rfl) (A.hx _ _ _)]
  simp (config := {maxSteps := 1000000}) (disch := first | omega | (simp only [List.length_cons, List.length_nil, List.length_append, List.length_drop]; omega)) only [c1, c2, empty_next, ↓l_loop, ↓l_succ, ↓l_normal, l_normal, l_exit, l_ret, l_iteN, ↓h_put_get, ↓h_new_get, ↓h_del_get, h_next_put, h_next_new, h_next_del, Nat.add_assoc, Nat.add_eq_left, Nat.left_eq_add, Nat.add_left_cancel_iff, ↓s_load, m_load, ↓m_load1, m_load1, ↓m_st, m_stE, m_storeI, m_storeE, w_zero, w_succ, ↓s_alloc, ↓x_idxA, ↓x_idxS, x_idxAE, x_idxSE, x_addrE, x_idx, x_lenS, ↓s_len, ↓x_buildS, x_buildE, ↓x_P0, ↓x_P1, x_fill0, x_filli, x_fills, x_fillb, c_int, List.length_cons, List.length_nil, List.cons_append, List.drop_succ_cons, List.drop_zero, List.drop_nil, List.nil_append, Int.reduceAdd, Int.reduceToNat, Int.reduceLT, Int.reduceLE, Nat.reduceAdd, Nat.reduceMul, Nat.reduceLeDiff, Int.reduceEq, Int.reduceSub, Int.cast_ofNat_Int, s_resc, s_consR, m_load4, m_store4, s_res0, ↓s_skip, ↓s_ops, ↓s_dops, ↓s_seq, ↓s_cond, ↓s_block, ↓s_exit, ↓s_ret, ↓s_scope, ↓s_nil, ↓s_op, ↓s_opg, ↓s_wanted', ↓s_wantV, s_wantV, s_wantV0, beq_true, beq_false, ↓s_bindS, s_bindS, ↓s_bindE, s_bindE, s_bindE_ret, s_bindE_exit, s_bindE_iteN, s_norm, ↓s_condV, s_condV, s_block_ret, s_block_normal, s_block_exit, s_block_iteN, ↓s_getp, ↓s_getp0, ↓s_get, s_get0, ↓s_con, ↓s_fn, ↓s_os0, ↓s_os1, ↓s_list0, ↓s_list1, ↓s_mov, ↓s_pick, ↓s_pickE, s_pickE, ↓s_bin, ↓s_un, ↓s_minmax, ↓s_call, ↓s_callv, ↓s_callV, ↓s_ext, s_same, b_eql, b_neq, b_lss, b_leq, b_gtr, b_geq, b_add, b_sub, b_mul, b_eqlb, b_neqb, b_fnil, b_fnil', b_fnil2, b_fnil2', u_neg, u_not, m_two, s_end, s_end', s_end_iteN, s_res0, s_res1, s_tup1, s_tup2, ↓iteN_true, ↓iteN_false, iteN_true, iteN_false, Nat.zero_add, List.nil_append, List.append_nil, Nat.reduceEqDiff, reduceIte, decide_true, decide_false, Bool.not_true, Bool.not_false, List.getElem?_cons_zero, List.getElem?_cons_succ, Bool.false_eq_true, if_true, if_false, beq_self_eq_true]
  exact e_fin A N n hn _ (by simp only [s_getp, s_getp0, Nat.reduceEqDiff, decide_false, decide_true, iteN_false, iteN_true]; rfl) (by simp only [s_getp, s_getp0, Nat.reduceEqDiff, decide_false, decide_true, iteN_false, iteN_true])
theorem encX_ok {P : Program} {g : Gn} (hE : Link P g E) (A : NumX E noX) : QOk P g (newX k_num_Encode encS) := by
  refine newX_ok (callX_ok hE noX_ok 10) ?_
  intro args c e hs
  unfold encS at hs
  split at hs
  · rename_i n
    split at hs
    · rename_i hin
      have hin' : -549755813887 ≤ n ∧ n ≤ 549755813887 := of_decide_eq_true hin
      cases hs
      refine ⟨rfl, datas_ofBytes _, rfl, ?_⟩
      rcases sp_enc A 0 n hin' with ⟨e1, e2⟩ | ⟨e1, e2⟩
      · exact .inl ⟨by rw [e1]; rfl, e2⟩
      · refine .inr ⟨?_, ?_⟩
        · intro h0
          cases hq : enc n with
          | nil => exact e1 hq
          | cons a r => rw [hq] at h0; cases h0
        · rw [ofBytes_len]; exact e2
    · rename_i hin
      have hin' : ¬ (-549755813887 ≤ n ∧ n ≤ 549755813887) := fun h => hin (decide_eq_true h)
      cases hs
      exact ⟨rfl, rfl, rfl, .inl ⟨rfl, _, sp_enc0 A 9 n hin'⟩⟩
  · cases hs
end Go.Eng
