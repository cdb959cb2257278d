/- What functions of the program come to: own work. -/
import Derived.Test.YtpgocblbihbfpaaDqB
namespace Go.Eng
open Go
variable {E : Nat → Option Fn} {X : Orc}
set_option linter.unusedSimpArgs false
set_option linter.unusedVariables false
/-! records -/
structure Rq where
  kind : Int
  l : List Nat
instance : DecidableEq Rq := fun a b => if h : a.kind = b.kind ∧ a.l = b.l then .isTrue (by cases a; cases b; simp_all) else .isFalse (fun e => h (by rw [e]; exact ⟨rfl, rfl⟩))
structure Rq.ok (o : Rq) : Prop where
  k0 : -9223372036854775808 ≤ o.kind
  k1 : o.kind < 9223372036854775808
  bl : byt o.l = true
def RqAt (h : H) (o : Rq) (p : List V) : Prop := ∃ a, p = [.int .i64 o.kind, .slice a o.l.length none 1] ∧ SrcH h a 1 o.l
/-- a row of records, as an argument -/
def RqsH (h : H) (a : Option (Nat × Nat)) (ops : List Rq) : Prop := ∃ parts, Al2 (RqAt h) ops parts ∧ (ops = [] ∨ ∃ k md, a = some (k, 0) ∧ k < h.next ∧ h.get k = some (.cells parts.flatten md))
/-- may a record be -/
def rqOk (o : Rq) : Bool := decide (0 ≤ o.kind) && decide (o.kind ≤ 255) && decide (o.l.length ≤ 200000)
/-- what a mark makes of bytes -/
def mkB4 (l : List Nat) : List Nat := l ++ leN 4 (onV 0 l)
/-- a record's bytes -/
def rqB (o : Rq) : List Nat := mkB4 (o.kind.toNat :: leN 4 o.l.length) ++ mkB4 o.l
theorem mkB4_len (l : List Nat) : (mkB4 l).length = l.length + 4 := by unfold mkB4; rw [List.length_append, leN_len]
theorem rqB_len (o : Rq) : (rqB o).length = 13 + o.l.length := by
  unfold rqB; rw [List.length_append, mkB4_len, mkB4_len, List.length_cons, leN_len]; omega
section
variable {Hh : Type} {enc : TypeId × Value → Hh} {P : Program} {W : World} {spare : Nat → Bool} {held : Bool} {base : Nat}
end
end Go.Eng
namespace Go.Eng
open Go
set_option linter.unusedSimpArgs false
set_option linter.unusedVariables false
theorem bar_mk (l : List Nat) (ho : onV 0 l < 4294967296) : barE (mkB4 l) = 0 ∧ barB (mkB4 l) = l := by
  have ll := mkB4_len l
  have e1 : (mkB4 l).take ((mkB4 l).length - 4) = l := by rw [ll, Nat.add_sub_cancel]; unfold mkB4; exact List.take_left' rfl
  have e2 : (mkB4 l).drop ((mkB4 l).length - 4) = leN 4 (onV 0 l) := by rw [ll, Nat.add_sub_cancel]; unfold mkB4; exact List.drop_left' rfl
  have e0 : barE (mkB4 l) = 0 := by
    unfold barE
    rw [if_neg (by omega), e1, e2, numV_leN 4 _ (by exact ho), if_pos rfl]
  exact ⟨e0, by unfold barB; rw [if_pos e0, e1]⟩
theorem bar_of (m : List Nat) (bm : byt m = true) (h : barE m = 0) : 4 ≤ m.length ∧ m = mkB4 (m.take (m.length - 4)) := by
  unfold barE at h
  by_cases h4 : m.length < 4
  · rw [if_pos h4] at h; cases h
  · rw [if_neg h4] at h
    by_cases he : onV 0 (m.take (m.length - 4)) = numV (m.drop (m.length - 4))
    · refine ⟨by omega, ?_⟩
      unfold mkB4
      rw [he, leN_numV' _ (byt_drop bm _) 4 (by rw [List.length_drop]; omega), List.take_append_drop]
    · rw [if_neg he] at h; cases h
/-- the record that stands ahead -/
def dcV (b : List Nat) : Option (Rq × Nat) :=
  if b.length < 13 then none else if barE (b.take 9) ≠ 0 then none else
  if 200000 < numV ((b.drop 1).take 4) then none else if b.length < 13 + numV ((b.drop 1).take 4) then none else
  if barE ((b.drop 9).take (numV ((b.drop 1).take 4) + 4)) ≠ 0 then none else
  some (⟨(b.getD 0 0 : Nat), (b.drop 9).take (numV ((b.drop 1).take 4))⟩, 13 + numV ((b.drop 1).take 4))
theorem dc_ok (o : Rq) (ho : rqOk o = true) (hl : ∀ l, onV 0 l < 4294967296) (r : List Nat) : dcV (rqB o ++ r) = some (o, (rqB o).length) := by
  unfold rqOk at ho
  simp only [Bool.and_eq_true, decide_eq_true_eq] at ho
  obtain ⟨⟨h1, h2⟩, h3⟩ := ho
  obtain ⟨hd, ehd⟩ : ∃ x, o.kind.toNat :: leN 4 o.l.length = x := ⟨_, rfl⟩
  have lhd : hd.length = 5 := by rw [← ehd, List.length_cons, leN_len]
  have eb : rqB o ++ r = mkB4 hd ++ (mkB4 o.l ++ r) := by unfold rqB; rw [ehd, List.append_assoc]
  have l9 : (mkB4 hd).length = 9 := by rw [mkB4_len, lhd]
  have lb : (rqB o ++ r).length = 13 + o.l.length + r.length := by rw [List.length_append, rqB_len]
  have t9 : (rqB o ++ r).take 9 = mkB4 hd := by rw [eb]; exact List.take_left' l9
  have d9 : (rqB o ++ r).drop 9 = mkB4 o.l ++ r := by rw [eb]; exact List.drop_left' l9
  have n4 : ((rqB o ++ r).drop 1).take 4 = leN 4 o.l.length := by
    rw [eb]
    unfold mkB4
    rw [← ehd]
    show (((leN 4 o.l.length ++ leN 4 _) ++ _).take 4) = _
    rw [List.append_assoc]
    exact List.take_left' (leN_len _ _)
  have nv : numV (leN 4 o.l.length) = o.l.length := numV_leN 4 _ (by show o.l.length < 4294967296; omega)
  have g0 : (rqB o ++ r).getD 0 0 = o.kind.toNat := by rw [eb]; unfold mkB4; rw [← ehd]; rfl
  unfold dcV
  rw [n4, nv, t9, d9, g0, if_neg (by omega), if_neg (by rw [(bar_mk hd (hl _)).1]; simp), if_neg (by omega), if_neg (by omega), List.take_left' (mkB4_len _), if_neg (by rw [(bar_mk o.l (hl _)).1]; simp)]
  have tk : (mkB4 o.l ++ r).take o.l.length = o.l := by unfold mkB4; rw [List.append_assoc]; exact List.take_left' rfl
  rw [tk, rqB_len, Int.toNat_of_nonneg h1]
theorem dc_of (b : List Nat) (bb : byt b = true) (o : Rq) (k : Nat) (h : dcV b = some (o, k)) : rqOk o = true ∧ o.ok ∧ b.take k = rqB o ∧ k = 13 + o.l.length ∧ k ≤ b.length := by
  unfold dcV at h
  by_cases c1 : b.length < 13
  · rw [if_pos c1] at h; cases h
  rw [if_neg c1] at h
  by_cases c2 : barE (b.take 9) ≠ 0
  · rw [if_pos c2] at h; cases h
  rw [if_neg c2] at h
  obtain ⟨n, en⟩ : ∃ n, numV ((b.drop 1).take 4) = n := ⟨_, rfl⟩
  rw [en] at h
  by_cases c3 : 200000 < n
  · rw [if_pos c3] at h; cases h
  rw [if_neg c3] at h
  by_cases c4 : b.length < 13 + n
  · rw [if_pos c4] at h; cases h
  rw [if_neg c4] at h
  by_cases c5 : barE ((b.drop 9).take (n + 4)) ≠ 0
  · rw [if_pos c5] at h; cases h
  rw [if_neg c5] at h
  cases h
  have g0 : b.getD 0 0 < 256 := by
    rw [List.getD_eq_getElem?_getD]
    cases hh : b[0]? with
    | none => decide
    | some x => exact byt_iff.1 bb x (List.mem_of_getElem? hh)
  have ll : ((b.drop 9).take n).length = n := by rw [List.length_take, List.length_drop]; omega
  obtain ⟨_, e9⟩ := bar_of (b.take 9) (byt_take bb _) (Classical.not_not.1 c2)
  obtain ⟨_, eN⟩ := bar_of ((b.drop 9).take (n + 4)) (byt_take (byt_drop bb _) _) (Classical.not_not.1 c5)
  have l9 : (b.take 9).length = 9 := by rw [List.length_take]; omega
  have lN : ((b.drop 9).take (n + 4)).length = n + 4 := by rw [List.length_take, List.length_drop]; omega
  rw [l9, List.take_take] at e9
  rw [lN, Nat.add_sub_cancel, List.take_take, Nat.min_eq_left (by omega)] at eN
  have e5 : b.take 5 = b.getD 0 0 :: leN 4 n := by
    match b, c1 with
    | x :: r, c1 =>
      show x :: r.take 4 = x :: _
      rw [← en]
      show _ = x :: leN 4 (numV (r.take 4))
      rw [leN_numV' (r.take 4) (byt_take (byt_tail bb) _) 4 (by rw [List.length_take]; simp at c1; omega)]
    | [], c1 => exact absurd (show ([] : List Nat).length < 13 by simp) c1
  refine ⟨?_, ⟨by show (-9223372036854775808 : Int) ≤ ((b.getD 0 0 : Nat) : Int); omega, by show ((b.getD 0 0 : Nat) : Int) < _; omega, byt_take (byt_drop bb _) _⟩, ?_, by rw [ll], by omega⟩
  · unfold rqOk
    simp only [Bool.and_eq_true, decide_eq_true_eq]
    exact ⟨⟨by omega, by omega⟩, by rw [ll]; omega⟩
  · rw [show 13 + n = 9 + (n + 4) by omega, List.take_add, eN, e9]
    unfold rqB
    simp only
    rw [ll, Int.toNat_natCast, ← e5]
    rfl
end Go.Eng
namespace Go.Eng
open Go
variable {E : Nat → Option Fn} {X : Orc}
set_option linter.unusedSimpArgs false
set_option linter.unusedVariables false
end Go.Eng
namespace Go.Eng
open Go
variable {E : Nat → Option Fn} {X : Orc}
set_option linter.unusedSimpArgs false
set_option linter.unusedVariables false
def rhOk (b : List Nat) : Bool := decide (9 ≤ b.length) && decide (barE (b.take 9) = 0)
def rhK (b : List Nat) : Nat := if rhOk b = true then b.getD 0 0 else 0
def rhN (b : List Nat) : Nat := if rhOk b = true then numV ((b.drop 1).take 4) else 0
def rhV (b : List Nat) : Bool := rhOk b && decide (numV ((b.drop 1).take 4) ≤ 200000)
theorem readHead_go (ef : E k_record_readHead = some f_record_readHead) (e : EnCm E) (x : NoCm X) (xh : ∀ a h, X (.fn k_record_readHead) a h = none) (M : Nat) (hM : 50100 < M) (b : List Nat) (bb : byt b = true) (hb : b.length ≤ 1000000) (a : Option (Nat × Nat)) (c : Option Nat) (hc : b ≠ [] → c = none) (ez : Nat) (h : H) (src : SrcH h a ez b) :
    ∃ h', callX E X (M + 21) (.fn k_record_readHead) [.slice a b.length c ez] h = some (.tup [.int .i64 (rhK b : Nat), .int .i64 (rhN b : Nat), .bool (rhV b)], h') ∧ Kp h h' := by
  rw [x_cfn ef _ _ (Nat.le_of_ble_eq_true rfl) (xh _ _)]
  unfold rhK rhN rhV
  by_cases c1 : b.length < 9
  · have d1 : decide ((b.length : Int) < 9) = true := decide_eq_true (by omega)
    have r0 : rhOk b = false := by unfold rhOk; rw [decide_eq_false (by omega), Bool.false_and]
    refine ⟨h, ?_, Kp.refl _⟩
    rw [r0, if_neg (by simp), if_neg (by simp), Bool.false_and]
    generalize b.length = n at *
    simp (config := {maxSteps := 2000000}) (disch := first | omega | (simp only [List.length_cons, List.length_nil, List.length_append, List.length_drop]; omega)) only [d1, ↓s_len, x_lenS, ↓b_xor32, ↓b_and32, ↓b_or32, ↓u_not32, b_xor32, b_and32, b_or32, u_not32, w32ad, ↓x_conv, x_convV, ↓x_fieldAddr, x_fieldV, ↓s_nilchk, x_nilchk, Nat.zero_add, Nat.add_zero, Nat.mul_one, ↓s_evD, ↓s_dnil, ↓s_dL, ↓s_dLg, ↓s_dR, ↓s_dRg, ↓s_dRj, ↓s_dRjg, ↓s_dB, ↓s_dBg, ↓s_dAlloc, ↓s_bindD, s_bindD, s_finD, s_finDx, s_addP0, s_addP1, s_addB, s_lookP, ↓s_bump0, ↓s_bump_get, s_bump_next, s_ok0, ↓s_ok1, s_okR0, ↓s_okR1, ↓s_okE, s_okE, s_okE1, s_nth0, s_nthS, Nat.add_zero, Bool.and_self, Bool.and_true, Bool.true_and, ↓l_loop, ↓l_succ, ↓l_normal, l_normal, l_exit, l_ret, l_iteN, ↓h_put_get, ↓h_new_get, ↓h_del_get, h_next_put, h_next_new, h_next_del, Nat.add_assoc, Nat.add_eq_left, Nat.left_eq_add, Nat.add_left_cancel_iff, ↓s_load, m_load, ↓m_load1, m_load1, ↓m_st, m_stE, m_storeI, m_storeE, w_zero, w_succ, ↓s_alloc, ↓x_idxA, ↓x_idxS, x_idxAE, x_idxSE, x_addrE, x_idx, x_lenS, ↓s_len, ↓x_buildS, x_buildE, ↓x_P0, ↓x_P1, x_fill0, x_filli, x_fills, x_fillb, c_int, List.length_cons, List.length_nil, List.cons_append, List.drop_succ_cons, List.drop_zero, List.drop_nil, List.nil_append, Int.reduceAdd, Int.reduceToNat, Int.reduceLT, Int.reduceLE, Nat.reduceAdd, Nat.reduceMul, Nat.reduceLeDiff, Int.reduceEq, Int.reduceSub, Int.cast_ofNat_Int, s_resc, s_consR, m_load4, m_store4, s_res0, ↓s_skip, ↓s_ops, ↓s_dops, ↓s_seq, ↓s_cond, ↓s_block, ↓s_exit, ↓s_ret, ↓s_scope, ↓s_nil, ↓s_op, ↓s_opg, ↓s_wanted', ↓s_wantV, s_wantV, s_wantV0, beq_true, beq_false, ↓s_bindS, s_bindS, ↓s_bindE, s_bindE, s_bindE_ret, s_bindE_exit, s_bindE_iteN, s_norm, ↓s_condV, s_condV, s_block_ret, s_block_normal, s_block_exit, s_block_iteN, ↓s_getp, ↓s_getp0, ↓s_get, s_get0, ↓s_con, ↓s_fn, ↓s_os0, ↓s_os1, ↓s_list0, ↓s_list1, ↓s_mov, ↓s_pick, ↓s_pickE, s_pickE, ↓s_bin, ↓s_un, ↓s_minmax, ↓s_call, ↓s_callv, ↓s_callV, ↓s_ext, s_same, b_eql, b_neq, b_lss, b_leq, b_gtr, b_geq, b_add, b_sub, b_mul, b_eqlb, b_neqb, b_fnil, b_fnil', b_fnil2, b_fnil2', u_neg, u_not, m_two, s_end, s_end', s_end_iteN, s_res0, s_res1, s_tup1, s_tup2, ↓iteN_true, ↓iteN_false, iteN_true, iteN_false, Nat.zero_add, List.nil_append, List.append_nil, Nat.reduceEqDiff, reduceIte, decide_true, decide_false, Bool.not_true, Bool.not_false, List.getElem?_cons_zero, List.getElem?_cons_succ, Bool.false_eq_true, if_true, if_false, beq_self_eq_true]
    try rfl
  · have hne : b ≠ [] := fun h => by rw [h] at c1; simp at c1
    obtain rfl := hc hne
    obtain rfl : ez = 1 := by
      rcases src with s | ⟨_, _, _, _, _, f2, _⟩
      · exact absurd s hne
      · exact f2
    have d1 : decide ((b.length : Int) < 9) = false := decide_eq_false (by omega)
    have sv : slcV 1 none (some (.int .i64 9)) none (.slice a b.length none 1) = some (.slice a 9 none 1) := slcV_hiA b.length 9 a .i64 (by omega)
    have l9 : (b.take 9).length = 9 := by rw [List.length_take]; omega
    obtain ⟨h1, a1, c1', e1, r1, nw1⟩ := cbare_go e x M (b.take 9) (byt_take bb _) (by omega) hM a h (src.take 9)
    rw [l9] at r1
    have r0 : rhOk b = decide (barE (b.take 9) = 0) := by unfold rhOk; rw [decide_eq_true (by omega), Bool.true_and]
    rw [r0]
    by_cases c2 : barE (b.take 9) = 0
    · rw [decide_eq_true c2, if_pos rfl, if_pos rfl, Bool.true_and]
      have eb : barB (b.take 9) = b.take 5 := by unfold barB; rw [if_pos c2, l9, List.take_take]; rfl
      rw [c2, eb] at r1
      rw [eb] at nw1
      have l5 : (b.take 5).length = 5 := by rw [List.length_take]; omega
      rw [l5] at r1
      have b5 : byt (b.take 5) = true := byt_take bb _
      obtain ⟨h2, p, ae, r2, k2, p2, y2, _⟩ := look_go e.lk x.lk (M + 19) (b.take 5) (by omega) a1 c1' e1 h1 nw1.wb.src
      rw [l5] at r2
      obtain ⟨h3, r3, k3, y3⟩ := eyfix_go e.ey x.ey (M + 8) p 1 (b.take 5) b5 (by omega) 0 ae h2 y2
      have g0 : numV ((b.take 5).take 1) = b.getD 0 0 := by
        match b, hne with
        | y :: r, _ => show numV [y] = y; show 0 * 256 + y = y; omega
      have f1 : eyFix 1 (b.take 5) 0 = (b.getD 0 0, 0, 1) := by
        unfold eyFix
        rw [if_pos (by rfl), if_pos (by show 0 + 1 ≤ _; omega), List.drop_zero]
        show (numV ((b.take 5).take 1), 0, 0 + 1) = _
        rw [g0]
      rw [f1] at r3 y3
      simp only at r3 y3
      obtain ⟨h4, r4, k4, y4⟩ := eyfix_go e.ey x.ey (M + 8) p 4 (b.take 5) b5 (by omega) 1 ae h3 y3
      have g4 : ((b.take 5).drop 1).take 4 = (b.drop 1).take 4 := by
        rw [List.drop_take]
        rw [List.take_take]; rfl
      have f2 : eyFix 4 (b.take 5) 1 = (numV ((b.drop 1).take 4), 0, 5) := by
        unfold eyFix
        rw [if_pos (by rfl), if_pos (by show 1 + 4 ≤ _; omega)]
        show (numV (((b.take 5).drop 1).take 4), 0, 1 + 4) = _
        rw [g4]
      rw [f2] at r4 y4
      simp only at r4 y4
      have lt4 : numV ((b.drop 1).take 4) < 4294967296 := by
        have := numV_lt ((b.drop 1).take 4) (byt_take (byt_drop bb _) _)
        have l4 : ((b.drop 1).take 4).length = 4 := by rw [List.length_take, List.length_drop]; omega
        rw [l4] at this; exact this
      have lt0 : b.getD 0 0 < 256 := by
        rw [List.getD_eq_getElem?_getD]
        cases hh : b[0]? with
        | none => decide
        | some x => exact byt_iff.1 bb x (List.mem_of_getElem? hh)
      obtain ⟨y, ey⟩ : ∃ y, b.getD 0 0 = y := ⟨_, rfl⟩
      obtain ⟨n, en⟩ : ∃ y, numV ((b.drop 1).take 4) = y := ⟨_, rfl⟩
      rw [ey] at r3 lt0 ⊢
      rw [en] at r4 lt4 ⊢
      have w1 : wr .i64 (y : Int) = (y : Int) := wr_i64 (by omega)
      have w2 : wr .i64 (n : Int) = (n : Int) := wr_i64 (by omega)
      have z0 : decide ((0 : Int) = 0) = true := rfl
      have d3 : decide ((n : Int) ≤ 200000) = decide (n ≤ 200000) := by rw [decide_eq_decide]; omega
      refine ⟨h4, ?_, ⟨by have := nw1.kp.1; have := k2.1; have := k3.1; have := k4.1; omega, fun j hj => ?_⟩⟩
      · generalize decide (n ≤ 200000) = q at *
        generalize b.length = bl at *
        replace r1 : callX E X (M + 20) (.fn k_crc_Bare) [.slice a 9 none 1] h = some (.tup [.slice a1 5 c1' e1, .int .i64 0], h1) := r1
        replace r2 : callX E X (M + 20) (.fn k_octet_Look) [.slice a1 5 c1' e1] h1 = some (.ptr (some (p, 0)), h2) := r2
        replace r3 : callX E X (M + 20) (.fn k_octet_Eye_Fixed) [.ptr (some (p, 0)), .int .i64 1] h2 = some (.tup [.int .u64 (y : Int), .int .i64 0], h3) := r3
        replace r4 : callX E X (M + 20) (.fn k_octet_Eye_Fixed) [.ptr (some (p, 0)), .int .i64 4] h3 = some (.tup [.int .u64 (n : Int), .int .i64 0], h4) := r4
        simp (config := {maxSteps := 2000000}) (disch := first | omega | (simp only [List.length_cons, List.length_nil, List.length_append, List.length_drop]; omega)) only [d1, sv, r1, z0, r2, r3, r4, w1, w2, d3, Bool.not_true, ↓x_slcS, x_M0, x_M1, ↓s_len, x_lenS, ↓b_xor32, ↓b_and32, ↓b_or32, ↓u_not32, b_xor32, b_and32, b_or32, u_not32, w32ad, ↓x_conv, x_convV, ↓x_fieldAddr, x_fieldV, ↓s_nilchk, x_nilchk, Nat.zero_add, Nat.add_zero, Nat.mul_one, ↓s_evD, ↓s_dnil, ↓s_dL, ↓s_dLg, ↓s_dR, ↓s_dRg, ↓s_dRj, ↓s_dRjg, ↓s_dB, ↓s_dBg, ↓s_dAlloc, ↓s_bindD, s_bindD, s_finD, s_finDx, s_addP0, s_addP1, s_addB, s_lookP, ↓s_bump0, ↓s_bump_get, s_bump_next, s_ok0, ↓s_ok1, s_okR0, ↓s_okR1, ↓s_okE, s_okE, s_okE1, s_nth0, s_nthS, Nat.add_zero, Bool.and_self, Bool.and_true, Bool.true_and, ↓l_loop, ↓l_succ, ↓l_normal, l_normal, l_exit, l_ret, l_iteN, ↓h_put_get, ↓h_new_get, ↓h_del_get, h_next_put, h_next_new, h_next_del, Nat.add_assoc, Nat.add_eq_left, Nat.left_eq_add, Nat.add_left_cancel_iff, ↓s_load, m_load, ↓m_load1, m_load1, ↓m_st, m_stE, m_storeI, m_storeE, w_zero, w_succ, ↓s_alloc, ↓x_idxA, ↓x_idxS, x_idxAE, x_idxSE, x_addrE, x_idx, x_lenS, ↓s_len, ↓x_buildS, x_buildE, ↓x_P0, ↓x_P1, x_fill0, x_filli, x_fills, x_fillb, c_int, List.length_cons, List.length_nil, List.cons_append, List.drop_succ_cons, List.drop_zero, List.drop_nil, List.nil_append, Int.reduceAdd, Int.reduceToNat, Int.reduceLT, Int.reduceLE, Nat.reduceAdd, Nat.reduceMul, Nat.reduceLeDiff, Int.reduceEq, Int.reduceSub, Int.cast_ofNat_Int, s_resc, s_consR, m_load4, m_store4, s_res0, ↓s_skip, ↓s_ops, ↓s_dops, ↓s_seq, ↓s_cond, ↓s_block, ↓s_exit, ↓s_ret, ↓s_scope, ↓s_nil, ↓s_op, ↓s_opg, ↓s_wanted', ↓s_wantV, s_wantV, s_wantV0, beq_true, beq_false, ↓s_bindS, s_bindS, ↓s_bindE, s_bindE, s_bindE_ret, s_bindE_exit, s_bindE_iteN, s_norm, ↓s_condV, s_condV, s_block_ret, s_block_normal, s_block_exit, s_block_iteN, ↓s_getp, ↓s_getp0, ↓s_get, s_get0, ↓s_con, ↓s_fn, ↓s_os0, ↓s_os1, ↓s_list0, ↓s_list1, ↓s_mov, ↓s_pick, ↓s_pickE, s_pickE, ↓s_bin, ↓s_un, ↓s_minmax, ↓s_call, ↓s_callv, ↓s_callV, ↓s_ext, s_same, b_eql, b_neq, b_lss, b_leq, b_gtr, b_geq, b_add, b_sub, b_mul, b_eqlb, b_neqb, b_fnil, b_fnil', b_fnil2, b_fnil2', u_neg, u_not, m_two, s_end, s_end', s_end_iteN, s_res0, s_res1, s_tup1, s_tup2, ↓iteN_true, ↓iteN_false, iteN_true, iteN_false, Nat.zero_add, List.nil_append, List.append_nil, Nat.reduceEqDiff, reduceIte, decide_true, decide_false, Bool.not_true, Bool.not_false, List.getElem?_cons_zero, List.getElem?_cons_succ, Bool.false_eq_true, if_true, if_false, beq_self_eq_true]
        try rfl
      · have := nw1.kp.1
        have := k2.1
        have := k3.1
        rw [k4.2 _ (by omega) (by omega), k3.2 _ (by omega) (by omega), k2.2 _ (by omega), nw1.kp.2 _ hj]
    · rw [decide_eq_false c2, if_neg (by simp), if_neg (by simp), Bool.false_and]
      have z0 : decide (((barE (b.take 9) : Nat) : Int) = 0) = false := decide_eq_false (by omega)
      refine ⟨h1, ?_, nw1.kp⟩
      generalize barE (b.take 9) = be at *
      generalize (barB (b.take 9)).length = bn at *
      generalize b.length = bl at *
      replace r1 : callX E X (M + 20) (.fn k_crc_Bare) [.slice a 9 none 1] h = some (.tup [.slice a1 bn c1' e1, .int .i64 (be : Int)], h1) := r1
      simp (config := {maxSteps := 2000000}) (disch := first | omega | (simp only [List.length_cons, List.length_nil, List.length_append, List.length_drop]; omega)) only [d1, sv, r1, z0, Bool.not_false, ↓x_slcS, x_M0, x_M1, ↓s_len, x_lenS, ↓b_xor32, ↓b_and32, ↓b_or32, ↓u_not32, b_xor32, b_and32, b_or32, u_not32, w32ad, ↓x_conv, x_convV, ↓x_fieldAddr, x_fieldV, ↓s_nilchk, x_nilchk, Nat.zero_add, Nat.add_zero, Nat.mul_one, ↓s_evD, ↓s_dnil, ↓s_dL, ↓s_dLg, ↓s_dR, ↓s_dRg, ↓s_dRj, ↓s_dRjg, ↓s_dB, ↓s_dBg, ↓s_dAlloc, ↓s_bindD, s_bindD, s_finD, s_finDx, s_addP0, s_addP1, s_addB, s_lookP, ↓s_bump0, ↓s_bump_get, s_bump_next, s_ok0, ↓s_ok1, s_okR0, ↓s_okR1, ↓s_okE, s_okE, s_okE1, s_nth0, s_nthS, Nat.add_zero, Bool.and_self, Bool.and_true, Bool.true_and, ↓l_loop, ↓l_succ, ↓l_normal, l_normal, l_exit, l_ret, l_iteN, ↓h_put_get, ↓h_new_get, ↓h_del_get, h_next_put, h_next_new, h_next_del, Nat.add_assoc, Nat.add_eq_left, Nat.left_eq_add, Nat.add_left_cancel_iff, ↓s_load, m_load, ↓m_load1, m_load1, ↓m_st, m_stE, m_storeI, m_storeE, w_zero, w_succ, ↓s_alloc, ↓x_idxA, ↓x_idxS, x_idxAE, x_idxSE, x_addrE, x_idx, x_lenS, ↓s_len, ↓x_buildS, x_buildE, ↓x_P0, ↓x_P1, x_fill0, x_filli, x_fills, x_fillb, c_int, List.length_cons, List.length_nil, List.cons_append, List.drop_succ_cons, List.drop_zero, List.drop_nil, List.nil_append, Int.reduceAdd, Int.reduceToNat, Int.reduceLT, Int.reduceLE, Nat.reduceAdd, Nat.reduceMul, Nat.reduceLeDiff, Int.reduceEq, Int.reduceSub, Int.cast_ofNat_Int, s_resc, s_consR, m_load4, m_store4, s_res0, ↓s_skip, ↓s_ops, ↓s_dops, ↓s_seq, ↓s_cond, ↓s_block, ↓s_exit, ↓s_ret, ↓s_scope, ↓s_nil, ↓s_op, ↓s_opg, ↓s_wanted', ↓s_wantV, s_wantV, s_wantV0, beq_true, beq_false, ↓s_bindS, s_bindS, ↓s_bindE, s_bindE, s_bindE_ret, s_bindE_exit, s_bindE_iteN, s_norm, ↓s_condV, s_condV, s_block_ret, s_block_normal, s_block_exit, s_block_iteN, ↓s_getp, ↓s_getp0, ↓s_get, s_get0, ↓s_con, ↓s_fn, ↓s_os0, ↓s_os1, ↓s_list0, ↓s_list1, ↓s_mov, ↓s_pick, ↓s_pickE, s_pickE, ↓s_bin, ↓s_un, ↓s_minmax, ↓s_call, ↓s_callv, ↓s_callV, ↓s_ext, s_same, b_eql, b_neq, b_lss, b_leq, b_gtr, b_geq, b_add, b_sub, b_mul, b_eqlb, b_neqb, b_fnil, b_fnil', b_fnil2, b_fnil2', u_neg, u_not, m_two, s_end, s_end', s_end_iteN, s_res0, s_res1, s_tup1, s_tup2, ↓iteN_true, ↓iteN_false, iteN_true, iteN_false, Nat.zero_add, List.nil_append, List.append_nil, Nat.reduceEqDiff, reduceIte, decide_true, decide_false, Bool.not_true, Bool.not_false, List.getElem?_cons_zero, List.getElem?_cons_succ, Bool.false_eq_true, if_true, if_false, beq_self_eq_true]
      try rfl
end Go.Eng
namespace Go.Eng
open Go
variable {E : Nat → Option Fn} {X : Orc}
set_option linter.unusedSimpArgs false
set_option linter.unusedVariables false
theorem st2i (h : H) (i : Nat) (x : Int) (a : Option (Nat × Nat)) (n : Nat) (c : Option Nat) (e : Nat) : storeV h 2 (.ptr (some (i, 0))) (.agg [.int .i64 x, .slice a n c e]) = storeE (h.get i) h i 0 [.int .i64 x, .slice a n c e] := m_storeA h 2 i 0 _ rfl
theorem st2ir (u v : V) (h : H) (i : Nat) (x : Int) (a : Option (Nat × Nat)) (n : Nat) (c : Option Nat) (e : Nat) : storeE (some (.cells [u, v] .rw)) h i 0 [.int .i64 x, .slice a n c e] = some (h.put i (.cells [.int .i64 x, .slice a n c e] .rw)) := m_storeE _ _ _ _ _ (by show 0 + 2 ≤ 2; omega)
theorem ld2 (u v : V) (m : Md) : loadE (some (.cells [u, v] m)) (some 2) 0 = some (.agg [u, v]) := rfl
theorem dc_no (b : List Nat) (h : rhV b = false ∨ b.length < 13 + numV ((b.drop 1).take 4)) : dcV b = none := by
  unfold dcV
  by_cases c1 : b.length < 13
  · rw [if_pos c1]
  rw [if_neg c1]
  by_cases c2 : barE (b.take 9) ≠ 0
  · rw [if_pos c2]
  rw [if_neg c2]
  by_cases c3 : 200000 < numV ((b.drop 1).take 4)
  · rw [if_pos c3]
  rw [if_neg c3]
  by_cases c4 : b.length < 13 + numV ((b.drop 1).take 4)
  · rw [if_pos c4]
  rcases h with h | h
  · unfold rhV rhOk at h
    rw [decide_eq_true (show 9 ≤ b.length by omega), decide_eq_true (Classical.not_not.1 c2), decide_eq_true (by omega)] at h
    cases h
  · exact absurd h c4
def dcR (E : Nat → Option Fn) (X : Orc) (N : Nat) (h : H) (v : V) (at_ : Nat) (h' : H) : Option (Rq × Nat) → Prop
  | none => callX E X N (.fn k_record_Decode) [v, .int .i64 (at_ : Int)] h = some (.tup [.agg [.int .i64 0, .slice none 0 (some 0) 0], .int .i64 0, .int .i64 160], h')
  | some (o, k) => ∃ a2 c2 e2, callX E X N (.fn k_record_Decode) [v, .int .i64 (at_ : Int)] h = some (.tup [.agg [.int .i64 o.kind, .slice a2 o.l.length c2 e2], .int .i64 ((at_ + k : Nat) : Int), .int .i64 0], h') ∧ Wb h' o.l a2 c2 e2 ∧ ∀ q z, a2 = some (q, z) → h.next < q
theorem decode_go (ed : E k_record_Decode = some f_record_Decode) (ef : E k_record_readHead = some f_record_readHead) (e : EnCm E) (x : NoCm X) (xd : ∀ a h, X (.fn k_record_Decode) a h = none) (xh : ∀ a h, X (.fn k_record_readHead) a h = none) (M : Nat) (hM : 50100 < M) (s : List Nat) (bs : byt s = true) (hs : s.length ≤ 50000) (at_ : Nat) (hat : at_ ≤ s.length) (a : Option (Nat × Nat)) (h : H) (src : SrcH h a 1 s) :
    ∃ h', Kp h h' ∧ dcR E X (M + 22) h (.slice a s.length none 1) at_ h' (dcV (s.drop at_)) := by
  obtain ⟨b, eb⟩ : ∃ b, s.drop at_ = b := ⟨_, rfl⟩
  have lb : b.length = s.length - at_ := by rw [← eb, List.length_drop]
  have bb : byt b = true := by rw [← eb]; exact byt_drop bs _
  rw [eb]
  obtain ⟨hA, eA⟩ : ∃ hA, h.new (.cells [.int .i64 0, .slice none 0 (some 0) 0] .rw) = hA := ⟨_, rfl⟩
  have kA : Kp h hA := by rw [← eA]; exact Kp.new _ _
  have nA : hA.next = h.next + 1 := by rw [← eA]; rfl
  have gA : hA.get h.next = some (.cells [.int .i64 0, .slice none 0 (some 0) 0] .rw) := by rw [← eA]; exact h_new_same _ _
  have c0 : decide ((at_ : Int) < 0) = false := decide_eq_false (by omega)
  have c1 : decide ((s.length : Int) < (at_ : Int)) = false := decide_eq_false (by omega)
  have sv : slcV 1 (some (.int .i64 (at_ : Int))) none none (.slice a s.length none 1) = some (.slice (upA a at_) (s.length - at_) none 1) := slcV_loA _ _ _ _ hat
  obtain ⟨hB, rB, kB⟩ := readHead_go ef e x xh M hM b bb (by omega) (upA a at_) none (fun _ => rfl) 1 hA (by rw [← eb]; exact (src.mono kA).drop at_)
  rw [lb] at rB
  have gB : hB.get h.next = some (.cells [.int .i64 0, .slice none 0 (some 0) 0] .rw) := by rw [kB.2 _ (by omega), gA]
  have kAB := kA.trans kB
  have kBn := kB.1
  obtain ⟨hF, eF⟩ : ∃ hF, hB.put h.next (.cells [.int .i64 0, .slice none 0 (some 0) 0] .rw) = hF := ⟨_, rfl⟩
  have kF : Kp h hF := by rw [← eF]; exact kAB.put _ (Nat.le_refl _)
  have gF : hF.get h.next = some (.cells [.int .i64 0, .slice none 0 (some 0) 0] .rw) := by rw [← eF]; exact h_put_same _ _ _
  cases hv : rhV b with
  | false =>
    rw [dc_no b (.inl hv)]
    refine ⟨hF, kF, ?_⟩
    show callX E X (M + 22) _ _ _ = _
    rw [x_cfn ed _ _ (Nat.le_of_ble_eq_true rfl) (xd _ _)]
    rw [hv] at rB
    generalize rhK b = rk at *
    generalize rhN b = rn at *
    generalize s.length - at_ = sd at *
    generalize s.length = sl at *
    simp (config := {maxSteps := 2000000}) (disch := first | omega | (simp only [List.length_cons, List.length_nil, List.length_append, List.length_drop]; omega)) only [eA, gA, c0, c1, sv, rB, gB, eF, gF, st2i, st2ir, ld2, x_build, x_aggO, x_P0, x_P1, x_fill0, x_fills, x_fillb, x_filli, ↓x_slcS, x_M0, x_M1, ↓s_len, x_lenS, ↓b_xor32, ↓b_and32, ↓b_or32, ↓u_not32, b_xor32, b_and32, b_or32, u_not32, w32ad, ↓x_conv, x_convV, ↓x_fieldAddr, x_fieldV, ↓s_nilchk, x_nilchk, Nat.zero_add, Nat.add_zero, Nat.mul_one, ↓s_evD, ↓s_dnil, ↓s_dL, ↓s_dLg, ↓s_dR, ↓s_dRg, ↓s_dRj, ↓s_dRjg, ↓s_dB, ↓s_dBg, ↓s_dAlloc, ↓s_bindD, s_bindD, s_finD, s_finDx, s_addP0, s_addP1, s_addB, s_lookP, ↓s_bump0, ↓s_bump_get, s_bump_next, s_ok0, ↓s_ok1, s_okR0, ↓s_okR1, ↓s_okE, s_okE, s_okE1, s_nth0, s_nthS, Nat.add_zero, Bool.and_self, Bool.and_true, Bool.true_and, ↓l_loop, ↓l_succ, ↓l_normal, l_normal, l_exit, l_ret, l_iteN, ↓h_put_get, ↓h_new_get, ↓h_del_get, h_next_put, h_next_new, h_next_del, Nat.add_assoc, Nat.add_eq_left, Nat.left_eq_add, Nat.add_left_cancel_iff, ↓s_load, m_load, ↓m_load1, m_load1, ↓m_st, m_stE, m_storeI, m_storeE, w_zero, w_succ, ↓s_alloc, ↓x_idxA, ↓x_idxS, x_idxAE, x_idxSE, x_addrE, x_idx, x_lenS, ↓s_len, ↓x_buildS, x_buildE, ↓x_P0, ↓x_P1, x_fill0, x_filli, x_fills, x_fillb, c_int, List.length_cons, List.length_nil, List.cons_append, List.drop_succ_cons, List.drop_zero, List.drop_nil, List.nil_append, Int.reduceAdd, Int.reduceToNat, Int.reduceLT, Int.reduceLE, Nat.reduceAdd, Nat.reduceMul, Nat.reduceLeDiff, Int.reduceEq, Int.reduceSub, Int.cast_ofNat_Int, s_resc, s_consR, m_load4, m_store4, s_res0, ↓s_skip, ↓s_ops, ↓s_dops, ↓s_seq, ↓s_cond, ↓s_block, ↓s_exit, ↓s_ret, ↓s_scope, ↓s_nil, ↓s_op, ↓s_opg, ↓s_wanted', ↓s_wantV, s_wantV, s_wantV0, beq_true, beq_false, ↓s_bindS, s_bindS, ↓s_bindE, s_bindE, s_bindE_ret, s_bindE_exit, s_bindE_iteN, s_norm, ↓s_condV, s_condV, s_block_ret, s_block_normal, s_block_exit, s_block_iteN, ↓s_getp, ↓s_getp0, ↓s_get, s_get0, ↓s_con, ↓s_fn, ↓s_os0, ↓s_os1, ↓s_list0, ↓s_list1, ↓s_mov, ↓s_pick, ↓s_pickE, s_pickE, ↓s_bin, ↓s_un, ↓s_minmax, ↓s_call, ↓s_callv, ↓s_callV, ↓s_ext, s_same, b_eql, b_neq, b_lss, b_leq, b_gtr, b_geq, b_add, b_sub, b_mul, b_eqlb, b_neqb, b_fnil, b_fnil', b_fnil2, b_fnil2', u_neg, u_not, m_two, s_end, s_end', s_end_iteN, s_res0, s_res1, s_tup1, s_tup2, ↓iteN_true, ↓iteN_false, iteN_true, iteN_false, Nat.zero_add, List.nil_append, List.append_nil, Nat.reduceEqDiff, reduceIte, decide_true, decide_false, Bool.not_true, Bool.not_false, List.getElem?_cons_zero, List.getElem?_cons_succ, Bool.false_eq_true, if_true, if_false, beq_self_eq_true]
    try rfl
  | true =>
    rw [hv] at rB
    have hok : rhOk b = true := by unfold rhV at hv; rw [Bool.and_eq_true] at hv; exact hv.1
    have hn2 : numV ((b.drop 1).take 4) ≤ 200000 := by unfold rhV at hv; rw [Bool.and_eq_true] at hv; exact of_decide_eq_true hv.2
    have h9 : 9 ≤ b.length ∧ barE (b.take 9) = 0 := by unfold rhOk at hok; rw [Bool.and_eq_true] at hok; exact ⟨of_decide_eq_true hok.1, of_decide_eq_true hok.2⟩
    have ek : rhK b = b.getD 0 0 := by unfold rhK; rw [if_pos hok]
    have en : rhN b = numV ((b.drop 1).take 4) := by unfold rhN; rw [if_pos hok]
    rw [ek, en] at rB
    obtain ⟨n, eN⟩ : ∃ n, numV ((b.drop 1).take 4) = n := ⟨_, rfl⟩
    have dn := dc_no b
    rw [eN] at dn rB hn2
    have w1 : wr .i64 ((at_ : Int) + 9) = ((at_ + 9 : Nat) : Int) := by rw [wr_i64 (by omega)]; omega
    have w2 : wr .i64 (((at_ + 9 : Nat) : Int) + (n : Int)) = ((at_ + 9 + n : Nat) : Int) := by rw [wr_i64 (by omega)]; omega
    have w3 : wr .i64 (((at_ + 9 + n : Nat) : Int) + 4) = ((at_ + (13 + n) : Nat) : Int) := by rw [wr_i64 (by omega)]; omega
    obtain ⟨F, eFF⟩ : ∃ F, at_ + 9 + n = F := ⟨_, rfl⟩
    obtain ⟨G, eG⟩ : ∃ F, at_ + (13 + n) = F := ⟨_, rfl⟩
    rw [eFF] at w2 w3
    rw [eG] at w3
    by_cases c4 : b.length < 13 + n
    · rw [dn (.inr c4)]
      refine ⟨hF, kF, ?_⟩
      show callX E X (M + 22) _ _ _ = _
      rw [x_cfn ed _ _ (Nat.le_of_ble_eq_true rfl) (xd _ _)]
      have d4 : decide ((s.length : Int) < (G : Int)) = true := decide_eq_true (by omega)
      generalize s.length - at_ = sd at *
      generalize s.length = sl at *
      generalize b.getD 0 0 = y at *
      simp (config := {maxSteps := 2000000}) (disch := first | omega | (simp only [List.length_cons, List.length_nil, List.length_append, List.length_drop]; omega)) only [eA, gA, c0, c1, sv, rB, gB, w1, w2, w3, d4, eF, gF, st2i, st2ir, ld2, x_build, x_aggO, x_P0, x_P1, x_fill0, x_fills, x_fillb, x_filli, Bool.not_true, ↓x_slcS, x_M0, x_M1, ↓s_len, x_lenS, ↓b_xor32, ↓b_and32, ↓b_or32, ↓u_not32, b_xor32, b_and32, b_or32, u_not32, w32ad, ↓x_conv, x_convV, ↓x_fieldAddr, x_fieldV, ↓s_nilchk, x_nilchk, Nat.zero_add, Nat.add_zero, Nat.mul_one, ↓s_evD, ↓s_dnil, ↓s_dL, ↓s_dLg, ↓s_dR, ↓s_dRg, ↓s_dRj, ↓s_dRjg, ↓s_dB, ↓s_dBg, ↓s_dAlloc, ↓s_bindD, s_bindD, s_finD, s_finDx, s_addP0, s_addP1, s_addB, s_lookP, ↓s_bump0, ↓s_bump_get, s_bump_next, s_ok0, ↓s_ok1, s_okR0, ↓s_okR1, ↓s_okE, s_okE, s_okE1, s_nth0, s_nthS, Nat.add_zero, Bool.and_self, Bool.and_true, Bool.true_and, ↓l_loop, ↓l_succ, ↓l_normal, l_normal, l_exit, l_ret, l_iteN, ↓h_put_get, ↓h_new_get, ↓h_del_get, h_next_put, h_next_new, h_next_del, Nat.add_assoc, Nat.add_eq_left, Nat.left_eq_add, Nat.add_left_cancel_iff, ↓s_load, m_load, ↓m_load1, m_load1, ↓m_st, m_stE, m_storeI, m_storeE, w_zero, w_succ, ↓s_alloc, ↓x_idxA, ↓x_idxS, x_idxAE, x_idxSE, x_addrE, x_idx, x_lenS, ↓s_len, ↓x_buildS, x_buildE, ↓x_P0, ↓x_P1, x_fill0, x_filli, x_fills, x_fillb, c_int, List.length_cons, List.length_nil, List.cons_append, List.drop_succ_cons, List.drop_zero, List.drop_nil, List.nil_append, Int.reduceAdd, Int.reduceToNat, Int.reduceLT, Int.reduceLE, Nat.reduceAdd, Nat.reduceMul, Nat.reduceLeDiff, Int.reduceEq, Int.reduceSub, Int.cast_ofNat_Int, s_resc, s_consR, m_load4, m_store4, s_res0, ↓s_skip, ↓s_ops, ↓s_dops, ↓s_seq, ↓s_cond, ↓s_block, ↓s_exit, ↓s_ret, ↓s_scope, ↓s_nil, ↓s_op, ↓s_opg, ↓s_wanted', ↓s_wantV, s_wantV, s_wantV0, beq_true, beq_false, ↓s_bindS, s_bindS, ↓s_bindE, s_bindE, s_bindE_ret, s_bindE_exit, s_bindE_iteN, s_norm, ↓s_condV, s_condV, s_block_ret, s_block_normal, s_block_exit, s_block_iteN, ↓s_getp, ↓s_getp0, ↓s_get, s_get0, ↓s_con, ↓s_fn, ↓s_os0, ↓s_os1, ↓s_list0, ↓s_list1, ↓s_mov, ↓s_pick, ↓s_pickE, s_pickE, ↓s_bin, ↓s_un, ↓s_minmax, ↓s_call, ↓s_callv, ↓s_callV, ↓s_ext, s_same, b_eql, b_neq, b_lss, b_leq, b_gtr, b_geq, b_add, b_sub, b_mul, b_eqlb, b_neqb, b_fnil, b_fnil', b_fnil2, b_fnil2', u_neg, u_not, m_two, s_end, s_end', s_end_iteN, s_res0, s_res1, s_tup1, s_tup2, ↓iteN_true, ↓iteN_false, iteN_true, iteN_false, Nat.zero_add, List.nil_append, List.append_nil, Nat.reduceEqDiff, reduceIte, decide_true, decide_false, Bool.not_true, Bool.not_false, List.getElem?_cons_zero, List.getElem?_cons_succ, Bool.false_eq_true, if_true, if_false, beq_self_eq_true]
      try rfl
    · have d4 : decide ((s.length : Int) < (G : Int)) = false := decide_eq_false (by omega)
      have em : (s.drop (at_ + 9)).take (n + 4) = (b.drop 9).take (n + 4) := by rw [← eb, List.drop_drop]
      have lm : ((b.drop 9).take (n + 4)).length = n + 4 := by rw [List.length_take, List.length_drop]; omega
      have sv2 : slcV 1 (some (.int .i64 ((at_ + 9 : Nat) : Int))) (some (.int .i64 (G : Int))) none (.slice a s.length none 1) = some (.slice (upA a (at_ + 9)) (G - (at_ + 9)) none 1) := slcV_lhA _ _ _ _ _ _ (by omega) (by omega)
      rw [show G - (at_ + 9) = n + 4 by omega] at sv2
      have sm := (((src.mono kAB).drop (at_ + 9)).take (n + 4))
      rw [em] at sm
      obtain ⟨hC, a3, c3, e3, rC, nwC⟩ := cbare_go e x (M + 1) ((b.drop 9).take (n + 4)) (byt_take (byt_drop bb _) _) (by omega) (by omega) (upA a (at_ + 9)) hB sm
      rw [lm] at rC
      have kC := nwC.kp
      have kCn := kC.1
      have gC : hC.get h.next = some (.cells [.int .i64 0, .slice none 0 (some 0) 0] .rw) := by rw [kC.2 _ (by omega), gB]
      have dv : dcV b = if barE ((b.drop 9).take (n + 4)) ≠ 0 then none else some (⟨(b.getD 0 0 : Nat), (b.drop 9).take n⟩, 13 + n) := by
        unfold dcV
        rw [eN, if_neg (by omega), if_neg (fun h => h h9.2), if_neg (by omega), if_neg c4]
      rw [dv]
      replace rC : callX E X (M + 21) (.fn k_crc_Bare) [.slice (upA a (at_ + 9)) (n + 4) none 1] hB = _ := rC
      by_cases c5 : barE ((b.drop 9).take (n + 4)) = 0
      · rw [if_neg (fun h => h c5)]
        have ebar : barB ((b.drop 9).take (n + 4)) = (b.drop 9).take n := by unfold barB; rw [if_pos c5, lm, Nat.add_sub_cancel, List.take_take, Nat.min_eq_left (by omega)]
        rw [ebar] at nwC rC
        rw [c5] at rC
        have ln : ((b.drop 9).take n).length = n := by rw [List.length_take, List.length_drop]; omega
        rw [ln] at rC
        obtain ⟨hG, eHG⟩ : ∃ hG, hC.put h.next (.cells [.int .i64 (b.getD 0 0 : Nat), .slice a3 n c3 e3] .rw) = hG := ⟨_, rfl⟩
        have gG : hG.get h.next = some (.cells [.int .i64 (b.getD 0 0 : Nat), .slice a3 n c3 e3] .rw) := by rw [← eHG]; exact h_put_same _ _ _
        have ge : ∀ q z, a3 = some (q, z) → h.next < q := fun q z e => by have := nwC.ge q z e; omega
        refine ⟨hG, by rw [← eHG]; exact (kAB.trans kC).put _ (Nat.le_refl _), a3, c3, e3, ?_, nwC.wb.mono (by rw [← eHG]; exact Nat.le_refl _) (fun q hq e => by rw [← eHG, h_put_ne _ _ (by have := ge q 0 e; omega)]), ge⟩
        rw [x_cfn ed _ _ (Nat.le_of_ble_eq_true rfl) (xd _ _)]
        simp only
        rw [ln]
        have z0 : decide ((0 : Int) = 0) = true := rfl
        show _ = some (V.tup [.agg [.int .i64 ((b.getD 0 0 : Nat) : Int), .slice a3 n c3 e3], .int .i64 ((at_ + (13 + n) : Nat) : Int), .int .i64 0], hG)
        rw [eG]
        generalize s.length - at_ = sd at *
        generalize s.length = sl at *
        generalize b.getD 0 0 = y at *
        generalize n + 4 = n4 at *
        generalize upA a (at_ + 9) = ua at *
        simp (config := {maxSteps := 2000000}) (disch := first | omega | (simp only [List.length_cons, List.length_nil, List.length_append, List.length_drop]; omega)) only [eA, gA, c0, c1, sv, rB, gB, w1, w2, w3, d4, sv2, rC, gC, z0, eHG, gG, st2i, st2ir, ld2, x_build, x_aggO, x_P0, x_P1, x_fill0, x_fills, x_fillb, x_filli, Bool.not_true, ↓x_slcS, x_M0, x_M1, ↓s_len, x_lenS, ↓b_xor32, ↓b_and32, ↓b_or32, ↓u_not32, b_xor32, b_and32, b_or32, u_not32, w32ad, ↓x_conv, x_convV, ↓x_fieldAddr, x_fieldV, ↓s_nilchk, x_nilchk, Nat.zero_add, Nat.add_zero, Nat.mul_one, ↓s_evD, ↓s_dnil, ↓s_dL, ↓s_dLg, ↓s_dR, ↓s_dRg, ↓s_dRj, ↓s_dRjg, ↓s_dB, ↓s_dBg, ↓s_dAlloc, ↓s_bindD, s_bindD, s_finD, s_finDx, s_addP0, s_addP1, s_addB, s_lookP, ↓s_bump0, ↓s_bump_get, s_bump_next, s_ok0, ↓s_ok1, s_okR0, ↓s_okR1, ↓s_okE, s_okE, s_okE1, s_nth0, s_nthS, Nat.add_zero, Bool.and_self, Bool.and_true, Bool.true_and, ↓l_loop, ↓l_succ, ↓l_normal, l_normal, l_exit, l_ret, l_iteN, ↓h_put_get, ↓h_new_get, ↓h_del_get, h_next_put, h_next_new, h_next_del, Nat.add_assoc, Nat.add_eq_left, Nat.left_eq_add, Nat.add_left_cancel_iff, ↓s_load, m_load, ↓m_load1, m_load1, ↓m_st, m_stE, m_storeI, m_storeE, w_zero, w_succ, ↓s_alloc, ↓x_idxA, ↓x_idxS, x_idxAE, x_idxSE, x_addrE, x_idx, x_lenS, ↓s_len, ↓x_buildS, x_buildE, ↓x_P0, ↓x_P1, x_fill0, x_filli, x_fills, x_fillb, c_int, List.length_cons, List.length_nil, List.cons_append, List.drop_succ_cons, List.drop_zero, List.drop_nil, List.nil_append, Int.reduceAdd, Int.reduceToNat, Int.reduceLT, Int.reduceLE, Nat.reduceAdd, Nat.reduceMul, Nat.reduceLeDiff, Int.reduceEq, Int.reduceSub, Int.cast_ofNat_Int, s_resc, s_consR, m_load4, m_store4, s_res0, ↓s_skip, ↓s_ops, ↓s_dops, ↓s_seq, ↓s_cond, ↓s_block, ↓s_exit, ↓s_ret, ↓s_scope, ↓s_nil, ↓s_op, ↓s_opg, ↓s_wanted', ↓s_wantV, s_wantV, s_wantV0, beq_true, beq_false, ↓s_bindS, s_bindS, ↓s_bindE, s_bindE, s_bindE_ret, s_bindE_exit, s_bindE_iteN, s_norm, ↓s_condV, s_condV, s_block_ret, s_block_normal, s_block_exit, s_block_iteN, ↓s_getp, ↓s_getp0, ↓s_get, s_get0, ↓s_con, ↓s_fn, ↓s_os0, ↓s_os1, ↓s_list0, ↓s_list1, ↓s_mov, ↓s_pick, ↓s_pickE, s_pickE, ↓s_bin, ↓s_un, ↓s_minmax, ↓s_call, ↓s_callv, ↓s_callV, ↓s_ext, s_same, b_eql, b_neq, b_lss, b_leq, b_gtr, b_geq, b_add, b_sub, b_mul, b_eqlb, b_neqb, b_fnil, b_fnil', b_fnil2, b_fnil2', u_neg, u_not, m_two, s_end, s_end', s_end_iteN, s_res0, s_res1, s_tup1, s_tup2, ↓iteN_true, ↓iteN_false, iteN_true, iteN_false, Nat.zero_add, List.nil_append, List.append_nil, Nat.reduceEqDiff, reduceIte, decide_true, decide_false, Bool.not_true, Bool.not_false, List.getElem?_cons_zero, List.getElem?_cons_succ, Bool.false_eq_true, if_true, if_false, beq_self_eq_true]
        try rfl
      · rw [if_pos c5]
        obtain ⟨hG, eHG⟩ : ∃ hG, hC.put h.next (.cells [.int .i64 0, .slice none 0 (some 0) 0] .rw) = hG := ⟨_, rfl⟩
        have gG : hG.get h.next = some (.cells [.int .i64 0, .slice none 0 (some 0) 0] .rw) := by rw [← eHG]; exact h_put_same _ _ _
        refine ⟨hG, by rw [← eHG]; exact (kAB.trans kC).put _ (Nat.le_refl _), ?_⟩
        show callX E X (M + 22) _ _ _ = _
        rw [x_cfn ed _ _ (Nat.le_of_ble_eq_true rfl) (xd _ _)]
        have z0 : decide (((barE ((b.drop 9).take (n + 4)) : Nat) : Int) = 0) = false := decide_eq_false (by omega)
        generalize barE ((b.drop 9).take (n + 4)) = be at *
        generalize (barB ((b.drop 9).take (n + 4))).length = bl at *
        generalize s.length - at_ = sd at *
        generalize s.length = sl at *
        generalize b.getD 0 0 = y at *
        generalize n + 4 = n4 at *
        generalize upA a (at_ + 9) = ua at *
        simp (config := {maxSteps := 2000000}) (disch := first | omega | (simp only [List.length_cons, List.length_nil, List.length_append, List.length_drop]; omega)) only [eA, gA, c0, c1, sv, rB, gB, w1, w2, w3, d4, sv2, rC, gC, z0, eHG, gG, st2i, st2ir, ld2, x_build, x_aggO, x_P0, x_P1, x_fill0, x_fills, x_fillb, x_filli, Bool.not_true, Bool.not_false, ↓x_slcS, x_M0, x_M1, ↓s_len, x_lenS, ↓b_xor32, ↓b_and32, ↓b_or32, ↓u_not32, b_xor32, b_and32, b_or32, u_not32, w32ad, ↓x_conv, x_convV, ↓x_fieldAddr, x_fieldV, ↓s_nilchk, x_nilchk, Nat.zero_add, Nat.add_zero, Nat.mul_one, ↓s_evD, ↓s_dnil, ↓s_dL, ↓s_dLg, ↓s_dR, ↓s_dRg, ↓s_dRj, ↓s_dRjg, ↓s_dB, ↓s_dBg, ↓s_dAlloc, ↓s_bindD, s_bindD, s_finD, s_finDx, s_addP0, s_addP1, s_addB, s_lookP, ↓s_bump0, ↓s_bump_get, s_bump_next, s_ok0, ↓s_ok1, s_okR0, ↓s_okR1, ↓s_okE, s_okE, s_okE1, s_nth0, s_nthS, Nat.add_zero, Bool.and_self, Bool.and_true, Bool.true_and, ↓l_loop, ↓l_succ, ↓l_normal, l_normal, l_exit, l_ret, l_iteN, ↓h_put_get, ↓h_new_get, ↓h_del_get, h_next_put, h_next_new, h_next_del, Nat.add_assoc, Nat.add_eq_left, Nat.left_eq_add, Nat.add_left_cancel_iff, ↓s_load, m_load, ↓m_load1, m_load1, ↓m_st, m_stE, m_storeI, m_storeE, w_zero, w_succ, ↓s_alloc, ↓x_idxA, ↓x_idxS, x_idxAE, x_idxSE, x_addrE, x_idx, x_lenS, ↓s_len, ↓x_buildS, x_buildE, ↓x_P0, ↓x_P1, x_fill0, x_filli, x_fills, x_fillb, c_int, List.length_cons, List.length_nil, List.cons_append, List.drop_succ_cons, List.drop_zero, List.drop_nil, List.nil_append, Int.reduceAdd, Int.reduceToNat, Int.reduceLT, Int.reduceLE, Nat.reduceAdd, Nat.reduceMul, Nat.reduceLeDiff, Int.reduceEq, Int.reduceSub, Int.cast_ofNat_Int, s_resc, s_consR, m_load4, m_store4, s_res0, ↓s_skip, ↓s_ops, ↓s_dops, ↓s_seq, ↓s_cond, ↓s_block, ↓s_exit, ↓s_ret, ↓s_scope, ↓s_nil, ↓s_op, ↓s_opg, ↓s_wanted', ↓s_wantV, s_wantV, s_wantV0, beq_true, beq_false, ↓s_bindS, s_bindS, ↓s_bindE, s_bindE, s_bindE_ret, s_bindE_exit, s_bindE_iteN, s_norm, ↓s_condV, s_condV, s_block_ret, s_block_normal, s_block_exit, s_block_iteN, ↓s_getp, ↓s_getp0, ↓s_get, s_get0, ↓s_con, ↓s_fn, ↓s_os0, ↓s_os1, ↓s_list0, ↓s_list1, ↓s_mov, ↓s_pick, ↓s_pickE, s_pickE, ↓s_bin, ↓s_un, ↓s_minmax, ↓s_call, ↓s_callv, ↓s_callV, ↓s_ext, s_same, b_eql, b_neq, b_lss, b_leq, b_gtr, b_geq, b_add, b_sub, b_mul, b_eqlb, b_neqb, b_fnil, b_fnil', b_fnil2, b_fnil2', u_neg, u_not, m_two, s_end, s_end', s_end_iteN, s_res0, s_res1, s_tup1, s_tup2, ↓iteN_true, ↓iteN_false, iteN_true, iteN_false, Nat.zero_add, List.nil_append, List.append_nil, Nat.reduceEqDiff, reduceIte, decide_true, decide_false, Bool.not_true, Bool.not_false, List.getElem?_cons_zero, List.getElem?_cons_succ, Bool.false_eq_true, if_true, if_false, beq_self_eq_true]
        try rfl
end Go.Eng
namespace Go.Eng
open Go
variable {E : Nat → Option Fn} {X : Orc}
set_option linter.unusedSimpArgs false
set_option linter.unusedVariables false
/-- a slice of bytes that may be cut -/
structure SB (s : List Nat) (a : Option (Nat × Nat)) (c : Option Nat) (ez : Nat) : Prop where
  hc : s ≠ [] → c = none
  hz : s = [] → ez = 1 ∨ a = none
theorem SB.one (s : List Nat) (a : Option (Nat × Nat)) : SB s a none 1 := ⟨fun _ => rfl, fun _ => .inl rfl⟩
theorem SB.of_wb {h : H} {s : List Nat} {a : Option (Nat × Nat)} {c : Option Nat} {e : Nat} (w : Wb h s a c e) : SB s a c e := by
  rcases w with ⟨h1, h2, _⟩ | ⟨h1, _, _, _, h3, _⟩
  · exact ⟨fun h => absurd h1 h, fun _ => .inr h2⟩
  · exact ⟨fun _ => h3, fun h => by rw [h] at h1; exact absurd h1 (by simp)⟩
theorem dc_nil : dcV [] = none := rfl
theorem slcV_lo0 (a : Option (Nat × Nat)) (c : Option Nat) (e : Nat) (he : e = 1 ∨ a = none) : slcV 1 (some (.int .i64 0)) none none (.slice a 0 c e) = some (.slice (upA a 0) 0 (subC c 0) 1) := by
  have : (Nat.beq e 1 || a.isNone) = true := by rcases he with rfl | rfl <;> simp
  unfold slcV
  simp only [this, _root_.cond_true, x_bnd0]
  have b : bnd (some (.int .i64 0)) 0 0 = some 0 := x_bnd .i64 0 0 0 (Nat.le_refl _)
  rw [b]
theorem decode0_go (ed : E k_record_Decode = some f_record_Decode) (ef : E k_record_readHead = some f_record_readHead) (e : EnCm E) (x : NoCm X) (xd : ∀ a h, X (.fn k_record_Decode) a h = none) (xh : ∀ a h, X (.fn k_record_readHead) a h = none) (M : Nat) (hM : 50100 < M) (a : Option (Nat × Nat)) (c : Option Nat) (ez : Nat) (hz : ez = 1 ∨ a = none) (h : H) :
    ∃ h', Kp h h' ∧ dcR E X (M + 22) h (.slice a 0 c ez) 0 h' none := by
  obtain ⟨hA, eA⟩ : ∃ hA, h.new (.cells [.int .i64 0, .slice none 0 (some 0) 0] .rw) = hA := ⟨_, rfl⟩
  have kA : Kp h hA := by rw [← eA]; exact Kp.new _ _
  have nA : hA.next = h.next + 1 := by rw [← eA]; rfl
  have gA : hA.get h.next = some (.cells [.int .i64 0, .slice none 0 (some 0) 0] .rw) := by rw [← eA]; exact h_new_same _ _
  obtain ⟨hB, rB, kB⟩ := readHead_go ef e x xh M hM [] rfl (by simp) (upA a 0) (subC c 0) (fun h => absurd rfl h) 1 hA (.inl rfl)
  have gB : hB.get h.next = some (.cells [.int .i64 0, .slice none 0 (some 0) 0] .rw) := by rw [kB.2 _ (by omega), gA]
  have kAB := kA.trans kB
  obtain ⟨hF, eF⟩ : ∃ hF, hB.put h.next (.cells [.int .i64 0, .slice none 0 (some 0) 0] .rw) = hF := ⟨_, rfl⟩
  have kF : Kp h hF := by rw [← eF]; exact kAB.put _ (Nat.le_refl _)
  have gF : hF.get h.next = some (.cells [.int .i64 0, .slice none 0 (some 0) 0] .rw) := by rw [← eF]; exact h_put_same _ _ _
  refine ⟨hF, kF, ?_⟩
  show callX E X (M + 22) _ [.slice a 0 c ez, .int .i64 0] _ = _
  rw [x_cfn ed _ _ (Nat.le_of_ble_eq_true rfl) (xd _ _)]
  have sv := slcV_lo0 a c ez hz
  have hv : rhV [] = false := rfl
  rw [hv] at rB
  have c0 : decide ((0 : Int) < 0) = false := rfl
  generalize rhK [] = rk at *
  generalize rhN [] = rn at *
  rw [List.length_nil] at rB
  simp (config := {maxSteps := 2000000}) (disch := first | omega | (simp only [List.length_cons, List.length_nil, List.length_append, List.length_drop]; omega)) only [eA, gA, c0, sv, rB, gB, eF, gF, st2i, st2ir, ld2, x_build, x_aggO, x_P0, x_P1, x_fill0, x_fills, x_fillb, x_filli, ↓x_slcS, x_M0, x_M1, ↓s_len, x_lenS, ↓b_xor32, ↓b_and32, ↓b_or32, ↓u_not32, b_xor32, b_and32, b_or32, u_not32, w32ad, ↓x_conv, x_convV, ↓x_fieldAddr, x_fieldV, ↓s_nilchk, x_nilchk, Nat.zero_add, Nat.add_zero, Nat.mul_one, ↓s_evD, ↓s_dnil, ↓s_dL, ↓s_dLg, ↓s_dR, ↓s_dRg, ↓s_dRj, ↓s_dRjg, ↓s_dB, ↓s_dBg, ↓s_dAlloc, ↓s_bindD, s_bindD, s_finD, s_finDx, s_addP0, s_addP1, s_addB, s_lookP, ↓s_bump0, ↓s_bump_get, s_bump_next, s_ok0, ↓s_ok1, s_okR0, ↓s_okR1, ↓s_okE, s_okE, s_okE1, s_nth0, s_nthS, Nat.add_zero, Bool.and_self, Bool.and_true, Bool.true_and, ↓l_loop, ↓l_succ, ↓l_normal, l_normal, l_exit, l_ret, l_iteN, ↓h_put_get, ↓h_new_get, ↓h_del_get, h_next_put, h_next_new, h_next_del, Nat.add_assoc, Nat.add_eq_left, Nat.left_eq_add, Nat.add_left_cancel_iff, ↓s_load, m_load, ↓m_load1, m_load1, ↓m_st, m_stE, m_storeI, m_storeE, w_zero, w_succ, ↓s_alloc, ↓x_idxA, ↓x_idxS, x_idxAE, x_idxSE, x_addrE, x_idx, x_lenS, ↓s_len, ↓x_buildS, x_buildE, ↓x_P0, ↓x_P1, x_fill0, x_filli, x_fills, x_fillb, c_int, List.length_cons, List.length_nil, List.cons_append, List.drop_succ_cons, List.drop_zero, List.drop_nil, List.nil_append, Int.reduceAdd, Int.reduceToNat, Int.reduceLT, Int.reduceLE, Nat.reduceAdd, Nat.reduceMul, Nat.reduceLeDiff, Int.reduceEq, Int.reduceSub, Int.cast_ofNat_Int, s_resc, s_consR, m_load4, m_store4, s_res0, ↓s_skip, ↓s_ops, ↓s_dops, ↓s_seq, ↓s_cond, ↓s_block, ↓s_exit, ↓s_ret, ↓s_scope, ↓s_nil, ↓s_op, ↓s_opg, ↓s_wanted', ↓s_wantV, s_wantV, s_wantV0, beq_true, beq_false, ↓s_bindS, s_bindS, ↓s_bindE, s_bindE, s_bindE_ret, s_bindE_exit, s_bindE_iteN, s_norm, ↓s_condV, s_condV, s_block_ret, s_block_normal, s_block_exit, s_block_iteN, ↓s_getp, ↓s_getp0, ↓s_get, s_get0, ↓s_con, ↓s_fn, ↓s_os0, ↓s_os1, ↓s_list0, ↓s_list1, ↓s_mov, ↓s_pick, ↓s_pickE, s_pickE, ↓s_bin, ↓s_un, ↓s_minmax, ↓s_call, ↓s_callv, ↓s_callV, ↓s_ext, s_same, b_eql, b_neq, b_lss, b_leq, b_gtr, b_geq, b_add, b_sub, b_mul, b_eqlb, b_neqb, b_fnil, b_fnil', b_fnil2, b_fnil2', u_neg, u_not, m_two, s_end, s_end', s_end_iteN, s_res0, s_res1, s_tup1, s_tup2, ↓iteN_true, ↓iteN_false, iteN_true, iteN_false, Nat.zero_add, List.nil_append, List.append_nil, Nat.reduceEqDiff, reduceIte, decide_true, decide_false, Bool.not_true, Bool.not_false, List.getElem?_cons_zero, List.getElem?_cons_succ, Bool.false_eq_true, if_true, if_false, beq_self_eq_true]
  try rfl
theorem decode_goB (ed : E k_record_Decode = some f_record_Decode) (ef : E k_record_readHead = some f_record_readHead) (e : EnCm E) (x : NoCm X) (xd : ∀ a h, X (.fn k_record_Decode) a h = none) (xh : ∀ a h, X (.fn k_record_readHead) a h = none) (M : Nat) (hM : 50100 < M) (s : List Nat) (bs : byt s = true) (hs : s.length ≤ 50000) (at_ : Nat) (hat : at_ ≤ s.length) (a : Option (Nat × Nat)) (c : Option Nat) (ez : Nat) (sb : SB s a c ez) (h : H) (src : SrcH h a ez s) :
    ∃ h', Kp h h' ∧ dcR E X (M + 22) h (.slice a s.length c ez) at_ h' (dcV (s.drop at_)) := by
  by_cases hn : s = []
  · subst hn
    obtain rfl : at_ = 0 := by simpa using hat
    rw [List.drop_nil, dc_nil]
    exact decode0_go ed ef e x xd xh M hM a c ez (sb.hz rfl) h
  · obtain rfl := sb.hc hn
    obtain rfl : ez = 1 := by
      rcases src with s | ⟨_, _, _, _, _, f2, _⟩
      · exact absurd s hn
      · exact f2
    exact decode_go ed ef e x xd xh M hM s bs hs at_ hat a h src
/-- a place that is none -/
theorem decode_bad (ed : E k_record_Decode = some f_record_Decode) (xd : ∀ a h, X (.fn k_record_Decode) a h = none) (N : Nat) (n : Nat) (at_ : Int) (hat : at_ < 0 ∨ (n : Int) < at_) (a : Option (Nat × Nat)) (c : Option Nat) (ez : Nat) (h : H) :
    ∃ h', Kp h h' ∧ callX E X (N + 2) (.fn k_record_Decode) [.slice a n c ez, .int .i64 at_] h = some (.tup [.agg [.int .i64 0, .slice none 0 (some 0) 0], .int .i64 0, .int .i64 160], h') := by
  obtain ⟨hA, eA⟩ : ∃ hA, h.new (.cells [.int .i64 0, .slice none 0 (some 0) 0] .rw) = hA := ⟨_, rfl⟩
  have kA : Kp h hA := by rw [← eA]; exact Kp.new _ _
  have gA : hA.get h.next = some (.cells [.int .i64 0, .slice none 0 (some 0) 0] .rw) := by rw [← eA]; exact h_new_same _ _
  obtain ⟨hF, eF⟩ : ∃ hF, hA.put h.next (.cells [.int .i64 0, .slice none 0 (some 0) 0] .rw) = hF := ⟨_, rfl⟩
  have kF : Kp h hF := by rw [← eF]; exact kA.put _ (Nat.le_refl _)
  have gF : hF.get h.next = some (.cells [.int .i64 0, .slice none 0 (some 0) 0] .rw) := by rw [← eF]; exact h_put_same _ _ _
  refine ⟨hF, kF, ?_⟩
  rw [x_cfn ed _ _ (Nat.le_of_ble_eq_true rfl) (xd _ _)]
  rcases hat with hat | hat
  · have c0 : decide (at_ < 0) = true := decide_eq_true hat
    simp (config := {maxSteps := 2000000}) (disch := first | omega | (simp only [List.length_cons, List.length_nil, List.length_append, List.length_drop]; omega)) only [eA, gA, c0, eF, gF, st2i, st2ir, ld2, x_build, x_aggO, x_P0, x_P1, x_fill0, x_fills, x_fillb, x_filli, ↓x_slcS, x_M0, x_M1, ↓s_len, x_lenS, ↓b_xor32, ↓b_and32, ↓b_or32, ↓u_not32, b_xor32, b_and32, b_or32, u_not32, w32ad, ↓x_conv, x_convV, ↓x_fieldAddr, x_fieldV, ↓s_nilchk, x_nilchk, Nat.zero_add, Nat.add_zero, Nat.mul_one, ↓s_evD, ↓s_dnil, ↓s_dL, ↓s_dLg, ↓s_dR, ↓s_dRg, ↓s_dRj, ↓s_dRjg, ↓s_dB, ↓s_dBg, ↓s_dAlloc, ↓s_bindD, s_bindD, s_finD, s_finDx, s_addP0, s_addP1, s_addB, s_lookP, ↓s_bump0, ↓s_bump_get, s_bump_next, s_ok0, ↓s_ok1, s_okR0, ↓s_okR1, ↓s_okE, s_okE, s_okE1, s_nth0, s_nthS, Nat.add_zero, Bool.and_self, Bool.and_true, Bool.true_and, ↓l_loop, ↓l_succ, ↓l_normal, l_normal, l_exit, l_ret, l_iteN, ↓h_put_get, ↓h_new_get, ↓h_del_get, h_next_put, h_next_new, h_next_del, Nat.add_assoc, Nat.add_eq_left, Nat.left_eq_add, Nat.add_left_cancel_iff, ↓s_load, m_load, ↓m_load1, m_load1, ↓m_st, m_stE, m_storeI, m_storeE, w_zero, w_succ, ↓s_alloc, ↓x_idxA, ↓x_idxS, x_idxAE, x_idxSE, x_addrE, x_idx, x_lenS, ↓s_len, ↓x_buildS, x_buildE, ↓x_P0, ↓x_P1, x_fill0, x_filli, x_fills, x_fillb, c_int, List.length_cons, List.length_nil, List.cons_append, List.drop_succ_cons, List.drop_zero, List.drop_nil, List.nil_append, Int.reduceAdd, Int.reduceToNat, Int.reduceLT, Int.reduceLE, Nat.reduceAdd, Nat.reduceMul, Nat.reduceLeDiff, Int.reduceEq, Int.reduceSub, Int.cast_ofNat_Int, s_resc, s_consR, m_load4, m_store4, s_res0, ↓s_skip, ↓s_ops, ↓s_dops, ↓s_seq, ↓s_cond, ↓s_block, ↓s_exit, ↓s_ret, ↓s_scope, ↓s_nil, ↓s_op, ↓s_opg, ↓s_wanted', ↓s_wantV, s_wantV, s_wantV0, beq_true, beq_false, ↓s_bindS, s_bindS, ↓s_bindE, s_bindE, s_bindE_ret, s_bindE_exit, s_bindE_iteN, s_norm, ↓s_condV, s_condV, s_block_ret, s_block_normal, s_block_exit, s_block_iteN, ↓s_getp, ↓s_getp0, ↓s_get, s_get0, ↓s_con, ↓s_fn, ↓s_os0, ↓s_os1, ↓s_list0, ↓s_list1, ↓s_mov, ↓s_pick, ↓s_pickE, s_pickE, ↓s_bin, ↓s_un, ↓s_minmax, ↓s_call, ↓s_callv, ↓s_callV, ↓s_ext, s_same, b_eql, b_neq, b_lss, b_leq, b_gtr, b_geq, b_add, b_sub, b_mul, b_eqlb, b_neqb, b_fnil, b_fnil', b_fnil2, b_fnil2', u_neg, u_not, m_two, s_end, s_end', s_end_iteN, s_res0, s_res1, s_tup1, s_tup2, ↓iteN_true, ↓iteN_false, iteN_true, iteN_false, Nat.zero_add, List.nil_append, List.append_nil, Nat.reduceEqDiff, reduceIte, decide_true, decide_false, Bool.not_true, Bool.not_false, List.getElem?_cons_zero, List.getElem?_cons_succ, Bool.false_eq_true, if_true, if_false, beq_self_eq_true]
    try rfl
  · have c0 : decide (at_ < 0) = false := decide_eq_false (by omega)
    have c1 : decide ((n : Int) < at_) = true := decide_eq_true hat
    simp (config := {maxSteps := 2000000}) (disch := first | omega | (simp only [List.length_cons, List.length_nil, List.length_append, List.length_drop]; omega)) only [eA, gA, c0, c1, eF, gF, st2i, st2ir, ld2, x_build, x_aggO, x_P0, x_P1, x_fill0, x_fills, x_fillb, x_filli, ↓x_slcS, x_M0, x_M1, ↓s_len, x_lenS, ↓b_xor32, ↓b_and32, ↓b_or32, ↓u_not32, b_xor32, b_and32, b_or32, u_not32, w32ad, ↓x_conv, x_convV, ↓x_fieldAddr, x_fieldV, ↓s_nilchk, x_nilchk, Nat.zero_add, Nat.add_zero, Nat.mul_one, ↓s_evD, ↓s_dnil, ↓s_dL, ↓s_dLg, ↓s_dR, ↓s_dRg, ↓s_dRj, ↓s_dRjg, ↓s_dB, ↓s_dBg, ↓s_dAlloc, ↓s_bindD, s_bindD, s_finD, s_finDx, s_addP0, s_addP1, s_addB, s_lookP, ↓s_bump0, ↓s_bump_get, s_bump_next, s_ok0, ↓s_ok1, s_okR0, ↓s_okR1, ↓s_okE, s_okE, s_okE1, s_nth0, s_nthS, Nat.add_zero, Bool.and_self, Bool.and_true, Bool.true_and, ↓l_loop, ↓l_succ, ↓l_normal, l_normal, l_exit, l_ret, l_iteN, ↓h_put_get, ↓h_new_get, ↓h_del_get, h_next_put, h_next_new, h_next_del, Nat.add_assoc, Nat.add_eq_left, Nat.left_eq_add, Nat.add_left_cancel_iff, ↓s_load, m_load, ↓m_load1, m_load1, ↓m_st, m_stE, m_storeI, m_storeE, w_zero, w_succ, ↓s_alloc, ↓x_idxA, ↓x_idxS, x_idxAE, x_idxSE, x_addrE, x_idx, x_lenS, ↓s_len, ↓x_buildS, x_buildE, ↓x_P0, ↓x_P1, x_fill0, x_filli, x_fills, x_fillb, c_int, List.length_cons, List.length_nil, List.cons_append, List.drop_succ_cons, List.drop_zero, List.drop_nil, List.nil_append, Int.reduceAdd, Int.reduceToNat, Int.reduceLT, Int.reduceLE, Nat.reduceAdd, Nat.reduceMul, Nat.reduceLeDiff, Int.reduceEq, Int.reduceSub, Int.cast_ofNat_Int, s_resc, s_consR, m_load4, m_store4, s_res0, ↓s_skip, ↓s_ops, ↓s_dops, ↓s_seq, ↓s_cond, ↓s_block, ↓s_exit, ↓s_ret, ↓s_scope, ↓s_nil, ↓s_op, ↓s_opg, ↓s_wanted', ↓s_wantV, s_wantV, s_wantV0, beq_true, beq_false, ↓s_bindS, s_bindS, ↓s_bindE, s_bindE, s_bindE_ret, s_bindE_exit, s_bindE_iteN, s_norm, ↓s_condV, s_condV, s_block_ret, s_block_normal, s_block_exit, s_block_iteN, ↓s_getp, ↓s_getp0, ↓s_get, s_get0, ↓s_con, ↓s_fn, ↓s_os0, ↓s_os1, ↓s_list0, ↓s_list1, ↓s_mov, ↓s_pick, ↓s_pickE, s_pickE, ↓s_bin, ↓s_un, ↓s_minmax, ↓s_call, ↓s_callv, ↓s_callV, ↓s_ext, s_same, b_eql, b_neq, b_lss, b_leq, b_gtr, b_geq, b_add, b_sub, b_mul, b_eqlb, b_neqb, b_fnil, b_fnil', b_fnil2, b_fnil2', u_neg, u_not, m_two, s_end, s_end', s_end_iteN, s_res0, s_res1, s_tup1, s_tup2, ↓iteN_true, ↓iteN_false, iteN_true, iteN_false, Nat.zero_add, List.nil_append, List.append_nil, Nat.reduceEqDiff, reduceIte, decide_true, decide_false, Bool.not_true, Bool.not_false, List.getElem?_cons_zero, List.getElem?_cons_succ, Bool.false_eq_true, if_true, if_false, beq_self_eq_true]
    try rfl
end Go.Eng
namespace Go.Eng
open Go
variable {E : Nat → Option Fn} {X : Orc}
set_option linter.unusedSimpArgs false
set_option linter.unusedVariables false
/-- a row of records that can be read -/
def RrS (h : H) (ops : List Rq) (a : Option (Nat × Nat)) (e : Nat) : Prop := ops = [] ∨ ∃ q off vs md, a = some (q, off) ∧ e = 2 ∧ q < h.next ∧ h.get q = some (.cells vs md) ∧ off + ops.length * 2 ≤ vs.length ∧ ∀ i o, ops[i]? = some o → ∃ b cb eb, (vs.drop (off + i * 2)).take 2 = [.int .i64 o.kind, .slice b o.l.length cb eb] ∧ SrcH h b eb o.l
theorem RrS.mono {h h' : H} {ops : List Rq} {a : Option (Nat × Nat)} {e : Nat} (r : RrS h ops a e) (k : Kp h h') : RrS h' ops a e := by
  rcases r with r | ⟨q, off, vs, md, e1, e2, hq, g, hl, at_⟩
  · exact .inl r
  · exact .inr ⟨q, off, vs, md, e1, e2, Nat.lt_of_lt_of_le hq k.1, by rw [k.2 _ hq, g], hl, fun i o ho => by
      obtain ⟨b, cb, eb, e3, s⟩ := at_ i o ho
      exact ⟨b, cb, eb, e3, s.mono k⟩⟩
theorem RrS.take {h : H} {ops : List Rq} {a : Option (Nat × Nat)} {e : Nat} (r : RrS h ops a e) (n : Nat) : RrS h (ops.take n) a e := by
  rcases r with r | ⟨q, off, vs, md, e1, e2, hq, g, hl, at_⟩
  · left; rw [r, List.take_nil]
  · refine .inr ⟨q, off, vs, md, e1, e2, hq, g, by rw [List.length_take]; omega, fun i o ho => at_ i o ?_⟩
    rw [List.getElem?_take] at ho
    by_cases hi : i < n
    · rw [if_pos hi] at ho; exact ho
    · rw [if_neg hi] at ho; cases ho
theorem RrS.drop {h : H} {ops : List Rq} {a : Option (Nat × Nat)} {e : Nat} (r : RrS h ops a e) (n : Nat) : RrS h (ops.drop n) (upA a (n * 2)) e := by
  rcases r with r | ⟨q, off, vs, md, e1, e2, hq, g, hl, at_⟩
  · left; rw [r, List.drop_nil]
  · by_cases hn : n ≤ ops.length
    · refine .inr ⟨q, off + n * 2, vs, md, by rw [e1]; rfl, e2, hq, g, by rw [List.length_drop]; omega, fun i o ho => ?_⟩
      rw [List.getElem?_drop] at ho
      obtain ⟨b, cb, eb, e3, s⟩ := at_ _ o ho
      exact ⟨b, cb, eb, by rw [show off + n * 2 + i * 2 = off + (n + i) * 2 by omega]; exact e3, s⟩
    · left; exact List.drop_eq_nil_of_le (by omega)
/-- records' bytes -/
def rB (ops : List Rq) : List Nat := (ops.map rqB).flatten
end Go.Eng
namespace Go.Eng
open Go
variable {E : Nat → Option Fn} {X : Orc}
set_option linter.unusedSimpArgs false
set_option linter.unusedVariables false
end Go.Eng
