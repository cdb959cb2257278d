/- What functions of the program come to: own work. -/
import Derived.Test.YtpgocblbihbfpaaDrB
namespace Go.Eng
open Go
variable {E : Nat → Option Fn} {X : Orc}
set_option linter.unusedSimpArgs false
set_option linter.unusedVariables false
/-! records -/
structure Rq where
  kind : Int
  l : List Nat
instance : DecidableEq Rq := fun a b => if h : a.kind = b.kind ∧ a.l = b.l then .isTrue (by cases a; cases b; simp_all) else .isFalse (fun e => h (by rw [e]; exact ⟨rfl, rfl⟩))
structure Rq.ok (o : Rq) : Prop where
  k0 : -9223372036854775808 ≤ o.kind
  k1 : o.kind < 9223372036854775808
  bl : byt o.l = true
def RqAt (h : H) (o : Rq) (p : List V) : Prop := ∃ a, p = [.int .i64 o.kind, .slice a o.l.length none 1] ∧ SrcH h a 1 o.l
/-- a row of records, as an argument -/
def RqsH (h : H) (a : Option (Nat × Nat)) (ops : List Rq) : Prop := ∃ parts, Al2 (RqAt h) ops parts ∧ (ops = [] ∨ ∃ k md, a = some (k, 0) ∧ k < h.next ∧ h.get k = some (.cells parts.flatten md))
def RqsR (ops : List Rq) (h : H) (vs : List V) : Prop := ∃ a, vs = [.slice a ops.length none 2] ∧ RqsH h a ops
theorem xs2 {α : Type} {xs : List α} (h : xs.length = 2) : ∃ a b, xs = [a, b] := by
  match xs, h with
  | [a, b], _ => exact ⟨a, b, rfl⟩
/-- may a record be -/
def rqOk (o : Rq) : Bool := decide (0 ≤ o.kind) && decide (o.kind ≤ 255) && decide (o.l.length ≤ 200000)
/-- what a mark makes of bytes -/
def mkB4 (l : List Nat) : List Nat := l ++ leN 4 (onV 0 l)
/-- a record's bytes -/
def rqB (o : Rq) : List Nat := mkB4 (o.kind.toNat :: leN 4 o.l.length) ++ mkB4 o.l
theorem mkB4_len (l : List Nat) : (mkB4 l).length = l.length + 4 := by unfold mkB4; rw [List.length_append, leN_len]
theorem rqB_len (o : Rq) : (rqB o).length = 13 + o.l.length := by
  unfold rqB; rw [List.length_append, mkB4_len, mkB4_len, List.length_cons, leN_len]; omega
section
variable {Hh : Type} {enc : TypeId × Value → Hh} {P : Program} {W : World} {spare : Nat → Bool} {held : Bool} {base : Nat}
theorem trod_rqs {t e eb : TypeId} {f0 f1 : Field} (ht : P.underlying t = some (.slice e)) (he : P.underlying e = some (.struct #[f0, f1])) (h0 : P.underlying f0.type = some (.int .i64)) (h1 : P.underlying f1.type = some (.slice eb)) (hb : P.underlying eb = some (.int .u8)) (hc : P.cellsOf eb = 1) (hce : P.cellsOf e = 2)
    {v : Value} {d : DataW Hh} {p : List MemPlace} (h : DataW.Trod enc P W base spare held t v d p) :
    ∃ ops : List Rq, (∀ o ∈ ops, o.ok) ∧ (P.bytesOf e = 32 → P.bytesOf eb = 1 → ∀ B, (∀ n ∈ d.weights P t, n ≤ B) → ops.length ≤ B ∧ ∀ o ∈ ops, o.l.length ≤ B) ∧ ∀ n, Rd (absD P (n + 4) t d) (RqsR ops) := by
  have one : ∀ (g : Nat) (cs : List Value) (x : DataW Hh × List MemPlace), DataW.trod enc P W base spare held g e cs = some x → ∃ o : Rq, (o.ok ∧ (P.bytesOf eb = 1 → ∀ B, (∀ n ∈ x.1.weights P e, n ≤ B) → o.l.length ≤ B)) ∧ ∀ n, Rd (absD P (n + 3) e x.1) (fun h vs => RqAt h o vs) := by
    intro g cs x hx
    obtain ⟨xs, m, _, rfl, _, hl, hf⟩ := DataW.trod_struct he hx
    obtain ⟨x0, x1, rfl⟩ := xs2 hl
    obtain ⟨k, _, e0, w0⟩ := DataW.trod_int h0 (hf 0 f0 rfl)
    obtain ⟨l, bl, wt, r3⟩ := trod_u8s' h1 hb hc (hf 1 f1 rfl)
    simp [Lit.wf, IntKind.min, IntKind.max, IntKind.signed, IntKind.bits] at w0
    refine ⟨⟨k, l⟩, ⟨⟨w0.1, by have := w0.2; show k < _; omega, bl⟩, fun h1' B hB => wt h1' B (fun m hm => hB m ?_)⟩, fun j => ?_⟩
    · show m ∈ DataW.weights P e (.agg [x0.1, x1.1])
      simp only [DataW.weights, he, List.map_cons, List.map_nil, DataW.weightsEach, List.mem_append]
      exact .inr (.inl hm)
    have hz := rd_struct (Hh := Hh) (j + 2) he [x0.1, x1.1] rfl (Rs := [_, _]) (.cons (by rw [e0]; exact rd_int (j + 1) h0 k) (.cons (r3 j) .nil))
    intro nx
    obtain ⟨vs, bls, n1, q1, q2, q3⟩ := hz nx
    refine ⟨vs, bls, n1, q1, q2, fun h hh => ?_⟩
    obtain ⟨parts, rfl, al⟩ := q3 h hh
    cases al with | cons a0 al => cases al with | cons a3 al =>
    cases al
    obtain ⟨a, e3, sr⟩ := a3
    exact ⟨a, by rw [a0, e3]; rfl, sr⟩
  obtain ⟨f, hf⟩ := h
  rcases DataW.trod_slice ht hf with ⟨_, hx⟩ | ⟨ad, len, cap, elems, rest, n, _, _, hx, _, _, _, hl, hi, _, _⟩
  · have hd : d = .nil := congrArg Prod.fst hx
    subst hd
    refine ⟨[], (fun o ho => by cases ho), (fun _ _ _ _ => ⟨Nat.zero_le _, fun o ho => by cases ho⟩), fun n nx => ?_⟩
    obtain ⟨vs, bl, n1, e1, l1, k1⟩ := rd_nil (Hh := Hh) (n + 3) ht nx
    exact ⟨vs, bl, n1, e1, l1, fun h hh => ⟨none, by rw [k1 h hh, hce]; rfl, [], .nil, .inl rfl⟩⟩
  · have hd : d = .slice (elems.map (·.1)) (rest.map (·.1)) := congrArg Prod.fst hx
    obtain ⟨ops, al⟩ := gather (p := fun (x : DataW Hh × List MemPlace) (o : Rq) => (o.ok ∧ (P.bytesOf eb = 1 → ∀ B, (∀ n ∈ x.1.weights P e, n ≤ B) → o.l.length ≤ B)) ∧ ∀ n, Rd (absD P (n + 3) e x.1) (fun h vs => RqAt h o vs)) elems (fun y hy => by
      obtain ⟨i, hi1, hi2⟩ := List.getElem_of_mem hy
      have hi3 : elems[i]? = some y := by rw [List.getElem?_eq_getElem hi1, hi2]
      have h4 := (hi i (by omega)).trans hi3
      simp only [Option.bind_eq_some_iff] at h4
      obtain ⟨cs, _, h5⟩ := h4
      exact one _ _ _ h5)
    refine ⟨ops, fun o ho => ?_, fun h32 hb1 B hB => ?_, fun n nx => ?_⟩
    · clear hl hi hx hd hf
      induction al with
      | nil => cases ho
      | cons h1 _ ih => rcases List.mem_cons.1 ho with rfl | ho
                        · exact h1.1.1
                        · exact ih ho
    · have hB' : ∀ n ∈ ((elems.map (·.1)).length + (rest.map (·.1)).length) * P.bytesOf e :: DataW.weightsAll P e (elems.map (·.1)), n ≤ B := by
        intro n hn
        apply hB n
        rw [hd]
        simp only [DataW.weights, ht, List.mem_cons, List.mem_append] at hn ⊢
        rcases hn with h | h
        · exact .inl h
        · exact .inr (.inl h)
      refine ⟨?_, fun o ho => ?_⟩
      · have := hB' _ (List.mem_cons_self ..)
        rw [h32, List.length_map, al.len] at this; omega
      · have hB2 : ∀ n ∈ DataW.weightsAll P e (elems.map (·.1)), n ≤ B := fun n hn => hB' n (List.mem_cons_of_mem _ hn)
        clear hl hi hx hd hf hB hB'
        induction al with
        | nil => cases ho
        | cons h1 _ ih =>
          simp only [List.map_cons, DataW.weightsAll, List.mem_append] at hB2
          rcases List.mem_cons.1 ho with rfl | ho
          · exact h1.1.2 hb1 B (fun n hn => hB2 n (.inl hn))
          · exact ih ho (fun n hn => hB2 n (.inr hn))
    · have al2 : Al2 (fun (dd : DataW Hh) R => Rd (absD P (n + 3) e dd) R) (elems.map (·.1)) (ops.map (fun o h vs => RqAt h o vs)) := by
        clear hl hi hx hd hf
        induction al with
        | nil => exact .nil
        | cons h1 _ ih => exact .cons (h1.2 n) ih
      obtain ⟨vs, bl, n1, e1, l1, k1⟩ := rd_slice (Hh := Hh) (n + 3) ht (elems.map (·.1)) (rest.map (·.1)) al2 nx
      rw [hd]
      refine ⟨vs, bl, n1, e1, l1, fun h hh => ?_⟩
      obtain ⟨ad2, parts, ev, al3, t⟩ := k1 h hh
      have le : (elems.map (·.1)).length = ops.length := by rw [List.length_map]; exact al.len
      refine ⟨ad2, by rw [ev, le, hce], parts, ?_, ?_⟩
      · have conv : ∀ (os : List Rq) (ps : List (List V)), Al2 (fun (R : H → List V → Prop) p => R h p) (os.map (fun o h vs => RqAt h o vs)) ps → Al2 (RqAt h) os ps := by
          intro os
          induction os with
          | nil => intro ps a; cases a; exact .nil
          | cons o os ih => intro ps a; cases a with | cons a1 a2 => exact .cons a1 (ih _ a2)
        exact conv _ _ al3
      · rcases t with t | ⟨k, t1, t2, t3⟩
        · left
          rw [t] at le
          exact List.length_eq_zero_iff.1 le.symm
        · exact .inr ⟨k, .ro, t1, t2, t3⟩
end
end Go.Eng
namespace Go.Eng
open Go
set_option linter.unusedSimpArgs false
set_option linter.unusedVariables false
end Go.Eng
namespace Go.Eng
open Go
variable {E : Nat → Option Fn} {X : Orc}
set_option linter.unusedSimpArgs false
set_option linter.unusedVariables false
theorem check_go (e : E k_record_Check = some f_record_Check) (x : ∀ a h, X (.fn k_record_Check) a h = none) (N : Nat) (o : Rq) (hl : o.l.length < 9223372036854775807) (a : Option (Nat × Nat)) (c : Option Nat) (ez : Nat) (h : H) :
    ∃ h', callX E X (N + 1) (.fn k_record_Check) [.agg [.int .i64 o.kind, .slice a o.l.length c ez]] h = some (.int .i64 (if rqOk o = true then 0 else 160), h') ∧ Kp h h' := by
  rw [x_cfn e _ _ (Nat.le_of_ble_eq_true rfl) (x _ _)]
  have ca : ∀ l : List V, (V.agg l).cells = l := fun _ => rfl
  obtain ⟨h1, e1⟩ : ∃ h1, h.new (.cells [.int .i64 o.kind, .slice a o.l.length c ez] .rw) = h1 := ⟨_, rfl⟩
  have g1 : h1.get h.next = some (.cells [.int .i64 o.kind, .slice a o.l.length c ez] .rw) := by rw [← e1]; exact h_new_same _ _
  refine ⟨h1, ?_, by rw [← e1]; exact Kp.new _ _⟩
  unfold rqOk
  obtain ⟨k, l⟩ := o
  simp only at hl g1 e1 ⊢
  generalize l.length = n at *
  by_cases c1 : k < 0
  · have d1 : decide (k < 0) = true := decide_eq_true c1
    rw [decide_eq_false (show ¬ (0 : Int) ≤ k by omega), Bool.false_and, Bool.false_and, if_neg (by simp)]
    simp (config := {maxSteps := 2000000}) (disch := first | omega | (simp only [List.length_cons, List.length_nil, List.length_append, List.length_drop]; omega)) only [ca, e1, g1, d1, ↓s_box, ↓s_len, x_lenS, ↓b_xor32, ↓b_and32, ↓b_or32, ↓u_not32, b_xor32, b_and32, b_or32, u_not32, w32ad, ↓x_conv, x_convV, ↓x_fieldAddr, x_fieldV, ↓s_nilchk, x_nilchk, Nat.zero_add, Nat.add_zero, Nat.mul_one, ↓s_evD, ↓s_dnil, ↓s_dL, ↓s_dLg, ↓s_dR, ↓s_dRg, ↓s_dRj, ↓s_dRjg, ↓s_dB, ↓s_dBg, ↓s_dAlloc, ↓s_bindD, s_bindD, s_finD, s_finDx, s_addP0, s_addP1, s_addB, s_lookP, ↓s_bump0, ↓s_bump_get, s_bump_next, s_ok0, ↓s_ok1, s_okR0, ↓s_okR1, ↓s_okE, s_okE, s_okE1, s_nth0, s_nthS, Nat.add_zero, Bool.and_self, Bool.and_true, Bool.true_and, ↓l_loop, ↓l_succ, ↓l_normal, l_normal, l_exit, l_ret, l_iteN, ↓h_put_get, ↓h_new_get, ↓h_del_get, h_next_put, h_next_new, h_next_del, Nat.add_assoc, Nat.add_eq_left, Nat.left_eq_add, Nat.add_left_cancel_iff, ↓s_load, m_load, ↓m_load1, m_load1, ↓m_st, m_stE, m_storeI, m_storeE, w_zero, w_succ, ↓s_alloc, ↓x_idxA, ↓x_idxS, x_idxAE, x_idxSE, x_addrE, x_idx, x_lenS, ↓s_len, ↓x_buildS, x_buildE, ↓x_P0, ↓x_P1, x_fill0, x_filli, x_fills, x_fillb, c_int, List.length_cons, List.length_nil, List.cons_append, List.drop_succ_cons, List.drop_zero, List.drop_nil, List.nil_append, Int.reduceAdd, Int.reduceToNat, Int.reduceLT, Int.reduceLE, Nat.reduceAdd, Nat.reduceMul, Nat.reduceLeDiff, Int.reduceEq, Int.reduceSub, Int.cast_ofNat_Int, s_resc, s_consR, m_load4, m_store4, s_res0, ↓s_skip, ↓s_ops, ↓s_dops, ↓s_seq, ↓s_cond, ↓s_block, ↓s_exit, ↓s_ret, ↓s_scope, ↓s_nil, ↓s_op, ↓s_opg, ↓s_wanted', ↓s_wantV, s_wantV, s_wantV0, beq_true, beq_false, ↓s_bindS, s_bindS, ↓s_bindE, s_bindE, s_bindE_ret, s_bindE_exit, s_bindE_iteN, s_norm, ↓s_condV, s_condV, s_block_ret, s_block_normal, s_block_exit, s_block_iteN, ↓s_getp, ↓s_getp0, ↓s_get, s_get0, ↓s_con, ↓s_fn, ↓s_os0, ↓s_os1, ↓s_list0, ↓s_list1, ↓s_mov, ↓s_pick, ↓s_pickE, s_pickE, ↓s_bin, ↓s_un, ↓s_minmax, ↓s_call, ↓s_callv, ↓s_callV, ↓s_ext, s_same, b_eql, b_neq, b_lss, b_leq, b_gtr, b_geq, b_add, b_sub, b_mul, b_eqlb, b_neqb, b_fnil, b_fnil', b_fnil2, b_fnil2', u_neg, u_not, m_two, s_end, s_end', s_end_iteN, s_res0, s_res1, s_tup1, s_tup2, ↓iteN_true, ↓iteN_false, iteN_true, iteN_false, Nat.zero_add, List.nil_append, List.append_nil, Nat.reduceEqDiff, reduceIte, decide_true, decide_false, Bool.not_true, Bool.not_false, List.getElem?_cons_zero, List.getElem?_cons_succ, Bool.false_eq_true, if_true, if_false, beq_self_eq_true]
    try rfl
  · have d1 : decide (k < 0) = false := decide_eq_false c1
    rw [decide_eq_true (show (0 : Int) ≤ k by omega), Bool.true_and]
    by_cases c2 : 255 < k
    · have d2 : decide (255 < k) = true := decide_eq_true c2
      rw [decide_eq_false (show ¬ k ≤ (255 : Int) by omega), Bool.false_and, if_neg (by simp)]
      simp (config := {maxSteps := 2000000}) (disch := first | omega | (simp only [List.length_cons, List.length_nil, List.length_append, List.length_drop]; omega)) only [ca, e1, g1, d1, d2, ↓s_box, ↓s_len, x_lenS, ↓b_xor32, ↓b_and32, ↓b_or32, ↓u_not32, b_xor32, b_and32, b_or32, u_not32, w32ad, ↓x_conv, x_convV, ↓x_fieldAddr, x_fieldV, ↓s_nilchk, x_nilchk, Nat.zero_add, Nat.add_zero, Nat.mul_one, ↓s_evD, ↓s_dnil, ↓s_dL, ↓s_dLg, ↓s_dR, ↓s_dRg, ↓s_dRj, ↓s_dRjg, ↓s_dB, ↓s_dBg, ↓s_dAlloc, ↓s_bindD, s_bindD, s_finD, s_finDx, s_addP0, s_addP1, s_addB, s_lookP, ↓s_bump0, ↓s_bump_get, s_bump_next, s_ok0, ↓s_ok1, s_okR0, ↓s_okR1, ↓s_okE, s_okE, s_okE1, s_nth0, s_nthS, Nat.add_zero, Bool.and_self, Bool.and_true, Bool.true_and, ↓l_loop, ↓l_succ, ↓l_normal, l_normal, l_exit, l_ret, l_iteN, ↓h_put_get, ↓h_new_get, ↓h_del_get, h_next_put, h_next_new, h_next_del, Nat.add_assoc, Nat.add_eq_left, Nat.left_eq_add, Nat.add_left_cancel_iff, ↓s_load, m_load, ↓m_load1, m_load1, ↓m_st, m_stE, m_storeI, m_storeE, w_zero, w_succ, ↓s_alloc, ↓x_idxA, ↓x_idxS, x_idxAE, x_idxSE, x_addrE, x_idx, x_lenS, ↓s_len, ↓x_buildS, x_buildE, ↓x_P0, ↓x_P1, x_fill0, x_filli, x_fills, x_fillb, c_int, List.length_cons, List.length_nil, List.cons_append, List.drop_succ_cons, List.drop_zero, List.drop_nil, List.nil_append, Int.reduceAdd, Int.reduceToNat, Int.reduceLT, Int.reduceLE, Nat.reduceAdd, Nat.reduceMul, Nat.reduceLeDiff, Int.reduceEq, Int.reduceSub, Int.cast_ofNat_Int, s_resc, s_consR, m_load4, m_store4, s_res0, ↓s_skip, ↓s_ops, ↓s_dops, ↓s_seq, ↓s_cond, ↓s_block, ↓s_exit, ↓s_ret, ↓s_scope, ↓s_nil, ↓s_op, ↓s_opg, ↓s_wanted', ↓s_wantV, s_wantV, s_wantV0, beq_true, beq_false, ↓s_bindS, s_bindS, ↓s_bindE, s_bindE, s_bindE_ret, s_bindE_exit, s_bindE_iteN, s_norm, ↓s_condV, s_condV, s_block_ret, s_block_normal, s_block_exit, s_block_iteN, ↓s_getp, ↓s_getp0, ↓s_get, s_get0, ↓s_con, ↓s_fn, ↓s_os0, ↓s_os1, ↓s_list0, ↓s_list1, ↓s_mov, ↓s_pick, ↓s_pickE, s_pickE, ↓s_bin, ↓s_un, ↓s_minmax, ↓s_call, ↓s_callv, ↓s_callV, ↓s_ext, s_same, b_eql, b_neq, b_lss, b_leq, b_gtr, b_geq, b_add, b_sub, b_mul, b_eqlb, b_neqb, b_fnil, b_fnil', b_fnil2, b_fnil2', u_neg, u_not, m_two, s_end, s_end', s_end_iteN, s_res0, s_res1, s_tup1, s_tup2, ↓iteN_true, ↓iteN_false, iteN_true, iteN_false, Nat.zero_add, List.nil_append, List.append_nil, Nat.reduceEqDiff, reduceIte, decide_true, decide_false, Bool.not_true, Bool.not_false, List.getElem?_cons_zero, List.getElem?_cons_succ, Bool.false_eq_true, if_true, if_false, beq_self_eq_true]
      try rfl
    · have d2 : decide (255 < k) = false := decide_eq_false c2
      rw [decide_eq_true (show k ≤ (255 : Int) by omega), Bool.true_and]
      by_cases c3 : n ≤ 200000
      · have d3 : decide ((200000 : Int) < (n : Int)) = false := decide_eq_false (by omega)
        rw [decide_eq_true c3, if_pos rfl]
        simp (config := {maxSteps := 2000000}) (disch := first | omega | (simp only [List.length_cons, List.length_nil, List.length_append, List.length_drop]; omega)) only [ca, e1, g1, d1, d2, d3, ↓s_box, ↓s_len, x_lenS, ↓b_xor32, ↓b_and32, ↓b_or32, ↓u_not32, b_xor32, b_and32, b_or32, u_not32, w32ad, ↓x_conv, x_convV, ↓x_fieldAddr, x_fieldV, ↓s_nilchk, x_nilchk, Nat.zero_add, Nat.add_zero, Nat.mul_one, ↓s_evD, ↓s_dnil, ↓s_dL, ↓s_dLg, ↓s_dR, ↓s_dRg, ↓s_dRj, ↓s_dRjg, ↓s_dB, ↓s_dBg, ↓s_dAlloc, ↓s_bindD, s_bindD, s_finD, s_finDx, s_addP0, s_addP1, s_addB, s_lookP, ↓s_bump0, ↓s_bump_get, s_bump_next, s_ok0, ↓s_ok1, s_okR0, ↓s_okR1, ↓s_okE, s_okE, s_okE1, s_nth0, s_nthS, Nat.add_zero, Bool.and_self, Bool.and_true, Bool.true_and, ↓l_loop, ↓l_succ, ↓l_normal, l_normal, l_exit, l_ret, l_iteN, ↓h_put_get, ↓h_new_get, ↓h_del_get, h_next_put, h_next_new, h_next_del, Nat.add_assoc, Nat.add_eq_left, Nat.left_eq_add, Nat.add_left_cancel_iff, ↓s_load, m_load, ↓m_load1, m_load1, ↓m_st, m_stE, m_storeI, m_storeE, w_zero, w_succ, ↓s_alloc, ↓x_idxA, ↓x_idxS, x_idxAE, x_idxSE, x_addrE, x_idx, x_lenS, ↓s_len, ↓x_buildS, x_buildE, ↓x_P0, ↓x_P1, x_fill0, x_filli, x_fills, x_fillb, c_int, List.length_cons, List.length_nil, List.cons_append, List.drop_succ_cons, List.drop_zero, List.drop_nil, List.nil_append, Int.reduceAdd, Int.reduceToNat, Int.reduceLT, Int.reduceLE, Nat.reduceAdd, Nat.reduceMul, Nat.reduceLeDiff, Int.reduceEq, Int.reduceSub, Int.cast_ofNat_Int, s_resc, s_consR, m_load4, m_store4, s_res0, ↓s_skip, ↓s_ops, ↓s_dops, ↓s_seq, ↓s_cond, ↓s_block, ↓s_exit, ↓s_ret, ↓s_scope, ↓s_nil, ↓s_op, ↓s_opg, ↓s_wanted', ↓s_wantV, s_wantV, s_wantV0, beq_true, beq_false, ↓s_bindS, s_bindS, ↓s_bindE, s_bindE, s_bindE_ret, s_bindE_exit, s_bindE_iteN, s_norm, ↓s_condV, s_condV, s_block_ret, s_block_normal, s_block_exit, s_block_iteN, ↓s_getp, ↓s_getp0, ↓s_get, s_get0, ↓s_con, ↓s_fn, ↓s_os0, ↓s_os1, ↓s_list0, ↓s_list1, ↓s_mov, ↓s_pick, ↓s_pickE, s_pickE, ↓s_bin, ↓s_un, ↓s_minmax, ↓s_call, ↓s_callv, ↓s_callV, ↓s_ext, s_same, b_eql, b_neq, b_lss, b_leq, b_gtr, b_geq, b_add, b_sub, b_mul, b_eqlb, b_neqb, b_fnil, b_fnil', b_fnil2, b_fnil2', u_neg, u_not, m_two, s_end, s_end', s_end_iteN, s_res0, s_res1, s_tup1, s_tup2, ↓iteN_true, ↓iteN_false, iteN_true, iteN_false, Nat.zero_add, List.nil_append, List.append_nil, Nat.reduceEqDiff, reduceIte, decide_true, decide_false, Bool.not_true, Bool.not_false, List.getElem?_cons_zero, List.getElem?_cons_succ, Bool.false_eq_true, if_true, if_false, beq_self_eq_true]
        try rfl
      · have d3 : decide ((200000 : Int) < (n : Int)) = true := decide_eq_true (by omega)
        rw [decide_eq_false c3, if_neg (by simp)]
        simp (config := {maxSteps := 2000000}) (disch := first | omega | (simp only [List.length_cons, List.length_nil, List.length_append, List.length_drop]; omega)) only [ca, e1, g1, d1, d2, d3, ↓s_box, ↓s_len, x_lenS, ↓b_xor32, ↓b_and32, ↓b_or32, ↓u_not32, b_xor32, b_and32, b_or32, u_not32, w32ad, ↓x_conv, x_convV, ↓x_fieldAddr, x_fieldV, ↓s_nilchk, x_nilchk, Nat.zero_add, Nat.add_zero, Nat.mul_one, ↓s_evD, ↓s_dnil, ↓s_dL, ↓s_dLg, ↓s_dR, ↓s_dRg, ↓s_dRj, ↓s_dRjg, ↓s_dB, ↓s_dBg, ↓s_dAlloc, ↓s_bindD, s_bindD, s_finD, s_finDx, s_addP0, s_addP1, s_addB, s_lookP, ↓s_bump0, ↓s_bump_get, s_bump_next, s_ok0, ↓s_ok1, s_okR0, ↓s_okR1, ↓s_okE, s_okE, s_okE1, s_nth0, s_nthS, Nat.add_zero, Bool.and_self, Bool.and_true, Bool.true_and, ↓l_loop, ↓l_succ, ↓l_normal, l_normal, l_exit, l_ret, l_iteN, ↓h_put_get, ↓h_new_get, ↓h_del_get, h_next_put, h_next_new, h_next_del, Nat.add_assoc, Nat.add_eq_left, Nat.left_eq_add, Nat.add_left_cancel_iff, ↓s_load, m_load, ↓m_load1, m_load1, ↓m_st, m_stE, m_storeI, m_storeE, w_zero, w_succ, ↓s_alloc, ↓x_idxA, ↓x_idxS, x_idxAE, x_idxSE, x_addrE, x_idx, x_lenS, ↓s_len, ↓x_buildS, x_buildE, ↓x_P0, ↓x_P1, x_fill0, x_filli, x_fills, x_fillb, c_int, List.length_cons, List.length_nil, List.cons_append, List.drop_succ_cons, List.drop_zero, List.drop_nil, List.nil_append, Int.reduceAdd, Int.reduceToNat, Int.reduceLT, Int.reduceLE, Nat.reduceAdd, Nat.reduceMul, Nat.reduceLeDiff, Int.reduceEq, Int.reduceSub, Int.cast_ofNat_Int, s_resc, s_consR, m_load4, m_store4, s_res0, ↓s_skip, ↓s_ops, ↓s_dops, ↓s_seq, ↓s_cond, ↓s_block, ↓s_exit, ↓s_ret, ↓s_scope, ↓s_nil, ↓s_op, ↓s_opg, ↓s_wanted', ↓s_wantV, s_wantV, s_wantV0, beq_true, beq_false, ↓s_bindS, s_bindS, ↓s_bindE, s_bindE, s_bindE_ret, s_bindE_exit, s_bindE_iteN, s_norm, ↓s_condV, s_condV, s_block_ret, s_block_normal, s_block_exit, s_block_iteN, ↓s_getp, ↓s_getp0, ↓s_get, s_get0, ↓s_con, ↓s_fn, ↓s_os0, ↓s_os1, ↓s_list0, ↓s_list1, ↓s_mov, ↓s_pick, ↓s_pickE, s_pickE, ↓s_bin, ↓s_un, ↓s_minmax, ↓s_call, ↓s_callv, ↓s_callV, ↓s_ext, s_same, b_eql, b_neq, b_lss, b_leq, b_gtr, b_geq, b_add, b_sub, b_mul, b_eqlb, b_neqb, b_fnil, b_fnil', b_fnil2, b_fnil2', u_neg, u_not, m_two, s_end, s_end', s_end_iteN, s_res0, s_res1, s_tup1, s_tup2, ↓iteN_true, ↓iteN_false, iteN_true, iteN_false, Nat.zero_add, List.nil_append, List.append_nil, Nat.reduceEqDiff, reduceIte, decide_true, decide_false, Bool.not_true, Bool.not_false, List.getElem?_cons_zero, List.getElem?_cons_succ, Bool.false_eq_true, if_true, if_false, beq_self_eq_true]
        try rfl
theorem fix1 (n : Nat) (h : n < 256) : fixE 1 n = 0 ∧ fixB 1 n = [n] := by
  have hz : sizedI 1 = true := rfl
  have e2 : fixE 1 n = 0 := by
    unfold fixE; rw [hz, if_pos rfl, if_pos (by have := (wid_pow' n 1 (by omega) (by omega)).2 (by show n < 256; exact h); omega)]
  refine ⟨e2, ?_⟩
  unfold fixB; rw [e2, if_pos rfl]
  show leN 1 n = [n]
  show [n / 2 ^ (8 * 0) % 256] = [n]
  simp; exact h
theorem head_go (ef : E k_record_head = some f_record_head) (e : EnCm E) (x : NoCm X) (xh : ∀ a h, X (.fn k_record_head) a h = none) (M kn n : Nat) (hM : 50100 < M) (hk : kn < 256) (hn : n ≤ 200000) (a : Option (Nat × Nat)) (c : Option Nat) (ez : Nat) (h : H) :
    ∃ h' a' c' e', callX E X (M + 21) (.fn k_record_head) [.agg [.int .i64 (kn : Int), .slice a n c ez]] h = some (.slice a' 9 c' e', h') ∧ Nw h h' (mkB4 (kn :: leN 4 n)) a' c' e' := by
  rw [x_cfn ef _ _ (Nat.le_of_ble_eq_true rfl) (xh _ _)]
  have ca : ∀ l : List V, (V.agg l).cells = l := fun _ => rfl
  obtain ⟨hQ, eQ⟩ : ∃ hQ, (h.new (.cells [.int .i64 (kn : Int), .slice a n c ez] .rw)).new (.cells [.slice none 0 (some 0) 0] .rw) = hQ := ⟨_, rfl⟩
  have kQ : Kp h hQ := by rw [← eQ]; (repeat (first | exact Kp.refl _ | refine Kp.put ?_ _ (by first | omega | (simp only [h_next_put, h_next_new, h_next_del]; omega)) | refine Kp.del ?_ (by first | omega | (simp only [h_next_put, h_next_new, h_next_del]; omega)) | refine Kp.trans ?_ (Kp.new _ _)))
  have nQ : hQ.next = h.next + 2 := by rw [← eQ]; rfl
  have gQ0 : hQ.get h.next = some (.cells [.int .i64 (kn : Int), .slice a n c ez] .rw) := by rw [← eQ]; (simp (disch := omega) only [l_loop, l_succ, l_normal, l_normal, l_exit, l_ret, l_iteN, h_put_get, h_new_get, h_del_get, h_next_put, h_next_new, h_next_del, Nat.add_assoc, Nat.add_eq_left, Nat.left_eq_add, Nat.add_left_cancel_iff, s_load, m_load, m_load1, m_load1, m_st, m_stE, m_storeI, m_storeE, w_zero, w_succ, s_alloc, x_idxA, x_idxS, x_idxAE, x_idxSE, x_addrE, x_idx, x_lenS, s_len, x_buildS, x_buildE, x_P0, x_P1, x_fill0, x_filli, x_fills, x_fillb, c_int, List.length_cons, List.length_nil, List.cons_append, List.drop_succ_cons, List.drop_zero, List.drop_nil, List.nil_append, Int.reduceAdd, Int.reduceToNat, Int.reduceLT, Int.reduceLE, Nat.reduceAdd, Nat.reduceMul, Nat.reduceLeDiff, Int.reduceEq, Int.reduceSub, Int.cast_ofNat_Int, s_resc, s_consR, m_load4, m_store4, s_res0, decide_true, decide_false, iteN_true, iteN_false, Nat.reduceEqDiff, Nat.reduceAdd, reduceCtorEq, ]; try rfl)
  have gQ1 : hQ.get (h.next + 1) = some (.cells [.slice none 0 (some 0) 0] .rw) := by rw [← eQ]; (simp (disch := omega) only [l_loop, l_succ, l_normal, l_normal, l_exit, l_ret, l_iteN, h_put_get, h_new_get, h_del_get, h_next_put, h_next_new, h_next_del, Nat.add_assoc, Nat.add_eq_left, Nat.left_eq_add, Nat.add_left_cancel_iff, s_load, m_load, m_load1, m_load1, m_st, m_stE, m_storeI, m_storeE, w_zero, w_succ, s_alloc, x_idxA, x_idxS, x_idxAE, x_idxSE, x_addrE, x_idx, x_lenS, s_len, x_buildS, x_buildE, x_P0, x_P1, x_fill0, x_filli, x_fills, x_fillb, c_int, List.length_cons, List.length_nil, List.cons_append, List.drop_succ_cons, List.drop_zero, List.drop_nil, List.nil_append, Int.reduceAdd, Int.reduceToNat, Int.reduceLT, Int.reduceLE, Nat.reduceAdd, Nat.reduceMul, Nat.reduceLeDiff, Int.reduceEq, Int.reduceSub, Int.cast_ofNat_Int, s_resc, s_consR, m_load4, m_store4, s_res0, decide_true, decide_false, iteN_true, iteN_false, Nat.reduceEqDiff, Nat.reduceAdd, reduceCtorEq, ]; try rfl)
  obtain ⟨h1, a1, r1, p1, f1⟩ := fixedv_go e.ep.fi x.fi (M + 16) (h.next + 1) 1 kn (by omega) (by omega) [] (by simp) none hQ (.new _ _ (by omega) gQ1)
  obtain ⟨z1, z2⟩ := fix1 kn hk
  rw [z1] at r1
  rw [z2, List.nil_append] at p1
  have fn1 := f1.nx
  obtain ⟨h2, a2, r2, p2, f2⟩ := fixedv_go e.ep.fi x.fi (M + 16) (h.next + 1) 4 n (by omega) (by omega) [kn] (by simp) a1 h1 p1
  obtain ⟨z3, z4⟩ := fix4 n (by omega)
  rw [z3] at r2
  rw [z4] at p2
  have f12 := f1.trans f2
  have g1 : h1.get h.next = some (.cells [.int .i64 (kn : Int), .slice a n c ez] .rw) := by rw [f1.fr _ (by omega) (by omega) (fun e => by cases e), gQ0]
  obtain ⟨a3, c3, e3, h3, r3, nw3⟩ := allv_go e.ep.al x.all (M + 19) (h.next + 1) ([kn] ++ leN 4 n) (by rw [List.length_append, leN_len]; simp) a2 h2 p2
  have l5 : ([kn] ++ leN 4 n).length = 5 := by rw [List.length_append, leN_len]; rfl
  have b5 : byt ([kn] ++ leN 4 n) = true := byt_app (byt_iff.2 (fun y hy => by rcases List.mem_singleton.1 hy with rfl; exact hk)) (leN_byt _ _)
  obtain ⟨h4, a4, c4, e4, r4, nw4⟩ := cmark_go e x M ([kn] ++ leN 4 n) b5 (by omega) hM a3 c3 e3 h3 nw3.wb.src
  have kk : Kp h h4 := by
    have k3 := nw3.kp
    have k4 := nw4.kp
    refine ⟨by have := f12.nx; have := k3.1; have := k4.1; omega, fun j hj => ?_⟩
    have := f12.nx
    have := k3.1
    rw [k4.2 _ (by omega), k3.2 _ (by omega), f12.fr _ (by omega) (by omega) (fun e => by cases e), kQ.2 _ hj]
  have ge4 : ∀ q o, a4 = some (q, o) → h.next ≤ q := fun q o e => by have := nw4.ge q o e; have := f12.nx; have := nw3.kp.1; omega
  have l9 : ([kn] ++ leN 4 n ++ leN 4 (onV 0 ([kn] ++ leN 4 n))).length = 9 := by rw [List.length_append, l5, leN_len]
  rw [l5] at r3 r4
  rw [l9] at r4
  refine ⟨h4, a4, c4, e4, ?_, ⟨kk, nw4.wb, ge4⟩⟩
  have w1 : wr .u64 (kn : Int) = (kn : Int) := u64n _ (by omega)
  have w2 : wr .u64 (n : Int) = (n : Int) := u64n _ (by omega)
  have g1' : h1.get h.next = some (.cells [.int .i64 (kn : Int), .slice a n c ez] .rw) := g1
  replace r1 : callX E X (M + 20) (.fn k_octet_Pen_Fixed) [.ptr (some (h.next + 1, 0)), .int .i64 1, .int .u64 (kn : Int)] hQ = some (.int .i64 0, h1) := r1
  replace r2 : callX E X (M + 20) (.fn k_octet_Pen_Fixed) [.ptr (some (h.next + 1, 0)), .int .i64 4, .int .u64 (n : Int)] h1 = some (.int .i64 0, h2) := r2
  simp (config := {maxSteps := 2000000}) (disch := first | omega | (simp only [List.length_cons, List.length_nil, List.length_append, List.length_drop]; omega)) only [ca, eQ, gQ0, w1, r1, g1', w2, r2, r3, r4, ↓s_box, ↓s_len, x_lenS, ↓b_xor32, ↓b_and32, ↓b_or32, ↓u_not32, b_xor32, b_and32, b_or32, u_not32, w32ad, ↓x_conv, x_convV, ↓x_fieldAddr, x_fieldV, ↓s_nilchk, x_nilchk, Nat.zero_add, Nat.add_zero, Nat.mul_one, ↓s_evD, ↓s_dnil, ↓s_dL, ↓s_dLg, ↓s_dR, ↓s_dRg, ↓s_dRj, ↓s_dRjg, ↓s_dB, ↓s_dBg, ↓s_dAlloc, ↓s_bindD, s_bindD, s_finD, s_finDx, s_addP0, s_addP1, s_addB, s_lookP, ↓s_bump0, ↓s_bump_get, s_bump_next, s_ok0, ↓s_ok1, s_okR0, ↓s_okR1, ↓s_okE, s_okE, s_okE1, s_nth0, s_nthS, Nat.add_zero, Bool.and_self, Bool.and_true, Bool.true_and, ↓l_loop, ↓l_succ, ↓l_normal, l_normal, l_exit, l_ret, l_iteN, ↓h_put_get, ↓h_new_get, ↓h_del_get, h_next_put, h_next_new, h_next_del, Nat.add_assoc, Nat.add_eq_left, Nat.left_eq_add, Nat.add_left_cancel_iff, ↓s_load, m_load, ↓m_load1, m_load1, ↓m_st, m_stE, m_storeI, m_storeE, w_zero, w_succ, ↓s_alloc, ↓x_idxA, ↓x_idxS, x_idxAE, x_idxSE, x_addrE, x_idx, x_lenS, ↓s_len, ↓x_buildS, x_buildE, ↓x_P0, ↓x_P1, x_fill0, x_filli, x_fills, x_fillb, c_int, List.length_cons, List.length_nil, List.cons_append, List.drop_succ_cons, List.drop_zero, List.drop_nil, List.nil_append, Int.reduceAdd, Int.reduceToNat, Int.reduceLT, Int.reduceLE, Nat.reduceAdd, Nat.reduceMul, Nat.reduceLeDiff, Int.reduceEq, Int.reduceSub, Int.cast_ofNat_Int, s_resc, s_consR, m_load4, m_store4, s_res0, ↓s_skip, ↓s_ops, ↓s_dops, ↓s_seq, ↓s_cond, ↓s_block, ↓s_exit, ↓s_ret, ↓s_scope, ↓s_nil, ↓s_op, ↓s_opg, ↓s_wanted', ↓s_wantV, s_wantV, s_wantV0, beq_true, beq_false, ↓s_bindS, s_bindS, ↓s_bindE, s_bindE, s_bindE_ret, s_bindE_exit, s_bindE_iteN, s_norm, ↓s_condV, s_condV, s_block_ret, s_block_normal, s_block_exit, s_block_iteN, ↓s_getp, ↓s_getp0, ↓s_get, s_get0, ↓s_con, ↓s_fn, ↓s_os0, ↓s_os1, ↓s_list0, ↓s_list1, ↓s_mov, ↓s_pick, ↓s_pickE, s_pickE, ↓s_bin, ↓s_un, ↓s_minmax, ↓s_call, ↓s_callv, ↓s_callV, ↓s_ext, s_same, b_eql, b_neq, b_lss, b_leq, b_gtr, b_geq, b_add, b_sub, b_mul, b_eqlb, b_neqb, b_fnil, b_fnil', b_fnil2, b_fnil2', u_neg, u_not, m_two, s_end, s_end', s_end_iteN, s_res0, s_res1, s_tup1, s_tup2, ↓iteN_true, ↓iteN_false, iteN_true, iteN_false, Nat.zero_add, List.nil_append, List.append_nil, Nat.reduceEqDiff, reduceIte, decide_true, decide_false, Bool.not_true, Bool.not_false, List.getElem?_cons_zero, List.getElem?_cons_succ, Bool.false_eq_true, if_true, if_false, beq_self_eq_true]
end Go.Eng
namespace Go.Eng
open Go
variable {E : Nat → Option Fn} {X : Orc}
set_option linter.unusedSimpArgs false
set_option linter.unusedVariables false
end Go.Eng
namespace Go.Eng
open Go
variable {E : Nat → Option Fn} {X : Orc}
set_option linter.unusedSimpArgs false
set_option linter.unusedVariables false
theorem st2i (h : H) (i : Nat) (x : Int) (a : Option (Nat × Nat)) (n : Nat) (c : Option Nat) (e : Nat) : storeV h 2 (.ptr (some (i, 0))) (.agg [.int .i64 x, .slice a n c e]) = storeE (h.get i) h i 0 [.int .i64 x, .slice a n c e] := m_storeA h 2 i 0 _ rfl
theorem st2ir (u v : V) (h : H) (i : Nat) (x : Int) (a : Option (Nat × Nat)) (n : Nat) (c : Option Nat) (e : Nat) : storeE (some (.cells [u, v] .rw)) h i 0 [.int .i64 x, .slice a n c e] = some (h.put i (.cells [.int .i64 x, .slice a n c e] .rw)) := m_storeE _ _ _ _ _ (by show 0 + 2 ≤ 2; omega)
theorem ld2 (u v : V) (m : Md) : loadE (some (.cells [u, v] m)) (some 2) 0 = some (.agg [u, v]) := rfl
end Go.Eng
namespace Go.Eng
open Go
variable {E : Nat → Option Fn} {X : Orc}
set_option linter.unusedSimpArgs false
set_option linter.unusedVariables false
/-- a slice of bytes that may be cut -/
structure SB (s : List Nat) (a : Option (Nat × Nat)) (c : Option Nat) (ez : Nat) : Prop where
  hc : s ≠ [] → c = none
  hz : s = [] → ez = 1 ∨ a = none
theorem SB.one (s : List Nat) (a : Option (Nat × Nat)) : SB s a none 1 := ⟨fun _ => rfl, fun _ => .inl rfl⟩
end Go.Eng
namespace Go.Eng
open Go
variable {E : Nat → Option Fn} {X : Orc}
set_option linter.unusedSimpArgs false
set_option linter.unusedVariables false
/-- a row of records that can be read -/
def RrS (h : H) (ops : List Rq) (a : Option (Nat × Nat)) (e : Nat) : Prop := ops = [] ∨ ∃ q off vs md, a = some (q, off) ∧ e = 2 ∧ q < h.next ∧ h.get q = some (.cells vs md) ∧ off + ops.length * 2 ≤ vs.length ∧ ∀ i o, ops[i]? = some o → ∃ b cb eb, (vs.drop (off + i * 2)).take 2 = [.int .i64 o.kind, .slice b o.l.length cb eb] ∧ SrcH h b eb o.l
theorem RrS.mono {h h' : H} {ops : List Rq} {a : Option (Nat × Nat)} {e : Nat} (r : RrS h ops a e) (k : Kp h h') : RrS h' ops a e := by
  rcases r with r | ⟨q, off, vs, md, e1, e2, hq, g, hl, at_⟩
  · exact .inl r
  · exact .inr ⟨q, off, vs, md, e1, e2, Nat.lt_of_lt_of_le hq k.1, by rw [k.2 _ hq, g], hl, fun i o ho => by
      obtain ⟨b, cb, eb, e3, s⟩ := at_ i o ho
      exact ⟨b, cb, eb, e3, s.mono k⟩⟩
theorem RrS.take {h : H} {ops : List Rq} {a : Option (Nat × Nat)} {e : Nat} (r : RrS h ops a e) (n : Nat) : RrS h (ops.take n) a e := by
  rcases r with r | ⟨q, off, vs, md, e1, e2, hq, g, hl, at_⟩
  · left; rw [r, List.take_nil]
  · refine .inr ⟨q, off, vs, md, e1, e2, hq, g, by rw [List.length_take]; omega, fun i o ho => at_ i o ?_⟩
    rw [List.getElem?_take] at ho
    by_cases hi : i < n
    · rw [if_pos hi] at ho; exact ho
    · rw [if_neg hi] at ho; cases ho
theorem RrS.drop {h : H} {ops : List Rq} {a : Option (Nat × Nat)} {e : Nat} (r : RrS h ops a e) (n : Nat) : RrS h (ops.drop n) (upA a (n * 2)) e := by
  rcases r with r | ⟨q, off, vs, md, e1, e2, hq, g, hl, at_⟩
  · left; rw [r, List.drop_nil]
  · by_cases hn : n ≤ ops.length
    · refine .inr ⟨q, off + n * 2, vs, md, by rw [e1]; rfl, e2, hq, g, by rw [List.length_drop]; omega, fun i o ho => ?_⟩
      rw [List.getElem?_drop] at ho
      obtain ⟨b, cb, eb, e3, s⟩ := at_ _ o ho
      exact ⟨b, cb, eb, by rw [show off + n * 2 + i * 2 = off + (n + i) * 2 by omega]; exact e3, s⟩
    · left; exact List.drop_eq_nil_of_le (by omega)
theorem rr_at {h : H} {ops : List Rq} {a : Option (Nat × Nat)} {e : Nat} (r : RrS h ops a e) (i : Nat) (o : Rq) (ho : ops[i]? = some o) : ∃ q off vs md b cb eb, a = some (q, off) ∧ e = 2 ∧ q < h.next ∧ h.get q = some (.cells vs md) ∧ loadE (some (.cells vs md)) (some 2) (off + i * 2) = some (.agg [.int .i64 o.kind, .slice b o.l.length cb eb]) ∧ SrcH h b eb o.l ∧ vs[off + i * 2 + 1]? = some (.slice b o.l.length cb eb) := by
  rcases r with r | ⟨q, off, vs, md, e1, e2, hq, g, hl, at_⟩
  · rw [r] at ho; simp at ho
  · obtain ⟨b, cb, eb, e3, s⟩ := at_ i o ho
    have hi : i < ops.length := (List.getElem?_eq_some_iff.1 ho).1
    refine ⟨q, off, vs, md, b, cb, eb, e1, e2, hq, g, by rw [m_loadN, readN_of _ _ _ (by omega), e3], s, ?_⟩
    have : ((vs.drop (off + i * 2)).take 2)[1]? = some (.slice b o.l.length cb eb) := by rw [e3]; rfl
    rw [List.getElem?_take_of_lt (by omega), List.getElem?_drop] at this
    exact this
/-- records' bytes -/
def rB (ops : List Rq) : List Nat := (ops.map rqB).flatten
theorem rB_succ (ops : List Rq) (i : Nat) (o : Rq) (h : ops[i]? = some o) : rB (ops.take (i + 1)) = rB (ops.take i) ++ rqB o := by
  unfold rB; rw [List.take_add_one, h, List.map_append, List.flatten_append]; simp
structure RnI (v : V) (ops : List Rq) (pn : Nat) (h0 : H) (i : Nat) (T : Tr V) (h : H) : Prop where
  il : i ≤ ops.length
  t4 : evO T (.t 4) = .ptr (some (pn, 0))
  t8 : evO T (.t 8) = v
  t9 : evO T (.t 9) = .int .i64 (ops.length : Int)
  t10 : evO T (.t 10) = .int .i64 (i : Int)
  st : ∃ a, PenH pn (rB (ops.take i)) a h ∧ (∀ q o, a = some (q, o) → h0.next ≤ q)
  kp : Kp h0 h
theorem rn_step (ec : E k_record_Check = some f_record_Check) (xc : ∀ a h, X (.fn k_record_Check) a h = none) (ef : E k_record_head = some f_record_head) (xh : ∀ a h, X (.fn k_record_head) a h = none) (e : EnCm E) (x : NoCm X) (M m : Nat) (hM : 50100 < M) (ops : List Rq) (hl : ops.length ≤ 20000) (ok : ∀ o ∈ ops, o.ok) (hw : ∀ o ∈ ops, o.l.length ≤ 50000) (a : Option (Nat × Nat)) (c : Option Nat) (ez : Nat) (pn : Nat) (h0 : H) (hpn : h0.next ≤ pn) (row : RrS h0 ops a ez) (i : Nat) (o : Rq) (ho : ops[i]? = some o) (hv : rqOk o = true) (hlen : (rB (ops.take i)).length ≤ 800000) (T : Tr V) (h : H) (I : RnI (.slice a ops.length c ez) ops pn h0 i T h) :
    ∃ T' h', evC (callX E X (M + 21)) 28 m none L_record_Encode_0 ⟨T, [], h⟩ = some (.normal, ⟨T', [], h'⟩) ∧ RnI (.slice a ops.length c ez) ops pn h0 (i + 1) T' h' := by
  obtain ⟨_, t4, t8, t9, t10, ⟨ap, pe, ge⟩, kp⟩ := I
  have hi : i < ops.length := (List.getElem?_eq_some_iff.1 ho).1
  have om := List.mem_of_getElem? ho
  have c0 : decide ((i : Int) < (ops.length : Int)) = true := decide_eq_true (by omega)
  have wi : wr .i64 ((i : Int) + 1) = ((i + 1 : Nat) : Int) := by rw [wr_i64 (by omega)]; omega
  have ix : idx (i : Int) ops.length = some i := idxn hi
  obtain ⟨q, off, vs, md, b, cb, eb, rfl, rfl, hq, gq', ld, sb, _⟩ := rr_at row i o ho
  have gv : h.get q = some (.cells vs md) := by rw [kp.2 _ hq, gq']
  have lo := hw o om
  have oko := ok o om
  have hv' := hv
  unfold rqOk at hv'
  simp only [Bool.and_eq_true, decide_eq_true_eq] at hv'
  obtain ⟨⟨k0, k1⟩, _⟩ := hv'
  obtain ⟨kn, ekn⟩ := Int.eq_ofNat_of_zero_le k0
  have plt := pe.lt
  have kn0 := kp.1
  obtain ⟨h1, eh1⟩ : ∃ h1, (h.new (.cells [.int .i64 0, .slice none 0 (some 0) 0] .rw)).put h.next (.cells [.int .i64 o.kind, .slice b o.l.length cb eb] .rw) = h1 := ⟨_, rfl⟩
  have k1' : Kp h h1 := by rw [← eh1]; (repeat (first | exact Kp.refl _ | refine Kp.put ?_ _ (by first | omega | (simp only [h_next_put, h_next_new, h_next_del]; omega)) | refine Kp.del ?_ (by first | omega | (simp only [h_next_put, h_next_new, h_next_del]; omega)) | refine Kp.trans ?_ (Kp.new _ _)))
  have n1 : h1.next = h.next + 1 := by rw [← eh1]; rfl
  have g1 : h1.get h.next = some (.cells [.int .i64 o.kind, .slice b o.l.length cb eb] .rw) := by rw [← eh1]; exact h_put_same _ _ _
  obtain ⟨h2, r2, k2⟩ := check_go ec xc (M + 20) o (by omega) b cb eb h1
  rw [if_pos hv] at r2
  have kn2 := k2.1
  have g2 : h2.get h.next = some (.cells [.int .i64 o.kind, .slice b o.l.length cb eb] .rw) := by rw [k2.2 _ (by omega), g1]
  have kb : Kp h2 (bump 1 h2) := ⟨by show h2.next ≤ h2.next + 1; omega, fun _ _ => rfl⟩
  have nb : (bump 1 h2).next = h2.next + 1 := rfl
  obtain ⟨h3, a3, c3, e3, r3, nw3⟩ := head_go ef e x xh M kn o.l.length hM (by omega) (by omega) b cb eb (bump 1 h2)
  rw [← ekn] at r3
  have kn3 := nw3.kp.1
  have k03 : Kp h h3 := k1'.trans (k2.trans (kb.trans nw3.kp))
  have g3 : h3.get h.next = some (.cells [.int .i64 o.kind, .slice b o.l.length cb eb] .rw) := by rw [nw3.kp.2 _ (by omega)]; exact g2
  obtain ⟨h4, a4, c4, e4, r4, nw4⟩ := cmark_go e x (M + 1) o.l oko.bl (by omega) (by omega) b cb eb h3 ((sb.mono kp).mono k03)
  have kn4 := nw4.kp.1
  obtain ⟨hd, ehd⟩ : ∃ x, mkB4 (kn :: leN 4 o.l.length) = x := ⟨_, rfl⟩
  obtain ⟨mk, emk⟩ : ∃ x, o.l ++ leN 4 (onV 0 o.l) = x := ⟨_, rfl⟩
  rw [ehd] at nw3
  rw [emk] at r4 nw4
  have lhd : hd.length = 9 := by rw [← ehd, mkB4_len, List.length_cons, leN_len]
  have lmk : mk.length = o.l.length + 4 := by rw [← emk, List.length_append, leN_len]
  obtain ⟨h5, eh5⟩ : ∃ h5, h4.put h2.next (.cells [.slice a3 9 c3 e3, .slice a4 mk.length c4 e4] .rw) = h5 := ⟨_, rfl⟩
  have n5 : h5.next = h4.next := by rw [← eh5]; rfl
  have g5 : h5.get h2.next = some (.cells ([((a3, c3, e3, hd) : Pt), (a4, c4, e4, mk)].map slOf) .rw) := by rw [← eh5, h_put_same]; show _ = some (Blk.cells [.slice a3 hd.length c3 e3, .slice a4 mk.length c4 e4] .rw); rw [lhd]
  have k5 : Kp h2 h5 := ⟨by omega, fun j hj => by rw [← eh5, h_put_ne _ _ (by omega), nw4.kp.2 _ (by omega), nw3.kp.2 _ (by omega)]; rfl⟩
  have k05 : Kp h h5 := k1'.trans (k2.trans k5)
  have pe5 := pe.kp k05
  have up : ∀ (hx : H) (aa : Option (Nat × Nat)) (cc : Option Nat) (ee : Nat) (w : List Nat), Wb hx w aa cc ee → Kp hx h4 → (∀ q o, aa = some (q, o) → h2.next < q) → SrcH h5 aa ee w := fun hx aa cc ee w wb k g => by
    rcases wb.src with s | ⟨bi, of, vv, m', f1, f2, f3, f4, f5, f6⟩
    · exact .inl s
    · have := g bi of f1
      have := k.1
      exact .inr ⟨bi, of, vv, m', f1, f2, by omega, by rw [← eh5, h_put_ne _ _ (by omega), k.2 _ f3, f4], f5, f6⟩
  have ge3 : ∀ q o, a3 = some (q, o) → h2.next < q := fun q o e => by have := nw3.ge q o e; omega
  have ge4 : ∀ q o, a4 = some (q, o) → h2.next < q := fun q o e => by have := nw4.ge q o e; omega
  have s3 := up h3 a3 c3 e3 hd nw3.wb nw4.kp ge3
  have s4 := up h4 a4 c4 e4 mk nw4.wb (Kp.refl _) ge4
  have flv : flV [((a3, c3, e3, hd) : Pt), (a4, c4, e4, mk)] = rqB o := by
    show (([hd, mk] : List (List Nat))).flatten = _
    rw [← ehd, ← emk]; unfold rqB mkB4
    rw [show o.kind.toNat = kn by rw [ekn]; rfl]; simp
  obtain ⟨h6, a6, r6, p6, f6⟩ := rawv_go e.ep.rw_ x.raw (M + 20) pn h2.next [((a3, c3, e3, hd) : Pt), (a4, c4, e4, mk)] (some 2) (by show 2 < _; omega) (by show 2 < _; omega) (rB (ops.take i)) ap (by rw [flv, rqB_len]; omega) .rw h5 pe5 (by omega) (by omega) (fun e => by have := pe.alt e; omega) g5 (fun z hz => by
    rcases List.mem_cons.1 hz with rfl | hz
    · exact ⟨s3, fun _ bq oq e => by have := ge3 bq oq e; exact ⟨by omega, fun e2 => by have := pe.alt e2; omega⟩⟩
    · rcases List.mem_singleton.1 hz with rfl
      exact ⟨s4, fun _ bq oq e => by have := ge4 bq oq e; exact ⟨by omega, fun e2 => by have := pe.alt e2; omega⟩⟩)
  rw [flv, ← rB_succ ops i o ho] at p6
  have i1 : i + 1 ≤ ops.length := hi
  have fx := f6.nx
  have kf : Kp h0 h6 := ⟨by have := k05.1; omega, fun j hj => by rw [f6.fr _ (by have := k05.1; omega) (by omega) (fun e => by have := ge j 0 e; omega), k05.2 _ (by omega), kp.2 _ hj]⟩
  have ge6 : ∀ q o, a6 = some (q, o) → h0.next ≤ q := fun q o e => by
    rcases f6.ow with w | ⟨q', w, hq'⟩
    · exact ge q o (by rw [← w]; exact e)
    · rw [w] at e; cases e; have := k05.1; omega
  replace r6 : callX E X (M + 21) (.fn k_octet_Pen_Raw) [.ptr (some (pn, 0)), .slice (some (h2.next, 0)) 2 (some 2) 1] h5 = some (.int .i64 0, h6) := r6
  replace r4 : callX E X (M + 21) (.fn k_crc_Mark) [.slice b o.l.length cb eb] h3 = _ := r4
  have z0 : decide ((0 : Int) = 0) = true := rfl
  obtain ⟨on, eon⟩ : ∃ n, ops.length = n := ⟨_, rfl⟩
  obtain ⟨ol, eol⟩ : ∃ n, o.l.length = n := ⟨_, rfl⟩
  obtain ⟨ml, eml⟩ : ∃ n, mk.length = n := ⟨_, rfl⟩
  rw [eon] at t8 t9 c0 ix
  rw [eol] at ld g1 g2 g3 r2 r3 r4 eh1
  rw [eml] at r4 eh5
  exact ⟨_, h6, by
    simp (config := {maxSteps := 2000000}) (disch := first | omega | (simp only [List.length_cons, List.length_nil, List.length_append, List.length_drop]; omega)) only [L_record_Encode_0, t4, t8, t9, t10, gv, ld, eh1, g1, r2, g2, z0, r3, g3, r4, eh5, r6, c0, wi, ix, st2i, st2ir, ld2, Bool.not_true, s_bump_get, ↓s_dBuildS, ↓s_dBuildSg, s_dbE, vbeq_slice, vbeq_int, ↓s_len, x_lenS, ↓b_xor32, ↓b_and32, ↓b_or32, ↓u_not32, b_xor32, b_and32, b_or32, u_not32, w32ad, ↓x_conv, x_convV, ↓x_fieldAddr, x_fieldV, ↓s_nilchk, x_nilchk, Nat.zero_add, Nat.add_zero, Nat.mul_one, ↓s_evD, ↓s_dnil, ↓s_dL, ↓s_dLg, ↓s_dR, ↓s_dRg, ↓s_dRj, ↓s_dRjg, ↓s_dB, ↓s_dBg, ↓s_dAlloc, ↓s_bindD, s_bindD, s_finD, s_finDx, s_addP0, s_addP1, s_addB, s_lookP, ↓s_bump0, ↓s_bump_get, s_bump_next, s_ok0, ↓s_ok1, s_okR0, ↓s_okR1, ↓s_okE, s_okE, s_okE1, s_nth0, s_nthS, Nat.add_zero, Bool.and_self, Bool.and_true, Bool.true_and, ↓l_loop, ↓l_succ, ↓l_normal, l_normal, l_exit, l_ret, l_iteN, ↓h_put_get, ↓h_new_get, ↓h_del_get, h_next_put, h_next_new, h_next_del, Nat.add_assoc, Nat.add_eq_left, Nat.left_eq_add, Nat.add_left_cancel_iff, ↓s_load, m_load, ↓m_load1, m_load1, ↓m_st, m_stE, m_storeI, m_storeE, w_zero, w_succ, ↓s_alloc, ↓x_idxA, ↓x_idxS, x_idxAE, x_idxSE, x_addrE, x_idx, x_lenS, ↓s_len, ↓x_buildS, x_buildE, ↓x_P0, ↓x_P1, x_fill0, x_filli, x_fills, x_fillb, c_int, List.length_cons, List.length_nil, List.cons_append, List.drop_succ_cons, List.drop_zero, List.drop_nil, List.nil_append, Int.reduceAdd, Int.reduceToNat, Int.reduceLT, Int.reduceLE, Nat.reduceAdd, Nat.reduceMul, Nat.reduceLeDiff, Int.reduceEq, Int.reduceSub, Int.cast_ofNat_Int, s_resc, s_consR, m_load4, m_store4, s_res0, ↓s_skip, ↓s_ops, ↓s_dops, ↓s_seq, ↓s_cond, ↓s_block, ↓s_exit, ↓s_ret, ↓s_scope, ↓s_nil, ↓s_op, ↓s_opg, ↓s_wanted', ↓s_wantV, s_wantV, s_wantV0, beq_true, beq_false, ↓s_bindS, s_bindS, ↓s_bindE, s_bindE, s_bindE_ret, s_bindE_exit, s_bindE_iteN, s_norm, ↓s_condV, s_condV, s_block_ret, s_block_normal, s_block_exit, s_block_iteN, ↓s_getp, ↓s_getp0, ↓s_get, s_get0, ↓s_con, ↓s_fn, ↓s_os0, ↓s_os1, ↓s_list0, ↓s_list1, ↓s_mov, ↓s_pick, ↓s_pickE, s_pickE, ↓s_bin, ↓s_un, ↓s_minmax, ↓s_call, ↓s_callv, ↓s_callV, ↓s_ext, s_same, b_eql, b_neq, b_lss, b_leq, b_gtr, b_geq, b_add, b_sub, b_mul, b_eqlb, b_neqb, b_fnil, b_fnil', b_fnil2, b_fnil2', u_neg, u_not, m_two, s_end, s_end', s_end_iteN, s_res0, s_res1, s_tup1, s_tup2, ↓iteN_true, ↓iteN_false, iteN_true, iteN_false, Nat.zero_add, List.nil_append, List.append_nil, Nat.reduceEqDiff, reduceIte, decide_true, decide_false, Bool.not_true, Bool.not_false, List.getElem?_cons_zero, List.getElem?_cons_succ, Bool.false_eq_true, if_true, if_false, beq_self_eq_true]
    exact rfl, ⟨i1, (by (simp only [s_getp, s_getp0, Nat.reduceEqDiff, decide_false, decide_true, iteN_false, iteN_true, t4]; try rfl)), by rw [eon]; exact (by (simp only [s_getp, s_getp0, Nat.reduceEqDiff, decide_false, decide_true, iteN_false, iteN_true, t8]; try rfl)), by rw [eon]; exact (by (simp only [s_getp, s_getp0, Nat.reduceEqDiff, decide_false, decide_true, iteN_false, iteN_true, t9]; try rfl)), (by (simp only [s_getp, s_getp0, Nat.reduceEqDiff, decide_false, decide_true, iteN_false, iteN_true, t10]; try rfl)), ⟨a6, p6, ge6⟩, kf⟩⟩
end Go.Eng
namespace Go.Eng
open Go
variable {E : Nat → Option Fn} {X : Orc}
set_option linter.unusedSimpArgs false
set_option linter.unusedVariables false
theorem rn_bad (ec : E k_record_Check = some f_record_Check) (xc : ∀ a h, X (.fn k_record_Check) a h = none) (M m : Nat) (ops : List Rq) (hl : ops.length ≤ 20000) (hw : ∀ o ∈ ops, o.l.length ≤ 50000) (a : Option (Nat × Nat)) (c : Option Nat) (ez : Nat) (pn : Nat) (h0 : H) (row : RrS h0 ops a ez) (i : Nat) (o : Rq) (ho : ops[i]? = some o) (hv : rqOk o = false) (T : Tr V) (h : H) (I : RnI (.slice a ops.length c ez) ops pn h0 i T h) :
    ∃ T' h', evC (callX E X (M + 21)) 28 m none L_record_Encode_0 ⟨T, [], h⟩ = some (.ret, ⟨T', [], h'⟩) ∧ evO T' (.t 2) = .slice none 0 (some 0) 0 ∧ evO T' (.t 3) = .int .i64 160 ∧ Kp h0 h' := by
  obtain ⟨_, t4, t8, t9, t10, ⟨ap, pe, ge⟩, kp⟩ := I
  have hi : i < ops.length := (List.getElem?_eq_some_iff.1 ho).1
  have c0 : decide ((i : Int) < (ops.length : Int)) = true := decide_eq_true (by omega)
  have ix : idx (i : Int) ops.length = some i := idxn hi
  obtain ⟨q, off, vs, md, b, cb, eb, rfl, rfl, hq, gq', ld, sb, _⟩ := rr_at row i o ho
  have gv : h.get q = some (.cells vs md) := by rw [kp.2 _ hq, gq']
  have lo := hw o (List.mem_of_getElem? ho)
  obtain ⟨h1, eh1⟩ : ∃ h1, (h.new (.cells [.int .i64 0, .slice none 0 (some 0) 0] .rw)).put h.next (.cells [.int .i64 o.kind, .slice b o.l.length cb eb] .rw) = h1 := ⟨_, rfl⟩
  have k1' : Kp h h1 := by rw [← eh1]; (repeat (first | exact Kp.refl _ | refine Kp.put ?_ _ (by first | omega | (simp only [h_next_put, h_next_new, h_next_del]; omega)) | refine Kp.del ?_ (by first | omega | (simp only [h_next_put, h_next_new, h_next_del]; omega)) | refine Kp.trans ?_ (Kp.new _ _)))
  have g1 : h1.get h.next = some (.cells [.int .i64 o.kind, .slice b o.l.length cb eb] .rw) := by rw [← eh1]; exact h_put_same _ _ _
  obtain ⟨h2, r2, k2⟩ := check_go ec xc (M + 20) o (by omega) b cb eb h1
  rw [hv, if_neg (by simp)] at r2
  have z0 : decide ((160 : Int) = 0) = false := rfl
  obtain ⟨on, eon⟩ : ∃ n, ops.length = n := ⟨_, rfl⟩
  obtain ⟨ol, eol⟩ : ∃ n, o.l.length = n := ⟨_, rfl⟩
  rw [eon] at t8 t9 c0 ix
  rw [eol] at ld g1 r2 eh1
  exact ⟨_, h2, by
    simp (config := {maxSteps := 2000000}) (disch := first | omega | (simp only [List.length_cons, List.length_nil, List.length_append, List.length_drop]; omega)) only [L_record_Encode_0, t4, t8, t9, t10, gv, ld, eh1, g1, r2, z0, c0, ix, st2i, st2ir, ld2, Bool.not_false, ↓s_len, x_lenS, ↓b_xor32, ↓b_and32, ↓b_or32, ↓u_not32, b_xor32, b_and32, b_or32, u_not32, w32ad, ↓x_conv, x_convV, ↓x_fieldAddr, x_fieldV, ↓s_nilchk, x_nilchk, Nat.zero_add, Nat.add_zero, Nat.mul_one, ↓s_evD, ↓s_dnil, ↓s_dL, ↓s_dLg, ↓s_dR, ↓s_dRg, ↓s_dRj, ↓s_dRjg, ↓s_dB, ↓s_dBg, ↓s_dAlloc, ↓s_bindD, s_bindD, s_finD, s_finDx, s_addP0, s_addP1, s_addB, s_lookP, ↓s_bump0, ↓s_bump_get, s_bump_next, s_ok0, ↓s_ok1, s_okR0, ↓s_okR1, ↓s_okE, s_okE, s_okE1, s_nth0, s_nthS, Nat.add_zero, Bool.and_self, Bool.and_true, Bool.true_and, ↓l_loop, ↓l_succ, ↓l_normal, l_normal, l_exit, l_ret, l_iteN, ↓h_put_get, ↓h_new_get, ↓h_del_get, h_next_put, h_next_new, h_next_del, Nat.add_assoc, Nat.add_eq_left, Nat.left_eq_add, Nat.add_left_cancel_iff, ↓s_load, m_load, ↓m_load1, m_load1, ↓m_st, m_stE, m_storeI, m_storeE, w_zero, w_succ, ↓s_alloc, ↓x_idxA, ↓x_idxS, x_idxAE, x_idxSE, x_addrE, x_idx, x_lenS, ↓s_len, ↓x_buildS, x_buildE, ↓x_P0, ↓x_P1, x_fill0, x_filli, x_fills, x_fillb, c_int, List.length_cons, List.length_nil, List.cons_append, List.drop_succ_cons, List.drop_zero, List.drop_nil, List.nil_append, Int.reduceAdd, Int.reduceToNat, Int.reduceLT, Int.reduceLE, Nat.reduceAdd, Nat.reduceMul, Nat.reduceLeDiff, Int.reduceEq, Int.reduceSub, Int.cast_ofNat_Int, s_resc, s_consR, m_load4, m_store4, s_res0, ↓s_skip, ↓s_ops, ↓s_dops, ↓s_seq, ↓s_cond, ↓s_block, ↓s_exit, ↓s_ret, ↓s_scope, ↓s_nil, ↓s_op, ↓s_opg, ↓s_wanted', ↓s_wantV, s_wantV, s_wantV0, beq_true, beq_false, ↓s_bindS, s_bindS, ↓s_bindE, s_bindE, s_bindE_ret, s_bindE_exit, s_bindE_iteN, s_norm, ↓s_condV, s_condV, s_block_ret, s_block_normal, s_block_exit, s_block_iteN, ↓s_getp, ↓s_getp0, ↓s_get, s_get0, ↓s_con, ↓s_fn, ↓s_os0, ↓s_os1, ↓s_list0, ↓s_list1, ↓s_mov, ↓s_pick, ↓s_pickE, s_pickE, ↓s_bin, ↓s_un, ↓s_minmax, ↓s_call, ↓s_callv, ↓s_callV, ↓s_ext, s_same, b_eql, b_neq, b_lss, b_leq, b_gtr, b_geq, b_add, b_sub, b_mul, b_eqlb, b_neqb, b_fnil, b_fnil', b_fnil2, b_fnil2', u_neg, u_not, m_two, s_end, s_end', s_end_iteN, s_res0, s_res1, s_tup1, s_tup2, ↓iteN_true, ↓iteN_false, iteN_true, iteN_false, Nat.zero_add, List.nil_append, List.append_nil, Nat.reduceEqDiff, reduceIte, decide_true, decide_false, Bool.not_true, Bool.not_false, List.getElem?_cons_zero, List.getElem?_cons_succ, Bool.false_eq_true, if_true, if_false, beq_self_eq_true]
    exact rfl, (by (simp only [s_getp, s_getp0, Nat.reduceEqDiff, decide_false, decide_true, iteN_false, iteN_true, t4]; try rfl)), (by (simp only [s_getp, s_getp0, Nat.reduceEqDiff, decide_false, decide_true, iteN_false, iteN_true, t4]; try rfl)), kp.trans (k1'.trans k2)⟩
theorem rq_or (ops : List Rq) : (∀ o ∈ ops, rqOk o = true) ∨ ∃ (j : Nat) (o : Rq), ops[j]? = some o ∧ rqOk o = false ∧ ∀ (i : Nat) (o' : Rq), i < j → ops[i]? = some o' → rqOk o' = true := by
  induction ops with
  | nil => exact .inl (fun o ho => by cases ho)
  | cons a r ih =>
    cases ha : rqOk a with
    | false => exact .inr ⟨0, a, rfl, ha, fun i o' hi => by omega⟩
    | true =>
      rcases ih with ih | ⟨j, o, h1, h2, h3⟩
      · exact .inl (fun o ho => by rcases List.mem_cons.1 ho with rfl | ho; exact ha; exact ih o ho)
      · refine .inr ⟨j + 1, o, by simpa using h1, h2, fun i o' hi ho => ?_⟩
        cases i with
        | zero => simp at ho; subst ho; exact ha
        | succ i => simp at ho; exact h3 i o' (by omega) ho
theorem rB_le (ops : List Rq) (i : Nat) : (rB (ops.take i)).length ≤ (rB ops).length := by
  have : rB ops = rB (ops.take i) ++ rB (ops.drop i) := by
    unfold rB; rw [← List.flatten_append, ← List.map_append, List.take_append_drop]
  rw [this, List.length_append]; omega
def enR (ops : List Rq) : List Nat × Nat := if ops.all rqOk = true then (rB ops, 0) else ([], 160)
theorem encode_go (ee : E k_record_Encode = some f_record_Encode) (xe : ∀ a h, X (.fn k_record_Encode) a h = none) (ec : E k_record_Check = some f_record_Check) (xc : ∀ a h, X (.fn k_record_Check) a h = none) (ef : E k_record_head = some f_record_head) (xh : ∀ a h, X (.fn k_record_head) a h = none) (e : EnCm E) (x : NoCm X) (M : Nat) (hM : 50100 < M) (ops : List Rq) (hl : ops.length ≤ 20000) (ok : ∀ o ∈ ops, o.ok) (hw : ∀ o ∈ ops, o.l.length ≤ 50000) (hT : (rB ops).length ≤ 800000) (a : Option (Nat × Nat)) (c : Option Nat) (ez : Nat) (h : H) (row : RrS h ops a ez) :
    ∃ h' a2 c2 e2, callX E X (M + 22) (.fn k_record_Encode) [.slice a ops.length c ez] h = some (.tup [.slice a2 (enR ops).1.length c2 e2, .int .i64 ((enR ops).2 : Int)], h') ∧ Nw h h' (enR ops).1 a2 c2 e2 := by
  rw [x_cfn ee _ _ (Nat.le_of_ble_eq_true rfl) (xe _ _)]
  obtain ⟨hQ, eQ⟩ : ∃ hQ, h.new (.cells [.slice none 0 (some 0) 0] .rw) = hQ := ⟨_, rfl⟩
  have kQ : Kp h hQ := by rw [← eQ]; exact Kp.new _ _
  have nQ : hQ.next = h.next + 1 := by rw [← eQ]; rfl
  have gQ : hQ.get h.next = some (.cells [.slice none 0 (some 0) 0] .rw) := by rw [← eQ]; exact h_new_same _ _
  have fin : ∀ T, RnI (.slice a ops.length c ez) ops h.next h 0 T hQ → ∃ h' a2 c2 e2, fnEnd [.tmp 2, .tmp 3] (bindE (blockE 0 (loopN (evC (callX E X (M + 21)) 28 (M + 21) none L_record_Encode_0) (M + 21) ⟨T, [], hQ⟩)) (evC (callX E X (M + 21)) 28 (M + 21) none R_record_Encode_0)) = some (.tup [.slice a2 (enR ops).1.length c2 e2, .int .i64 ((enR ops).2 : Int)], h') ∧ Nw h h' (enR ops).1 a2 c2 e2 := by
    intro T I
    unfold enR
    rcases rq_or ops with okv | ⟨j, o, ho, vo, hb⟩
    · rw [if_pos (List.all_eq_true.2 okv)]
      obtain ⟨T', h', rr, J⟩ := loop_go (f := evC (callX E X (M + 21)) 28 (M + 21) none L_record_Encode_0) (RnI (.slice a ops.length c ez) ops h.next h) ops.length (.exit 0) (by intro h; cases h) (RnI (.slice a ops.length c ez) ops h.next h ops.length) (fun i T h' hi I => by
        obtain ⟨o, ho⟩ : ∃ o, ops[i]? = some o := ⟨_, List.getElem?_eq_getElem hi⟩
        exact rn_step ec xc ef xh e x M (M + 21) hM ops hl ok hw a c ez h.next h (Nat.le_refl _) row i o ho (okv o (List.mem_of_getElem? ho)) (by have := rB_le ops i; omega) T h' I) (fun T h' I => by
        obtain ⟨il, t4, t8, t9, t10, st, kp⟩ := I
        have c0 : decide ((ops.length : Int) < (ops.length : Int)) = false := decide_eq_false (by omega)
        obtain ⟨n, en⟩ : ∃ n, ops.length = n := ⟨_, rfl⟩
        rw [en] at t8 t9 t10 c0
        exact ⟨_, h', by
          simp (config := {maxSteps := 2000000}) (disch := first | omega | (simp only [List.length_cons, List.length_nil, List.length_append, List.length_drop]; omega)) only [L_record_Encode_0, t9, t10, c0, ↓b_xor32, ↓b_and32, ↓b_or32, ↓u_not32, b_xor32, b_and32, b_or32, u_not32, w32ad, ↓x_conv, x_convV, ↓x_fieldAddr, x_fieldV, ↓s_nilchk, x_nilchk, Nat.zero_add, Nat.add_zero, Nat.mul_one, ↓l_loop, ↓l_succ, ↓l_normal, l_normal, l_exit, l_ret, l_iteN, ↓h_put_get, ↓h_new_get, ↓h_del_get, h_next_put, h_next_new, h_next_del, Nat.add_assoc, Nat.add_eq_left, Nat.left_eq_add, Nat.add_left_cancel_iff, ↓s_load, m_load, ↓m_load1, m_load1, ↓m_st, m_stE, m_storeI, m_storeE, w_zero, w_succ, ↓s_alloc, ↓x_idxA, ↓x_idxS, x_idxAE, x_idxSE, x_addrE, x_idx, x_lenS, ↓s_len, ↓x_buildS, x_buildE, ↓x_P0, ↓x_P1, x_fill0, x_filli, x_fills, x_fillb, c_int, List.length_cons, List.length_nil, List.cons_append, List.drop_succ_cons, List.drop_zero, List.drop_nil, List.nil_append, Int.reduceAdd, Int.reduceToNat, Int.reduceLT, Int.reduceLE, Nat.reduceAdd, Nat.reduceMul, Nat.reduceLeDiff, Int.reduceEq, Int.reduceSub, Int.cast_ofNat_Int, s_resc, s_consR, m_load4, m_store4, s_res0, ↓s_skip, ↓s_ops, ↓s_dops, ↓s_seq, ↓s_cond, ↓s_block, ↓s_exit, ↓s_ret, ↓s_scope, ↓s_nil, ↓s_op, ↓s_opg, ↓s_wanted', ↓s_wantV, s_wantV, s_wantV0, beq_true, beq_false, ↓s_bindS, s_bindS, ↓s_bindE, s_bindE, s_bindE_ret, s_bindE_exit, s_bindE_iteN, s_norm, ↓s_condV, s_condV, s_block_ret, s_block_normal, s_block_exit, s_block_iteN, ↓s_getp, ↓s_getp0, ↓s_get, s_get0, ↓s_con, ↓s_fn, ↓s_os0, ↓s_os1, ↓s_list0, ↓s_list1, ↓s_mov, ↓s_pick, ↓s_pickE, s_pickE, ↓s_bin, ↓s_un, ↓s_minmax, ↓s_call, ↓s_callv, ↓s_callV, ↓s_ext, s_same, b_eql, b_neq, b_lss, b_leq, b_gtr, b_geq, b_add, b_sub, b_mul, b_eqlb, b_neqb, b_fnil, b_fnil', b_fnil2, b_fnil2', u_neg, u_not, m_two, s_end, s_end', s_end_iteN, s_res0, s_res1, s_tup1, s_tup2, ↓iteN_true, ↓iteN_false, iteN_true, iteN_false, Nat.zero_add, List.nil_append, List.append_nil, Nat.reduceEqDiff, reduceIte, decide_true, decide_false, Bool.not_true, Bool.not_false, List.getElem?_cons_zero, List.getElem?_cons_succ, Bool.false_eq_true, if_true, if_false, beq_self_eq_true]
          exact rfl, ⟨il, (by (simp only [s_getp, s_getp0, Nat.reduceEqDiff, decide_false, decide_true, iteN_false, iteN_true, t4]; try rfl)), by rw [en]; exact (by (simp only [s_getp, s_getp0, Nat.reduceEqDiff, decide_false, decide_true, iteN_false, iteN_true, t8]; try rfl)), by rw [en]; exact (by (simp only [s_getp, s_getp0, Nat.reduceEqDiff, decide_false, decide_true, iteN_false, iteN_true, t9]; try rfl)), by rw [en]; exact (by (simp only [s_getp, s_getp0, Nat.reduceEqDiff, decide_false, decide_true, iteN_false, iteN_true, t10]; try rfl)), st, kp⟩⟩) ops.length 0 (by omega) (M + 21) (by omega) T hQ I
      rw [rr]
      obtain ⟨_, t4, t8, t9, t10, ⟨ap, pe, ge⟩, kp⟩ := J
      rw [List.take_length] at pe
      obtain ⟨a2, c2, e2, h2, r2, nw⟩ := allv_go e.ep.al x.all (M + 20) h.next (rB ops) (by omega) ap h' pe
      refine ⟨h2, a2, c2, e2, ?_, ⟨kp.trans nw.kp, nw.wb, fun q z e => by have := nw.ge q z e; have := kp.1; omega⟩⟩
      simp only
      generalize (rB ops).length = n at *
      simp (config := {maxSteps := 2000000}) (disch := first | omega | (simp only [List.length_cons, List.length_nil, List.length_append, List.length_drop]; omega)) only [R_record_Encode_0, t4, r2, ↓b_xor32, ↓b_and32, ↓b_or32, ↓u_not32, b_xor32, b_and32, b_or32, u_not32, w32ad, ↓x_conv, x_convV, ↓x_fieldAddr, x_fieldV, ↓s_nilchk, x_nilchk, Nat.zero_add, Nat.add_zero, Nat.mul_one, ↓l_loop, ↓l_succ, ↓l_normal, l_normal, l_exit, l_ret, l_iteN, ↓h_put_get, ↓h_new_get, ↓h_del_get, h_next_put, h_next_new, h_next_del, Nat.add_assoc, Nat.add_eq_left, Nat.left_eq_add, Nat.add_left_cancel_iff, ↓s_load, m_load, ↓m_load1, m_load1, ↓m_st, m_stE, m_storeI, m_storeE, w_zero, w_succ, ↓s_alloc, ↓x_idxA, ↓x_idxS, x_idxAE, x_idxSE, x_addrE, x_idx, x_lenS, ↓s_len, ↓x_buildS, x_buildE, ↓x_P0, ↓x_P1, x_fill0, x_filli, x_fills, x_fillb, c_int, List.length_cons, List.length_nil, List.cons_append, List.drop_succ_cons, List.drop_zero, List.drop_nil, List.nil_append, Int.reduceAdd, Int.reduceToNat, Int.reduceLT, Int.reduceLE, Nat.reduceAdd, Nat.reduceMul, Nat.reduceLeDiff, Int.reduceEq, Int.reduceSub, Int.cast_ofNat_Int, s_resc, s_consR, m_load4, m_store4, s_res0, ↓s_skip, ↓s_ops, ↓s_dops, ↓s_seq, ↓s_cond, ↓s_block, ↓s_exit, ↓s_ret, ↓s_scope, ↓s_nil, ↓s_op, ↓s_opg, ↓s_wanted', ↓s_wantV, s_wantV, s_wantV0, beq_true, beq_false, ↓s_bindS, s_bindS, ↓s_bindE, s_bindE, s_bindE_ret, s_bindE_exit, s_bindE_iteN, s_norm, ↓s_condV, s_condV, s_block_ret, s_block_normal, s_block_exit, s_block_iteN, ↓s_getp, ↓s_getp0, ↓s_get, s_get0, ↓s_con, ↓s_fn, ↓s_os0, ↓s_os1, ↓s_list0, ↓s_list1, ↓s_mov, ↓s_pick, ↓s_pickE, s_pickE, ↓s_bin, ↓s_un, ↓s_minmax, ↓s_call, ↓s_callv, ↓s_callV, ↓s_ext, s_same, b_eql, b_neq, b_lss, b_leq, b_gtr, b_geq, b_add, b_sub, b_mul, b_eqlb, b_neqb, b_fnil, b_fnil', b_fnil2, b_fnil2', u_neg, u_not, m_two, s_end, s_end', s_end_iteN, s_res0, s_res1, s_tup1, s_tup2, ↓iteN_true, ↓iteN_false, iteN_true, iteN_false, Nat.zero_add, List.nil_append, List.append_nil, Nat.reduceEqDiff, reduceIte, decide_true, decide_false, Bool.not_true, Bool.not_false, List.getElem?_cons_zero, List.getElem?_cons_succ, Bool.false_eq_true, if_true, if_false, beq_self_eq_true]
      try rfl
    · rw [if_neg (fun h => by have := List.all_eq_true.1 h o (List.mem_of_getElem? ho); rw [vo] at this; cases this)]
      have hj : j < ops.length := (List.getElem?_eq_some_iff.1 ho).1
      obtain ⟨T', h', rr, u2, u3, k⟩ := loop_go (f := evC (callX E X (M + 21)) 28 (M + 21) none L_record_Encode_0) (RnI (.slice a ops.length c ez) ops h.next h) j .ret (by intro h; cases h) (fun T' h' => evO T' (.t 2) = .slice none 0 (some 0) 0 ∧ evO T' (.t 3) = .int .i64 160 ∧ Kp h h') (fun i T h' hi I => by
        obtain ⟨o', ho'⟩ : ∃ o, ops[i]? = some o := ⟨_, List.getElem?_eq_getElem (by omega)⟩
        exact rn_step ec xc ef xh e x M (M + 21) hM ops hl ok hw a c ez h.next h (Nat.le_refl _) row i o' ho' (hb i o' hi ho') (by have := rB_le ops i; omega) T h' I) (fun T h' I => rn_bad ec xc M (M + 21) ops hl hw a c ez h.next h row j o ho vo T h' I) j 0 (by omega) (M + 21) (by omega) T hQ I
      rw [rr]
      refine ⟨h', none, some 0, 0, ?_, ⟨k, .nil _, fun _ _ e => by cases e⟩⟩
      simp (config := {maxSteps := 2000000}) (disch := first | omega | (simp only [List.length_cons, List.length_nil, List.length_append, List.length_drop]; omega)) only [u2, u3, ↓b_xor32, ↓b_and32, ↓b_or32, ↓u_not32, b_xor32, b_and32, b_or32, u_not32, w32ad, ↓x_conv, x_convV, ↓x_fieldAddr, x_fieldV, ↓s_nilchk, x_nilchk, Nat.zero_add, Nat.add_zero, Nat.mul_one, ↓l_loop, ↓l_succ, ↓l_normal, l_normal, l_exit, l_ret, l_iteN, ↓h_put_get, ↓h_new_get, ↓h_del_get, h_next_put, h_next_new, h_next_del, Nat.add_assoc, Nat.add_eq_left, Nat.left_eq_add, Nat.add_left_cancel_iff, ↓s_load, m_load, ↓m_load1, m_load1, ↓m_st, m_stE, m_storeI, m_storeE, w_zero, w_succ, ↓s_alloc, ↓x_idxA, ↓x_idxS, x_idxAE, x_idxSE, x_addrE, x_idx, x_lenS, ↓s_len, ↓x_buildS, x_buildE, ↓x_P0, ↓x_P1, x_fill0, x_filli, x_fills, x_fillb, c_int, List.length_cons, List.length_nil, List.cons_append, List.drop_succ_cons, List.drop_zero, List.drop_nil, List.nil_append, Int.reduceAdd, Int.reduceToNat, Int.reduceLT, Int.reduceLE, Nat.reduceAdd, Nat.reduceMul, Nat.reduceLeDiff, Int.reduceEq, Int.reduceSub, Int.cast_ofNat_Int, s_resc, s_consR, m_load4, m_store4, s_res0, ↓s_skip, ↓s_ops, ↓s_dops, ↓s_seq, ↓s_cond, ↓s_block, ↓s_exit, ↓s_ret, ↓s_scope, ↓s_nil, ↓s_op, ↓s_opg, ↓s_wanted', ↓s_wantV, s_wantV, s_wantV0, beq_true, beq_false, ↓s_bindS, s_bindS, ↓s_bindE, s_bindE, s_bindE_ret, s_bindE_exit, s_bindE_iteN, s_norm, ↓s_condV, s_condV, s_block_ret, s_block_normal, s_block_exit, s_block_iteN, ↓s_getp, ↓s_getp0, ↓s_get, s_get0, ↓s_con, ↓s_fn, ↓s_os0, ↓s_os1, ↓s_list0, ↓s_list1, ↓s_mov, ↓s_pick, ↓s_pickE, s_pickE, ↓s_bin, ↓s_un, ↓s_minmax, ↓s_call, ↓s_callv, ↓s_callV, ↓s_ext, s_same, b_eql, b_neq, b_lss, b_leq, b_gtr, b_geq, b_add, b_sub, b_mul, b_eqlb, b_neqb, b_fnil, b_fnil', b_fnil2, b_fnil2', u_neg, u_not, m_two, s_end, s_end', s_end_iteN, s_res0, s_res1, s_tup1, s_tup2, ↓iteN_true, ↓iteN_false, iteN_true, iteN_false, Nat.zero_add, List.nil_append, List.append_nil, Nat.reduceEqDiff, reduceIte, decide_true, decide_false, Bool.not_true, Bool.not_false, List.getElem?_cons_zero, List.getElem?_cons_succ, Bool.false_eq_true, if_true, if_false, beq_self_eq_true]
      try rfl
  obtain ⟨R, eR⟩ : ∃ R, R_record_Encode_0 = R := ⟨_, rfl⟩
  obtain ⟨Lo, eL⟩ : ∃ R, L_record_Encode_0 = R := ⟨_, rfl⟩
  rw [eR, eL] at fin ⊢
  obtain ⟨n, en⟩ : ∃ n, ops.length = n := ⟨_, rfl⟩
  rw [en] at ⊢
  simp (config := {maxSteps := 2000000}) (disch := first | omega | (simp only [List.length_cons, List.length_nil, List.length_append, List.length_drop]; omega)) only [eQ, ↓s_len, x_lenS, ↓b_xor32, ↓b_and32, ↓b_or32, ↓u_not32, b_xor32, b_and32, b_or32, u_not32, w32ad, ↓x_conv, x_convV, ↓x_fieldAddr, x_fieldV, ↓s_nilchk, x_nilchk, Nat.zero_add, Nat.add_zero, Nat.mul_one, ↓l_loop, ↓l_succ, ↓l_normal, l_normal, l_exit, l_ret, l_iteN, ↓h_put_get, ↓h_new_get, ↓h_del_get, h_next_put, h_next_new, h_next_del, Nat.add_assoc, Nat.add_eq_left, Nat.left_eq_add, Nat.add_left_cancel_iff, ↓s_load, m_load, ↓m_load1, m_load1, ↓m_st, m_stE, m_storeI, m_storeE, w_zero, w_succ, ↓s_alloc, ↓x_idxA, ↓x_idxS, x_idxAE, x_idxSE, x_addrE, x_idx, x_lenS, ↓s_len, ↓x_buildS, x_buildE, ↓x_P0, ↓x_P1, x_fill0, x_filli, x_fills, x_fillb, c_int, List.length_cons, List.length_nil, List.cons_append, List.drop_succ_cons, List.drop_zero, List.drop_nil, List.nil_append, Int.reduceAdd, Int.reduceToNat, Int.reduceLT, Int.reduceLE, Nat.reduceAdd, Nat.reduceMul, Nat.reduceLeDiff, Int.reduceEq, Int.reduceSub, Int.cast_ofNat_Int, s_resc, s_consR, m_load4, m_store4, s_res0, ↓s_skip, ↓s_ops, ↓s_dops, ↓s_seq, ↓s_cond, ↓s_block, ↓s_exit, ↓s_ret, ↓s_scope, ↓s_nil, ↓s_op, ↓s_opg, ↓s_wanted', ↓s_wantV, s_wantV, s_wantV0, beq_true, beq_false, ↓s_bindS, s_bindS, ↓s_bindE, s_bindE, s_bindE_ret, s_bindE_exit, s_bindE_iteN, s_norm, ↓s_condV, s_condV, s_block_ret, s_block_normal, s_block_exit, s_block_iteN, ↓s_getp, ↓s_getp0, ↓s_get, s_get0, ↓s_con, ↓s_fn, ↓s_os0, ↓s_os1, ↓s_list0, ↓s_list1, ↓s_mov, ↓s_pick, ↓s_pickE, s_pickE, ↓s_bin, ↓s_un, ↓s_minmax, ↓s_call, ↓s_callv, ↓s_callV, ↓s_ext, s_same, b_eql, b_neq, b_lss, b_leq, b_gtr, b_geq, b_add, b_sub, b_mul, b_eqlb, b_neqb, b_fnil, b_fnil', b_fnil2, b_fnil2', u_neg, u_not, m_two, s_end, s_end', s_end_iteN, s_res0, s_res1, s_tup1, s_tup2, ↓iteN_true, ↓iteN_false, iteN_true, iteN_false, Nat.zero_add, List.nil_append, List.append_nil, Nat.reduceEqDiff, reduceIte, decide_true, decide_false, Bool.not_true, Bool.not_false, List.getElem?_cons_zero, List.getElem?_cons_succ, Bool.false_eq_true, if_true, if_false, beq_self_eq_true]
  exact fin _ ⟨Nat.zero_le _, (by (simp only [s_getp, s_getp0, Nat.reduceEqDiff, decide_false, decide_true, iteN_false, iteN_true, eL]; try rfl)), by rw [en]; exact (by (simp only [s_getp, s_getp0, Nat.reduceEqDiff, decide_false, decide_true, iteN_false, iteN_true, eL]; try rfl)), by rw [en]; exact (by (simp only [s_getp, s_getp0, Nat.reduceEqDiff, decide_false, decide_true, iteN_false, iteN_true, eL]; try rfl)), (by (simp only [s_getp, s_getp0, Nat.reduceEqDiff, decide_false, decide_true, iteN_false, iteN_true, eL]; try rfl)), ⟨none, .new _ _ (by omega) gQ, fun _ _ e => by cases e⟩, kQ⟩
end Go.Eng
