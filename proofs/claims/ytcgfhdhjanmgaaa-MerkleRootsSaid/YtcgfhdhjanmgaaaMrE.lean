/- What functions of the program come to: own work. -/
import Derived.Test.YtcgfhdhjanmgaaaMrD
namespace Go.Eng
open Go
variable {E : Nat → Option Fn} {X : Orc}
set_option linter.unusedSimpArgs false
set_option linter.unusedVariables false
/-- is there a pair of two alike? -/
def anyEq (P : List (List Nat)) : Bool := P.any (fun p => decide (p.take 32 = p.drop 32))
/-- whether a list is swollen -/
def swL (l : List (List Nat)) : Bool := if h : l.length ≤ 1 then false else anyEq ((prs l).take (l.length / 2)) || swL (up l)
termination_by l.length
decreasing_by rw [up_len]; omega
theorem swL_1 (r : List Nat) : swL [r] = false := by rw [swL]; simp
theorem swL_up (l : List (List Nat)) (h : 1 < l.length) : swL l = (anyEq ((prs l).take (l.length / 2)) || swL (up l)) := by
  rw [swL, dif_neg (by omega)]
structure EnSw (E : Nat → Option Fn) : Prop where
  lv : EnLv E
  sw : E k_merkle_Swollen = some f_merkle_Swollen
  sm : E k_merkle_same_api_Hash = some f_merkle_same_api_Hash
structure NoSw (X : Orc) : Prop where
  lv : NoLv X
  sw : ∀ a h, X (.fn k_merkle_Swollen) a h = none
  sm : ∀ a h, X (.fn k_merkle_same_api_Hash) a h = none
theorem same8_go (e : E k_merkle_same_api_Hash = some f_merkle_same_api_Hash) (x : ∀ a h, X (.fn k_merkle_same_api_Hash) a h = none) (N : Nat) (A B : List Nat) (hA : A.length = 32) (hB : B.length = 32) (h : H) :
    ∃ h', callX E X (N + 1) (.fn k_merkle_same_api_Hash) [.agg (ofI .u8 A), .agg (ofI .u8 B)] h = some (.bool (decide (A = B)), h') ∧ Kp h h' := by
  rw [x_cfn e _ _ (Nat.le_of_ble_eq_true rfl) (x _ _)]
  have ca' : ∀ l : List V, (V.agg l).cells = l := fun _ => rfl
  have ldG : ∀ (l : List Nat) (_ : l.length = 32) m, loadE (some (.cells (ofI .u8 l) m)) (some 32) 0 = some (.agg (ofI .u8 l)) := fun l hl m => by rw [m_loadN, x_readAll _ 32 (by rw [ofI_len, hl])]
  have l1 := ldG A hA
  have l2 := ldG B hB
  have eq := fun h => eq32 h A B hA hB
  refine ⟨(h.new (.cells (ofI .u8 A) .rw)).new (.cells (ofI .u8 B) .rw), ?_, by (repeat (first | exact Kp.refl _ | refine Kp.put ?_ _ (by first | omega | (simp only [h_next_put, h_next_new, h_next_del]; omega)) | refine Kp.del ?_ (by first | omega | (simp only [h_next_put, h_next_new, h_next_del]; omega)) | refine Kp.trans ?_ (Kp.new _ _)))⟩
  generalize decide (A = B) = D at *
  generalize ofI .u8 A = CA at *
  generalize ofI .u8 B = CB at *
  simp (config := {maxSteps := 2000000}) (disch := first | omega | (simp only [List.length_cons, List.length_nil, List.length_append, List.length_drop]; omega)) only [ca', l1, l2, eq, ↓s_box, Nat.zero_add, ↓h_new_get, h_next_new, Nat.add_eq_left, ↓s_load, m_load, s_res0, ↓s_ops, ↓s_seq, ↓s_ret, ↓s_nil, ↓s_op, ↓s_bindS, s_bindS, ↓s_bindE, s_bindE, s_norm, ↓s_getp, ↓s_get, ↓s_con, ↓s_list0, ↓s_list1, ↓s_mov, ↓s_bin, s_same, s_end, s_res0, s_res1, s_tup1, ↓iteN_true, ↓iteN_false, iteN_true, iteN_false, Nat.zero_add, Nat.reduceEqDiff, decide_true, decide_false]
structure SwI (b q m : Nat) (h0 : H) (i : Nat) (T : Tr V) (h : H) : Prop where
  t3 : evO T (.t 3) = .ptr (some (b, 0))
  t4 : evO T (.t 4) = .ptr (some (b + 1, 0))
  t5 : evO T (.t 5) = evO T (.t 5)
  t16 : evO T (.t 16) = .slice (some (q, 0)) m none 64
  t17 : evO T (.t 17) = .int .i64 (m : Int)
  t18 : evO T (.t 18) = .int .i64 (i : Int)
  gb : h.get b = some (.cells [.bool false] .rw)
  nx : h0.next ≤ h.next
  fr : ∀ j, j < h0.next → j ≠ b → h.get j = h0.get j
theorem sw_step (e : EnSw E) (x : NoSw X) (M n b q m rnd : Nat) (v5 : V) (P : List (List Nat)) (hm : m ≤ P.length) (hP : P.length ≤ 1000) (h0 : H) (hq : q < h0.next) (hb : b < h0.next) (hqb : q ≠ b) (vs : List V) (md : Md) (gq : h0.get q = some (.cells vs md)) (rb : RowB 64 vs P) (i : Nat) (hi : i < m) (T : Tr V) (h : H) (I : SwI b q m h0 i T h) (u5 : evO T (.t 5) = v5) (p : List Nat) (hp : P[i]? = some p) :
    ∃ T' h', evC (callX E X (M + 1)) 32 n (some rnd) L_merkle_Swollen_0 ⟨T, [], h⟩ = some (if p.take 32 = p.drop 32 then .exit 0 else .normal, ⟨T', [], h'⟩) ∧ (p.take 32 = p.drop 32 → h'.get b = some (.cells [.bool true] .rw) ∧ h0.next ≤ h'.next ∧ ∀ j, j < h0.next → j ≠ b → h'.get j = h0.get j) ∧ (¬ p.take 32 = p.drop 32 → SwI b q m h0 (i + 1) T' h' ∧ evO T' (.t 5) = v5) := by
  obtain ⟨t3, t4, _, t16, t17, t18, gb, nx, fr⟩ := I
  have lA := rowB_ld (vs := vs) (off := 0) (by rw [List.drop_zero]; exact rb) hp (by decide) md
  rw [Nat.zero_add] at lA
  have hp64 := (rb.2 _ _ hp).2
  obtain ⟨h1, e1⟩ : ∃ h1, (h.new (.cells (ofI .u8 (List.replicate 64 0)) .rw)).put h.next (.cells (ofI .u8 p) .rw) = h1 := ⟨_, rfl⟩
  have n1 : h1.next = h.next + 1 := by rw [← e1]; rfl
  have k1 : Kp h h1 := by rw [← e1]; (repeat (first | exact Kp.refl _ | refine Kp.put ?_ _ (by first | omega | (simp only [h_next_put, h_next_new, h_next_del]; omega)) | refine Kp.del ?_ (by first | omega | (simp only [h_next_put, h_next_new, h_next_del]; omega)) | refine Kp.trans ?_ (Kp.new _ _)))
  have g1 : h1.get h.next = some (.cells (ofI .u8 p) .rw) := by rw [← e1]; exact h_put_same _ _ _
  obtain ⟨h2, r2, k2⟩ := same8_go e.sm x.sm M (p.take 32) (p.drop 32) (by rw [List.length_take]; omega) (by rw [List.length_drop]; omega) h1
  have n2 := k2.1
  have gb2 : h2.get b = some (.cells [.bool false] .rw) := by rw [k2.2 _ (by omega), k1.2 _ (by omega), gb]
  have gqh : h.get q = some (.cells vs md) := by rw [fr _ hq hqb, gq]
  have c0 : decide ((i : Int) < (m : Int)) = true := decide_eq_true (by omega)
  have wi : wr .i64 ((i : Int) + 1) = ((i + 1 : Nat) : Int) := by rw [wr_i64 (by omega)]; omega
  have ix : idx (i : Int) m = some i := idxn hi
  have st : ∀ h i, storeV h 64 (.ptr (some (i, 0))) (.agg (ofI .u8 p)) = storeE (h.get i) h i 0 (ofI .u8 p) := fun h i => st64 h i 0 _ hp64
  have pu : ∀ h i, storeE (some (.cells (ofI .u8 (List.replicate 64 0)) .rw)) h i 0 (ofI .u8 p) = some (h.put i (.cells (ofI .u8 p) .rw)) := fun h i => by
    rw [m_storeE _ _ _ _ _ (by rw [ofI_len, ofI_len, hp64, List.length_replicate]; omega), wrAll _ _ _ (by rw [List.length_replicate, hp64])]
  have ld1 : ∀ m, loadE (some (.cells (ofI .u8 p) m)) (some 32) 0 = some (.agg (ofI .u8 (p.take 32))) := fun m => by rw [ldI _ _ _ _ _ (by omega), List.drop_zero]
  have ld2 : ∀ m, loadE (some (.cells (ofI .u8 p) m)) (some 32) 32 = some (.agg (ofI .u8 (p.drop 32))) := fun m => by rw [ldI _ _ _ _ _ (by omega), List.take_of_length_le (by rw [List.length_drop]; omega)]
  have e64 := z64e
  obtain ⟨Z, eZ⟩ : ∃ Z, ofI .u8 (List.replicate 64 0) = Z := ⟨_, rfl⟩
  rw [eZ] at e1 pu e64
  have al : ∀ (Q : Orc) (T : Tr V) (h : H), Eng.step (.alloc [.int .u8 0, .int .u8 0, .int .u8 0, .int .u8 0, .int .u8 0, .int .u8 0, .int .u8 0, .int .u8 0, .int .u8 0, .int .u8 0, .int .u8 0, .int .u8 0, .int .u8 0, .int .u8 0, .int .u8 0, .int .u8 0, .int .u8 0, .int .u8 0, .int .u8 0, .int .u8 0, .int .u8 0, .int .u8 0, .int .u8 0, .int .u8 0, .int .u8 0, .int .u8 0, .int .u8 0, .int .u8 0, .int .u8 0, .int .u8 0, .int .u8 0, .int .u8 0, .int .u8 0, .int .u8 0, .int .u8 0, .int .u8 0, .int .u8 0, .int .u8 0, .int .u8 0, .int .u8 0, .int .u8 0, .int .u8 0, .int .u8 0, .int .u8 0, .int .u8 0, .int .u8 0, .int .u8 0, .int .u8 0, .int .u8 0, .int .u8 0, .int .u8 0, .int .u8 0, .int .u8 0, .int .u8 0, .int .u8 0, .int .u8 0, .int .u8 0, .int .u8 0, .int .u8 0, .int .u8 0, .int .u8 0, .int .u8 0, .int .u8 0, .int .u8 0]) Q T h = some (.ptr (some (h.next, 0)), h.new (.cells Z .rw)) := fun Q T h => by rw [e64]; rfl
  have gz : (h.new (.cells Z .rw)).get h.next = some (.cells Z .rw) := h_new_same _ _
  have i0 : idx (0 : Int) 2 = some 0 := rfl
  have i1 : idx (1 : Int) 2 = some 1 := rfl
  by_cases hc : p.take 32 = p.drop 32
  · rw [if_pos hc]
    have hd : decide (p.take 32 = p.drop 32) = true := decide_eq_true hc
    rw [hd] at r2
    obtain ⟨h3, e3⟩ : ∃ h3, h2.put b (.cells [.bool true] .rw) = h3 := ⟨_, rfl⟩
    have g3 : h3.get b = some (.cells [.bool true] .rw) := by rw [← e3]; exact h_put_same _ _ _
    have n3 : h3.next = h2.next := by rw [← e3]; rfl
    clear hd
    generalize ofI .u8 (p.take 32) = C1 at *
    generalize ofI .u8 (p.drop 32) = C2 at *
    generalize ofI .u8 p = CA at *
    refine ⟨_, h3, by
      simp (config := {maxSteps := 2000000}) (disch := first | omega | (simp only [List.length_cons, List.length_nil, List.length_append, List.length_drop]; omega)) only [L_merkle_Swollen_0, t3, t16, t17, t18, gqh, lA, c0, ix, ↓al, e1, st, pu, g1, i0, i1, ld1, ld2, r2, gb2, e3, g3, m_load1, m_storeB, Nat.zero_add, Nat.add_zero, ↓h_new_get, ↓s_load, m_load, ↓m_load1, m_load1, ↓m_st, m_stE, m_storeE, w_zero, ↓x_idxA, ↓x_idxS, x_idxAE, x_idxSE, x_addrE, List.length_cons, List.length_nil, List.drop_succ_cons, List.drop_nil, Nat.reduceMul, ↓s_skip, ↓s_ops, ↓s_seq, ↓s_cond, ↓s_block, ↓s_exit, ↓s_nil, ↓s_op, ↓s_bindS, s_bindS, ↓s_bindE, s_bindE, s_bindE_exit, s_norm, ↓s_condV, s_condV, s_block_exit, ↓s_getp, ↓s_getp0, ↓s_con, ↓s_os0, ↓s_os1, ↓s_bin, ↓s_call, s_same, b_lss, ↓iteN_true, ↓iteN_false, iteN_true, iteN_false, Nat.zero_add, List.append_nil, Nat.reduceEqDiff, decide_true, decide_false, List.getElem?_cons_zero, if_false]
      exact rfl, fun _ => ⟨g3, by omega, fun j hj hb' => by rw [← e3, h_put_ne _ _ (Ne.symm hb'), k2.2 _ (by omega), k1.2 _ (by omega), fr _ hj hb']⟩, fun hn => absurd hc hn⟩
  · rw [if_neg hc]
    have hd : decide (p.take 32 = p.drop 32) = false := decide_eq_false hc
    rw [hd] at r2
    obtain ⟨h3, e3⟩ : ∃ h3, h2.put b (.cells [.bool false] .rw) = h3 := ⟨_, rfl⟩
    have g3 : h3.get b = some (.cells [.bool false] .rw) := by rw [← e3]; exact h_put_same _ _ _
    have n3 : h3.next = h2.next := by rw [← e3]; rfl
    clear hd
    generalize ofI .u8 (p.take 32) = C1 at *
    generalize ofI .u8 (p.drop 32) = C2 at *
    generalize ofI .u8 p = CA at *
    refine ⟨_, h3, by
      simp (config := {maxSteps := 2000000}) (disch := first | omega | (simp only [List.length_cons, List.length_nil, List.length_append, List.length_drop]; omega)) only [L_merkle_Swollen_0, t3, t16, t17, t18, gqh, lA, c0, wi, ix, ↓al, e1, st, pu, g1, i0, i1, ld1, ld2, r2, gb2, e3, g3, m_load1, m_storeB, Nat.zero_add, Nat.add_zero, ↓h_new_get, ↓s_load, m_load, ↓m_load1, m_load1, ↓m_st, m_stE, m_storeE, w_zero, ↓x_idxA, ↓x_idxS, x_idxAE, x_idxSE, x_addrE, List.length_cons, List.length_nil, List.drop_succ_cons, List.drop_nil, Nat.reduceMul, ↓s_skip, ↓s_ops, ↓s_seq, ↓s_cond, ↓s_block, ↓s_nil, ↓s_op, ↓s_bindS, s_bindS, ↓s_bindE, s_bindE, s_norm, ↓s_condV, s_condV, s_block_normal, ↓s_getp, ↓s_getp0, ↓s_con, ↓s_os0, ↓s_os1, ↓s_mov, ↓s_bin, ↓s_call, s_same, b_lss, b_add, ↓iteN_true, ↓iteN_false, iteN_true, iteN_false, Nat.zero_add, List.append_nil, Nat.reduceEqDiff, decide_true, decide_false, List.getElem?_cons_zero]
      exact rfl, fun hn => absurd hn hc, fun _ => ⟨⟨(by (simp only [s_getp, s_getp0, Nat.reduceEqDiff, decide_false, iteN_false, t3]; try rfl)), (by (simp only [s_getp, s_getp0, Nat.reduceEqDiff, decide_false, iteN_false, t4]; try rfl)), rfl, (by (simp only [s_getp, s_getp0, Nat.reduceEqDiff, decide_false, iteN_false, t16]; try rfl)), (by (simp only [s_getp, s_getp0, Nat.reduceEqDiff, decide_false, iteN_false, t17]; try rfl)), (by (simp only [s_getp, decide_true, iteN_true]; try rfl)), g3, by omega, fun j hj hb' => by rw [← e3, h_put_ne _ _ (Ne.symm hb'), k2.2 _ (by omega), k1.2 _ (by omega), fr _ hj hb']⟩, (by (simp only [s_getp, s_getp0, Nat.reduceEqDiff, decide_false, iteN_false, u5]; try rfl))⟩⟩
theorem sw_loop (e : EnSw E) (x : NoSw X) (M n b q m rnd : Nat) (v5 : V) (P : List (List Nat)) (hm : m ≤ P.length) (hP : P.length ≤ 1000) (h0 : H) (hq : q < h0.next) (hb : b < h0.next) (hqb : q ≠ b) (vs : List V) (md : Md) (gq : h0.get q = some (.cells vs md)) (rb : RowB 64 vs P) :
    ∀ k i, i + k = m → ∀ g, k < g → ∀ T h, SwI b q m h0 i T h → evO T (.t 5) = v5 → ∃ T' h' ex, loopN (evC (callX E X (M + 1)) 32 n (some rnd) L_merkle_Swollen_0) g ⟨T, [], h⟩ = some (ex, ⟨T', [], h'⟩) ∧ h0.next ≤ h'.next ∧ (∀ j, j < h0.next → j ≠ b → h'.get j = h0.get j) ∧ ((anyEq ((P.take m).drop i) = true ∧ ex = .exit 0 ∧ h'.get b = some (.cells [.bool true] .rw)) ∨ (anyEq ((P.take m).drop i) = false ∧ ex = .exit 2 ∧ h'.get b = some (.cells [.bool false] .rw) ∧ evO T' (.t 3) = .ptr (some (b, 0)) ∧ evO T' (.t 4) = .ptr (some (b + 1, 0)) ∧ evO T' (.t 5) = v5)) := by
  intro k
  induction k with
  | zero =>
    intro i hi g hg T h ⟨t3, t4, _, t16, t17, t18, gb, nx, fr⟩ u5
    obtain ⟨g, rfl⟩ : ∃ j, g = j + 1 := ⟨g - 1, by omega⟩
    obtain rfl : i = m := by omega
    have c0 : decide ((i : Int) < (i : Int)) = false := decide_eq_false (by omega)
    have hd : (P.take i).drop i = [] := List.drop_eq_nil_of_le (by rw [List.length_take]; omega)
    rw [l_succ]
    refine ⟨_, h, .exit 2, by
      simp (config := {maxSteps := 2000000}) (disch := first | omega | (simp only [List.length_cons, List.length_nil, List.length_append, List.length_drop]; omega)) only [L_merkle_Swollen_0, t17, t18, c0, l_exit, ↓s_ops, ↓s_seq, ↓s_cond, ↓s_exit, ↓s_nil, ↓s_op, ↓s_bindS, s_bindS, ↓s_bindE, s_bindE, s_bindE_exit, s_norm, ↓s_condV, s_condV, ↓s_getp, ↓s_bin, s_same, b_lss, ↓iteN_true, ↓iteN_false, iteN_true, iteN_false, decide_true]
      exact rfl, nx, fr, .inr ⟨by rw [hd]; rfl, rfl, gb, (by (simp only [s_getp, Nat.reduceEqDiff, decide_false, iteN_false, t3]; try rfl)), (by (simp only [s_getp, Nat.reduceEqDiff, decide_false, iteN_false, t4]; try rfl)), (by (simp only [s_getp, Nat.reduceEqDiff, decide_false, iteN_false, u5]; try rfl))⟩⟩
  | succ k ih =>
    intro i hi g hg T h I u5
    obtain ⟨g, rfl⟩ : ∃ j, g = j + 1 := ⟨g - 1, by omega⟩
    have hp : P[i]? = some P[i] := List.getElem?_eq_getElem (by omega)
    obtain ⟨p, ep⟩ : ∃ p, P[i] = p := ⟨_, rfl⟩
    rw [ep] at hp
    have hcons : (P.take m).drop i = p :: (P.take m).drop (i + 1) := by
      have h1 : (P.take m)[i]? = some p := by rw [List.getElem?_take_of_lt (by omega)]; exact hp
      obtain ⟨h2, h3⟩ := List.getElem?_eq_some_iff.1 h1
      rw [List.drop_eq_getElem_cons h2, h3]
    obtain ⟨T1, h1, r, yes, no⟩ := sw_step e x M n b q m rnd v5 P hm hP h0 hq hb hqb vs md gq rb i (by omega) T h I u5 p hp
    rw [l_succ, hcons]
    by_cases hc : p.take 32 = p.drop 32
    · rw [if_pos hc] at r
      obtain ⟨y1, y2, y3⟩ := yes hc
      have ha : anyEq (p :: (P.take m).drop (i + 1)) = true := by
        unfold anyEq; rw [List.any_cons, decide_eq_true hc]; rfl
      exact ⟨T1, h1, .exit 0, by rw [r]; exact l_exit _ _ _, y2, y3, .inl ⟨ha, rfl, y1⟩⟩
    · rw [if_neg hc] at r
      obtain ⟨I1, w5⟩ := no hc
      have ha : anyEq (p :: (P.take m).drop (i + 1)) = anyEq ((P.take m).drop (i + 1)) := by
        unfold anyEq; rw [List.any_cons, decide_eq_false hc]; rfl
      rw [ha, r, l_normal]
      exact ih (i + 1) (by omega) g (by omega) T1 h1 I1 w5
end Go.Eng
namespace Go.Eng
open Go
variable {E : Nat → Option Fn} {X : Orc}
set_option linter.unusedSimpArgs false
set_option linter.unusedVariables false
theorem slc64h (n m : Nat) (q off : Nat) (hm : m ≤ n) : slcV 64 none (some (.int .i64 (m : Int))) none (.slice (some (q, off)) n none 64) = some (.slice (some (q, off)) m none 64) := by
  show (match bnd (some (.int .i64 (m : Int))) n n with | some b => (match bnd none 0 b with | some l => some (V.slice (upA (some (q, off)) (l * 64)) (b - l) (subC none l) 64) | none => none) | none => none) = _
  rw [x_bnd _ _ _ _ hm]
  rfl
structure SwY (b : Nat) (T0 : Tr V) (h0 : H) (tot : Bool) (l : List (List Nat)) (h : H) : Prop where
  g0 : h.get b = some (.cells [.bool false] .rw)
  g1 : h.get (b + 1) = some (.cells [.int .i64 (l.length : Int)] .rw)
  to : swL l = tot
  g3 : h.get (b + 3) = some .defers
  g4 : h.get (b + 4) = some (.loop 0 none 32 T0 [12] A_merkle_Swollen_0 B_merkle_Swollen_0 (b + 3))
  nx : b + 5 ≤ h.next
  fr : ∀ j, j < b → h.get j = h0.get j
structure SwZ (b : Nat) (T0 : Tr V) (h0 : H) (tot : Bool) (h : H) : Prop where
  g0 : h.get b = some (.cells [.bool true] .rw)
  to : tot = true
  g3 : h.get (b + 3) = some .defers
  g4 : h.get (b + 4) = some (.loop 2 (some (.exit 0)) 32 T0 [12] A_merkle_Swollen_0 B_merkle_Swollen_0 (b + 3))
  nx : b + 5 ≤ h.next
  fr : ∀ j, j < b → h.get j = h0.get j
theorem sw_yld (e : EnSw E) (x : NoSw X) (M b : Nat) (hM : 1000 < M) (T0 : Tr V) (t3 : evO T0 (.t 3) = .ptr (some (b, 0))) (t4 : evO T0 (.t 4) = .ptr (some (b + 1, 0))) (hb tot) :
    ∀ l h0 h1 q, SwY b T0 hb tot l h0 → 1 < l.length → l.length ≤ 1000 → Kp h0 h1 → b + 2 < h0.next → GrR 64 h0.next h1 (some (q, 0)) none 64 (prs l) → ∃ h2 v, callX E X (M + 8) (.yld (b + 4)) [.slice (some (q, 0)) (prs l).length none 64] h1 = some (.bool v, h2) ∧ h1.next ≤ h2.next ∧ (v = true → SwY b T0 hb tot (up l) h2 ∧ h2.get (b + 2) = h1.get (b + 2) ∧ h2.get q = h1.get q) ∧ (v = false → SwZ b T0 hb tot h2) := by
  intro l h0 h1 q ⟨g0, g1, to, g3, g4, nx, fr⟩ hl hl2 k1 hb2 gr
  have yx : callX E X (M + 8) (.yld (b + 4)) [.slice (some (q, 0)) (prs l).length none 64] h1 = cYld (callX E X (M + 7)) (M + 7) (b + 4) [.slice (some (q, 0)) (prs l).length none 64] h1 := x_yld (x.lv.pr.yld _ _ _)
  have pl := prs_len _ l rfl
  have hne : prs l ≠ [] := by intro h; have := congrArg List.length h; simp only [List.length_nil] at this; omega
  rcases gr with ⟨e0, _⟩ | ⟨q', vs, md, e1, _, _, _, hlo, hq, g, hm, rb⟩
  · exact absurd e0 hne
  cases e1
  have n1 := k1.1
  obtain ⟨m, em⟩ : ∃ m, l.length / 2 = m := ⟨_, rfl⟩
  have su := swL_up l hl
  rw [em, to] at su
  obtain ⟨h2, e2⟩ : ∃ h2, h1.put (b + 4) (.loop 1 none 32 T0 [12] A_merkle_Swollen_0 B_merkle_Swollen_0 (b + 3)) = h2 := ⟨_, rfl⟩
  have n2 : h2.next = h1.next := by rw [← e2]; rfl
  have f2 : ∀ j, j ≠ b + 4 → h2.get j = h1.get j := fun j hj => by rw [← e2, h_put_ne _ _ (Ne.symm hj)]
  have g24 : h2.get (b + 4) = some (.loop 1 none 32 T0 [12] A_merkle_Swollen_0 B_merkle_Swollen_0 (b + 3)) := by rw [← e2]; exact h_put_same _ _ _
  have g14 : h1.get (b + 4) = some (.loop 0 none 32 T0 [12] A_merkle_Swollen_0 B_merkle_Swollen_0 (b + 3)) := by rw [k1.2 _ (by omega), g4]
  have g21 : h2.get (b + 1) = some (.cells [.int .i64 (l.length : Int)] .rw) := by rw [f2 _ (by omega), k1.2 _ (by omega), g1]
  have g20 : h2.get b = some (.cells [.bool false] .rw) := by rw [f2 _ (by omega), k1.2 _ (by omega), g0]
  have qu := quo2 l.length (by omega)
  rw [em] at qu
  have sl := slc64h (prs l).length m q 0 (by omega)
  have ul := up_len l
  have fin : ∀ T, evO T (.t 3) = .ptr (some (b, 0)) → evO T (.t 4) = .ptr (some (b + 1, 0)) → evO T (.t 5) = .slice (some (q, 0)) (prs l).length none 64 → evO T (.t 16) = .slice (some (q, 0)) m none 64 → evO T (.t 17) = .int .i64 (m : Int) → evO T (.t 18) = .int .i64 ((0 : Nat) : Int) →
      ∃ h2' v, yldEnd (b + 4) (blockE 1 (bindE (blockE 2 (loopN (evC (callX E X (M + 7)) 32 (M + 7) (some (b + 4)) L_merkle_Swollen_0) (M + 7) ⟨T, [], h2⟩)) (evC (callX E X (M + 7)) 32 (M + 7) (some (b + 4)) R_merkle_Swollen_0))) = some (.bool v, h2') ∧ h1.next ≤ h2'.next ∧ (v = true → SwY b T0 hb tot (up l) h2' ∧ h2'.get (b + 2) = h1.get (b + 2) ∧ h2'.get q = h1.get q) ∧ (v = false → SwZ b T0 hb tot h2') := by
    intro T u3 u4 u5 u16 u17 u18
    obtain ⟨T', h', ex, r, nx', f', d⟩ := sw_loop e x (M + 6) (M + 7) b q m (b + 4) _ (prs l) (by omega) (by omega) h2 (by omega) (by omega) (by omega) vs md (by rw [f2 _ (by omega), g]) rb m 0 (by omega) (M + 7) (by omega) T h2 ⟨u3, u4, rfl, u16, u17, u18, g20, Nat.le_refl _, fun _ _ _ => rfl⟩ u5
    replace r : loopN (evC (callX E X (M + 7)) 32 (M + 7) (some (b + 4)) L_merkle_Swollen_0) (M + 7) ⟨T, [], h2⟩ = some (ex, ⟨T', [], h'⟩) := r
    rw [List.drop_zero] at d
    rw [r]
    have g'4 : h'.get (b + 4) = some (.loop 1 none 32 T0 [12] A_merkle_Swollen_0 B_merkle_Swollen_0 (b + 3)) := by rw [f' _ (by omega) (by omega), g24]
    rcases d with ⟨a1, rfl, gb⟩ | ⟨a1, rfl, gb, w3, w4, w5⟩
    · rw [a1] at su
      refine ⟨h'.put (b + 4) (.loop 2 (some (.exit 0)) 32 T0 [12] A_merkle_Swollen_0 B_merkle_Swollen_0 (b + 3)), false, ?_, by simp only [h_next_put]; omega, (fun h => by cases h), fun _ => ⟨?_, su, ?_, h_put_same _ _ _, by simp only [h_next_put]; omega, fun j hj => ?_⟩⟩
      · simp (config := {maxSteps := 2000000}) (disch := first | omega | (simp only [List.length_cons, List.length_nil, List.length_append, List.length_drop]; omega)) only [g'4, y_end, y_done, y_je, Option.isNone_some, s_bindE_exit, s_block_exit, Nat.reduceEqDiff, if_false]
      · rw [h_put_ne _ _ (by omega), gb]
      · rw [h_put_ne _ _ (by omega), f' _ (by omega) (by omega), f2 _ (by omega), k1.2 _ (by omega), g3]
      · rw [h_put_ne _ _ (by omega), f' _ (by omega) (by omega), f2 _ (by omega), k1.2 _ (by omega), fr _ hj]
    · rw [a1, Bool.false_or] at su
      have g'1 : h'.get (b + 1) = some (.cells [.int .i64 (l.length : Int)] .rw) := by rw [f' _ (by omega) (by omega), g21]
      refine ⟨(h'.put (b + 1) (.cells [.int .i64 ((up l).length : Int)] .rw)).put (b + 4) (.loop 0 none 32 T0 [12] A_merkle_Swollen_0 B_merkle_Swollen_0 (b + 3)), true, ?_, by simp only [h_next_put]; omega, fun _ => ⟨⟨?_, ?_, su.symm, ?_, h_put_same _ _ _, by simp only [h_next_put]; omega, fun j hj => ?_⟩, ?_, ?_⟩, fun h => by cases h⟩
      · have z1 : (b + 1 = b + 4) = False := by simp
        rw [show (up l).length = (prs l).length by rw [ul, pl]]
        generalize (prs l).length = np at *
        simp (config := {maxSteps := 2000000}) (disch := first | omega | (simp only [List.length_cons, List.length_nil, List.length_append, List.length_drop]; omega)) only [R_merkle_Swollen_0, w4, w5, g'1, g'4, z1, y_end, y_done, y_jn, Option.isNone_none, ↓s_len, x_lenS, Nat.zero_add, ↓h_put_get, ↓m_st, m_stE, m_storeI, m_storeE, w_zero, x_lenS, ↓s_len, List.length_cons, List.length_nil, List.drop_succ_cons, List.drop_nil, ↓s_ops, ↓s_nil, ↓s_op, ↓s_bindS, s_bindS, ↓s_bindE, s_bindE, s_norm, s_block_normal, s_block_exit, ↓s_getp, ↓s_mov, s_same, ↓iteN_true, ↓iteN_false, iteN_true, iteN_false, Nat.zero_add, List.append_nil, Nat.reduceEqDiff, decide_true, decide_false, if_true]
      · rw [h_put_ne _ _ (by omega), h_put_ne _ _ (by omega), gb]
      · rw [h_put_ne _ _ (by omega), h_put_same]
      · rw [h_put_ne _ _ (by omega), h_put_ne _ _ (by omega), f' _ (by omega) (by omega), f2 _ (by omega), k1.2 _ (by omega), g3]
      · rw [h_put_ne _ _ (by omega), h_put_ne _ _ (by omega), f' _ (by omega) (by omega), f2 _ (by omega), k1.2 _ (by omega), fr _ hj]
      · rw [h_put_ne _ _ (by omega), h_put_ne _ _ (by omega), f' _ (by omega) (by omega), f2 _ (by omega)]
      · rw [h_put_ne _ _ (by omega), h_put_ne _ _ (by omega), f' _ (by omega) (by omega), f2 _ (by omega)]
  obtain ⟨R, eR⟩ : ∃ R, R_merkle_Swollen_0 = R := ⟨_, rfl⟩
  obtain ⟨Lo, eL⟩ : ∃ R, L_merkle_Swollen_0 = R := ⟨_, rfl⟩
  rw [eR, eL] at fin
  rw [yx]
  clear su to
  generalize (prs l).length = np at *
  simp (config := {maxSteps := 2000000}) (disch := first | omega | (simp only [List.length_cons, List.length_nil, List.length_append, List.length_drop]; omega)) only [g14, e2, g21, qu, sl, t4, eR, eL, ↓x_slcS, x_M1, x_M0, ↓s_len, x_lenS, y_cyld, y_ready, y_set1, y_mid, y_busy, ↓u_A_merkle_Swollen_0, ↓u_B_merkle_Swollen_0, ↓l_loop, ↓l_succ, ↓s_load, m_load, ↓m_load1, m_load1, x_lenS, ↓s_len, ↓s_ops, ↓s_seq, ↓s_block, ↓s_nil, ↓s_op, ↓s_bindS, s_bindS, ↓s_bindE, s_bindE, s_norm, ↓s_getp, ↓s_get, ↓s_con, ↓s_mov, ↓s_bin, s_same, ↓iteN_true, ↓iteN_false, iteN_true, iteN_false, Nat.reduceEqDiff, decide_true, decide_false, List.getElem?_cons_zero]
  exact fin _ (by (simp only [s_getp, Nat.reduceEqDiff, decide_false, iteN_false, s_get, t3]; try rfl)) (by (simp only [s_getp, Nat.reduceEqDiff, decide_false, iteN_false, s_get, t4]; try rfl)) (by (simp only [s_getp, Nat.reduceEqDiff, decide_false, decide_true, iteN_false, iteN_true]; try rfl)) (by (simp only [s_getp, Nat.reduceEqDiff, decide_false, decide_true, iteN_false, iteN_true]; try rfl)) (by (simp only [s_getp, Nat.reduceEqDiff, decide_false, decide_true, iteN_false, iteN_true]; try rfl)) (by (simp only [s_getp, decide_true, iteN_true]; try rfl))
end Go.Eng
namespace Go.Eng
open Go
variable {E : Nat → Option Fn} {X : Orc}
set_option linter.unusedSimpArgs false
set_option linter.unusedVariables false
theorem swollen_go (e : EnSw E) (x : NoSw X) (hx : HasTw E X) (M : Nat) (hM : 1000 < M) (l : List (List Nat)) (hl : 0 < l.length) (hl2 : l.length ≤ 1000) (h : H) (q off : Nat) (c : Option Nat) (vs : List V) (md : Md) (hc : ∀ x, c = some x → l.length ≤ x) (hq : q < h.next) (gq : h.get q = some (.cells vs md)) (rb : RowB 32 (vs.drop off) l) :
    ∃ h', callX E X (M + 11) (.fn k_merkle_Swollen) [.slice (some (q, off)) l.length c 32] h = some (.bool (swL l), h') ∧ Kp h h' := by
  rw [x_cfn e.sw _ _ (Nat.le_of_ble_eq_true rfl) (x.sw _ _)]
  obtain ⟨n, en⟩ : ∃ n, l.length = n := ⟨_, rfl⟩
  obtain ⟨b, eb⟩ : ∃ b, h.next = b := ⟨_, rfl⟩
  rw [eb] at hq
  have lv := fun h => levels_go e.lv x.lv (M + 9) (some (q, off)) l.length c 32 h
  rw [en] at lv
  obtain ⟨hA', eA⟩ : ∃ hA, ((((h.new (.cells [.bool false] .rw)).new (.cells [.int .i64 0] .rw)).put b (.cells [.bool false] .rw)).put (b + 1) (.cells [.int .i64 (n : Int)] .rw)).new (.cells [.slice (some (q, off)) n c 32] .rw) = hA := ⟨_, rfl⟩
  have nA : hA'.next = b + 3 := by rw [← eA, ← eb]; rfl
  have gA0 : hA'.get b = some (.cells [.bool false] .rw) := by rw [← eA, ← eb]; (simp (disch := omega) only [h_put_get, h_new_get, h_next_put, h_next_new, Nat.add_assoc, Nat.add_eq_left, Nat.reduceAdd, decide_true, decide_false, iteN_true, iteN_false, Nat.reduceAdd, reduceCtorEq, ]; try rfl)
  have gA1 : hA'.get (b + 1) = some (.cells [.int .i64 (n : Int)] .rw) := by rw [← eA, ← eb]; (simp (disch := omega) only [h_put_get, h_new_get, h_next_put, h_next_new, Nat.add_assoc, Nat.add_left_cancel_iff, Nat.reduceAdd, decide_true, decide_false, iteN_true, iteN_false, Nat.reduceEqDiff, Nat.reduceAdd, ]; try rfl)
  have gA2 : hA'.get (b + 2) = some (.cells [.slice (some (q, off)) n c 32] .rw) := by rw [← eA, ← eb]; (simp (disch := omega) only [h_new_get, h_next_put, h_next_new, Nat.add_assoc, Nat.reduceAdd, decide_true, iteN_true, Nat.reduceAdd, ]; try rfl)
  have kA : Kp h hA' := by rw [← eA]; (repeat (first | exact Kp.refl _ | refine Kp.put ?_ _ (by first | omega | (simp only [h_next_put, h_next_new, h_next_del]; omega)) | refine Kp.del ?_ (by first | omega | (simp only [h_next_put, h_next_new, h_next_del]; omega)) | refine Kp.trans ?_ (Kp.new _ _)))
  have fin : ∀ T0, evO T0 (.t 3) = .ptr (some (b, 0)) → evO T0 (.t 4) = .ptr (some (b + 1, 0)) → ∃ h', fnEnd [.tmp 2] (bindE (blockE 0 (rangeEnd (b + 4) T0 [b + 3] (callF (callX E X (M + 10)) (.yld (b + 4)) (.fn k_merkle_levels_1 [] [.ptr (some (b + 2, 0))]) ((hA'.new .defers).new (.loop 0 none 32 T0 [12] A_merkle_Swollen_0 B_merkle_Swollen_0 (b + 3)))))) (evC (callX E X (M + 10)) 32 (M + 10) none R_merkle_Swollen_1)) = some (.bool (swL l), h') ∧ Kp h h' := by
    intro T0 t3 t4
    obtain ⟨hB, eB⟩ : ∃ hB, (hA'.new .defers).new (.loop 0 none 32 T0 [12] A_merkle_Swollen_0 B_merkle_Swollen_0 (b + 3)) = hB := ⟨_, rfl⟩
    have nB : hB.next = b + 5 := by rw [← eB]; simp only [h_next_new, nA]
    have kB : Kp hA' hB := by rw [← eB]; exact (Kp.new _ _).trans (Kp.new _ _)
    have gB3 : hB.get (b + 3) = some .defers := by rw [← eB, h_new_ne _ _ (by rw [h_next_new, nA]; omega)]; exact h_new_same' _ _ nA
    have gB4 : hB.get (b + 4) = some (.loop 0 none 32 T0 [12] A_merkle_Swollen_0 B_merkle_Swollen_0 (b + 3)) := by rw [← eB]; exact h_new_same' _ _ (by rw [h_next_new, nA])
    have y0 : SwY b T0 h (swL l) l hB := ⟨by rw [kB.2 _ (by omega), gA0], by rw [kB.2 _ (by omega), gA1, en], rfl, gB3, gB4, by omega, fun j hj => by rw [kB.2 _ (by omega), kA.2 _ (by omega)]⟩
    obtain ⟨hC, r, nC, d⟩ := levels1_go e.lv x.lv hx (M + 1) (b + 2) (b + 4) (by omega) (SwY b T0 h (swL l)) (SwZ b T0 h (swL l)) (fun l h h' y hn f => ⟨by rw [f _ (by have := y.nx; omega) (by omega), y.g0], by rw [f _ (by have := y.nx; omega) (by omega), y.g1], y.to, by rw [f _ (by have := y.nx; omega) (by omega), y.g3], by rw [f _ (by have := y.nx; omega) (by omega), y.g4], by have := y.nx; omega, fun j hj => by rw [f _ (by have := y.nx; omega) (by omega), y.fr _ hj]⟩) (sw_yld e x (M + 1) b (by omega) T0 t3 t4 h (swL l)) l hl hl2 hB q off c vs md (by rw [kB.2 _ (by omega), gA2, en]) hc (by omega) (by omega) (by rw [kB.2 _ (by omega), kA.2 _ (by omega), gq]) rb (by omega) y0
    replace r : callX E X (M + 10) (.fn k_merkle_levels_1) [.yld (b + 4), .ptr (some (b + 2, 0))] hB = some (.tup [], hC) := r
    have z2 : (b + 4 = b + 3) = False := by simp
    have z4 : (b + 4 = b) = False := by simp
    have z5 : (b + 3 = b) = False := by simp
    rw [eB]
    refine ⟨(hC.del (b + 4)).del (b + 3), ?_⟩
    rcases d with ⟨rt, g0, g1, to, g3, g4, nx, fr⟩ | ⟨g0, to, g3, g4, nx, fr⟩
    · rw [swL_1] at to
      refine ⟨?_, ⟨by simp only [h_next_del]; omega, fun i hi => by rw [h_del_ne _ (by omega), h_del_ne _ (by omega), fr _ (by omega)]⟩⟩
      rw [← to]
      simp (config := {maxSteps := 2000000}) (disch := first | omega | (simp only [List.length_cons, List.length_nil, List.length_append, List.length_drop]; omega)) only [s_callF, List.nil_append, List.cons_append, r, t3, g0, g3, g4, z2, z4, R_merkle_Swollen_1, r_end, r_0, r_jn, e_ret, d_cons, d_yes, d_nil, e_some, m_load1, ↓h_del_get, ↓s_load, m_load, ↓m_load1, m_load1, List.cons_append, List.nil_append, s_res0, ↓s_ops, ↓s_seq, ↓s_ret, ↓s_nil, ↓s_op, ↓s_bindS, s_bindS, ↓s_bindE, s_bindE, s_norm, s_block_normal, ↓s_getp, ↓s_mov, s_same, s_res0, s_res1, s_tup1, ↓iteN_true, ↓iteN_false, iteN_true, iteN_false, List.nil_append, decide_true, decide_false, List.getElem?_cons_zero]
    · refine ⟨?_, ⟨by simp only [h_next_del]; omega, fun i hi => by rw [h_del_ne _ (by omega), h_del_ne _ (by omega), fr _ (by omega)]⟩⟩
      rw [to]
      simp (config := {maxSteps := 2000000}) (disch := first | omega | (simp only [List.length_cons, List.length_nil, List.length_append, List.length_drop]; omega)) only [s_callF, List.nil_append, List.cons_append, r, t3, g0, g3, g4, z2, z4, R_merkle_Swollen_1, r_end, r_2, r_je, e_ret, d_cons, d_yes, d_nil, e_some, m_load1, ↓h_del_get, ↓s_load, m_load, ↓m_load1, m_load1, List.cons_append, List.nil_append, s_res0, ↓s_ops, ↓s_seq, ↓s_ret, ↓s_nil, ↓s_op, ↓s_bindS, s_bindS, ↓s_bindE, s_bindE, s_norm, s_block_exit, ↓s_getp, ↓s_mov, s_same, s_res0, s_res1, s_tup1, ↓iteN_true, ↓iteN_false, iteN_true, iteN_false, List.nil_append, decide_true, decide_false, List.getElem?_cons_zero, if_true]
  obtain ⟨R, eR⟩ : ∃ R, R_merkle_Swollen_1 = R := ⟨_, rfl⟩
  rw [eR] at fin ⊢
  rw [en]
  generalize swL l = RT at *
  simp (config := {maxSteps := 2000000}) (disch := first | omega | (simp only [List.length_cons, List.length_nil, List.length_append, List.length_drop]; omega)) only [lv, eA, nA, eb, m_storeB, ↓s_len, x_lenS, ↓s_range, Nat.zero_add, ↓h_put_get, ↓h_new_get, h_next_put, h_next_new, Nat.add_assoc, Nat.add_eq_left, Nat.left_eq_add, ↓m_st, m_stE, m_storeI, m_storeE, w_zero, ↓s_alloc, x_lenS, ↓s_len, List.length_cons, List.length_nil, List.drop_succ_cons, List.drop_nil, Nat.reduceAdd, ↓s_skip, ↓s_ops, ↓s_seq, ↓s_block, ↓s_scope, ↓s_nil, ↓s_op, ↓s_bindS, s_bindS, ↓s_bindE, s_bindE, s_norm, ↓s_getp, ↓s_getp0, ↓s_get, ↓s_con, ↓s_os0, ↓s_os1, ↓s_list0, ↓s_list1, ↓s_mov, ↓s_call, s_same, ↓iteN_true, ↓iteN_false, iteN_true, iteN_false, Nat.zero_add, List.append_nil, Nat.reduceEqDiff, decide_true, decide_false]
  exact fin _ (by (simp only [s_getp, s_getp0, Nat.reduceEqDiff, decide_false, decide_true, iteN_false, iteN_true]; try rfl)) (by (simp only [s_getp, s_getp0, Nat.reduceEqDiff, decide_false, decide_true, iteN_false, iteN_true]; try rfl))
end Go.Eng
