/- What functions of the program come to: own work. -/
import Derived.Test.YtcgfhdhjanmgaaaMrI
namespace Go.Eng
open Go
variable {E : Nat → Option Fn} {X : Orc}
set_option linter.unusedSimpArgs false
set_option linter.unusedVariables false
/-- how many levels stand above so many -/
def dpN (n : Nat) : Nat := if h : n ≤ 1 then 0 else dpN ((n + 1) / 2) + 1
termination_by n
theorem dpN_1 (n : Nat) (h : n ≤ 1) : dpN n = 0 := by rw [dpN, dif_pos h]
theorem dpN_up (n : Nat) (h : 1 < n) : dpN n = dpN ((n + 1) / 2) + 1 := by rw [dpN, dif_neg (by omega)]
theorem dpN_le : ∀ (k n : Nat), n ≤ 2 ^ k → dpN n ≤ k := by
  intro k
  induction k with
  | zero => intro n h; rw [dpN_1 n (by simpa using h)]; exact Nat.le_refl _
  | succ k ih =>
    intro n h
    by_cases h1 : n ≤ 1
    · rw [dpN_1 n h1]; exact Nat.zero_le _
    · rw [dpN_up n (by omega)]
      rw [Nat.pow_succ] at h
      have := ih ((n + 1) / 2) (by omega)
      omega
theorem le_dpN : ∀ (k n : Nat), n ≤ k → n ≤ 2 ^ dpN n := by
  intro k
  induction k with
  | zero => intro n h; have := Nat.two_pow_pos (dpN n); omega
  | succ k ih =>
    intro n h
    by_cases h1 : n ≤ 1
    · have := Nat.two_pow_pos (dpN n); omega
    · rw [dpN_up n (by omega), Nat.pow_succ]
      have := ih ((n + 1) / 2) (by omega)
      omega
theorem brL_len : ∀ (k : Nat) (l : List (List Nat)) (n : Nat), l.length ≤ k → (brL l n).length = dpN l.length := by
  intro k
  induction k with
  | zero => intro l n h; rw [brL, dif_pos (by omega), dpN_1 _ (by omega)]; rfl
  | succ k ih =>
    intro l n h
    by_cases h1 : l.length ≤ 1
    · rw [brL, dif_pos h1, dpN_1 _ h1]; rfl
    · rw [brL_up l n (by omega), dpN_up _ (by omega), List.length_cons, ih (up l) (n / 2) (by rw [up_len]; omega), up_len]
theorem depth_loop (Q : Orc) (m : Nat) (h : H) : ∀ (k n d : Nat), n ≤ 2 ^ k → n < 9223372036854775808 → d + k < 1000 → ∀ g, k < g → ∀ T, evO T (.t 0) = .int .i64 (n : Int) → evO T (.t 3) = .int .i64 (d : Int) →
    ∃ T', loopN (evC Q 13 m none L_merkle_Depth_0) g ⟨T, [], h⟩ = some (.exit 0, ⟨T', [], h⟩) ∧ evO T' (.t 3) = .int .i64 ((d + dpN n : Nat) : Int) := by
  intro k
  induction k with
  | zero =>
    intro n d h1 h2 h3 g hg T t0 t3
    obtain ⟨g, rfl⟩ : ∃ j, g = j + 1 := ⟨g - 1, by omega⟩
    have hn : n ≤ 1 := by simpa using h1
    have c0 : decide ((1 : Int) < (n : Int)) = false := decide_eq_false (by omega)
    rw [l_succ]
    refine ⟨_, by
      simp (config := {maxSteps := 2000000}) (disch := first | omega | (simp only [List.length_cons, List.length_nil, List.length_append, List.length_drop]; omega)) only [L_merkle_Depth_0, t0, c0, l_exit, ↓s_ops, ↓s_seq, ↓s_cond, ↓s_exit, ↓s_nil, ↓s_op, ↓s_bindS, s_bindS, ↓s_bindE, s_bindE, s_bindE_exit, s_norm, ↓s_condV, s_condV, ↓s_getp, ↓s_con, ↓s_mov, ↓s_bin, s_same, b_gtr, ↓iteN_true, ↓iteN_false, iteN_true, iteN_false, decide_true]
      exact rfl, by rw [dpN_1 n hn]; (simp only [s_getp, Nat.reduceEqDiff, decide_false, iteN_false, t3]; try rfl)⟩
  | succ k ih =>
    intro n d h1 h2 h3 g hg T t0 t3
    obtain ⟨g, rfl⟩ : ∃ j, g = j + 1 := ⟨g - 1, by omega⟩
    rw [l_succ]
    by_cases hn : n ≤ 1
    · have c0 : decide ((1 : Int) < (n : Int)) = false := decide_eq_false (by omega)
      refine ⟨_, by
        simp (config := {maxSteps := 2000000}) (disch := first | omega | (simp only [List.length_cons, List.length_nil, List.length_append, List.length_drop]; omega)) only [L_merkle_Depth_0, t0, c0, l_exit, ↓s_ops, ↓s_seq, ↓s_cond, ↓s_exit, ↓s_nil, ↓s_op, ↓s_bindS, s_bindS, ↓s_bindE, s_bindE, s_bindE_exit, s_norm, ↓s_condV, s_condV, ↓s_getp, ↓s_con, ↓s_mov, ↓s_bin, s_same, b_gtr, ↓iteN_true, ↓iteN_false, iteN_true, iteN_false, decide_true]
        exact rfl, by rw [dpN_1 n hn]; (simp only [s_getp, Nat.reduceEqDiff, decide_false, iteN_false, t3]; try rfl)⟩
    · have c0 : decide ((1 : Int) < (n : Int)) = true := decide_eq_true (by omega)
      have qu : ∀ e h, binV .quo e h (.int .i64 (n : Int)) (.int .i64 2) = some (.int .i64 ((n / 2 : Nat) : Int)) := fun e h => by
        rw [b_quo _ _ _ _ _ (by omega), show Int.tdiv (n : Int) 2 = ((n / 2 : Nat) : Int) from rfl, wr_i64 (by omega)]
      have w1 : wr .i64 ((n : Int) - ((n / 2 : Nat) : Int)) = (((n + 1) / 2 : Nat) : Int) := by rw [wr_i64 (by omega)]; omega
      have w2 : wr .i64 ((d : Int) + 1) = ((d + 1 : Nat) : Int) := by rw [wr_i64 (by omega)]; omega
      rw [Nat.pow_succ] at h1
      have go : ∃ T1, evC Q 13 m none L_merkle_Depth_0 ⟨T, [], h⟩ = some (.normal, ⟨T1, [], h⟩) ∧ evO T1 (.t 0) = .int .i64 (((n + 1) / 2 : Nat) : Int) ∧ evO T1 (.t 3) = .int .i64 ((d + 1 : Nat) : Int) := by
        refine ⟨_, by
          simp (config := {maxSteps := 2000000}) (disch := first | omega | (simp only [List.length_cons, List.length_nil, List.length_append, List.length_drop]; omega)) only [L_merkle_Depth_0, t0, t3, c0, qu, w1, w2, ↓s_skip, ↓s_ops, ↓s_seq, ↓s_cond, ↓s_block, ↓s_nil, ↓s_op, ↓s_bindS, s_bindS, ↓s_bindE, s_bindE, s_norm, ↓s_condV, s_condV, s_block_normal, ↓s_getp, ↓s_con, ↓s_mov, ↓s_bin, s_same, b_gtr, b_add, b_sub, ↓iteN_true, ↓iteN_false, iteN_true, iteN_false, Nat.reduceEqDiff, decide_true, decide_false]
          exact rfl, (by (simp only [s_getp, Nat.reduceEqDiff, decide_false, decide_true, iteN_false, iteN_true]; try rfl)), (by (simp only [s_getp, decide_true, iteN_true]; try rfl))⟩
      obtain ⟨T1, r, u0, u3⟩ := go
      obtain ⟨T', r2, e2⟩ := ih ((n + 1) / 2) (d + 1) (by omega) (by omega) (by omega) g (by omega) T1 u0 u3
      refine ⟨T', by rw [r, l_normal]; exact r2, ?_⟩
      rw [e2, dpN_up n (by omega), show d + 1 + dpN ((n + 1) / 2) = d + (dpN ((n + 1) / 2) + 1) by omega]
theorem depth_go (e : E k_merkle_Depth = some f_merkle_Depth) (x : ∀ a h, X (.fn k_merkle_Depth) a h = none) (N : Nat) (hN : 100 < N) (n : Nat) (hn : n < 9223372036854775808) (h : H) :
    callX E X (N + 1) (.fn k_merkle_Depth) [.int .i64 (n : Int)] h = some (.int .i64 (dpN n : Int), h) := by
  rw [x_cfn e _ _ (Nat.le_of_ble_eq_true rfl) (x _ _)]
  have fin : ∀ T, evO T (.t 0) = .int .i64 (n : Int) → evO T (.t 3) = .int .i64 ((0 : Nat) : Int) → fnEnd [.tmp 2] (bindE (blockE 0 (loopN (evC (callX E X N) 13 N none L_merkle_Depth_0) N ⟨T, [], h⟩)) (evC (callX E X N) 13 N none R_merkle_Depth_0)) = some (.int .i64 (dpN n : Int), h) := by
    intro T t0 t3
    obtain ⟨T', r, u3⟩ := depth_loop (callX E X N) N h 63 n 0 (by have : (2 : Nat) ^ 63 = 9223372036854775808 := rfl; omega) hn (by omega) N (by omega) T t0 t3
    rw [Nat.zero_add] at u3
    rw [r]
    simp (config := {maxSteps := 2000000}) (disch := first | omega | (simp only [List.length_cons, List.length_nil, List.length_append, List.length_drop]; omega)) only [R_merkle_Depth_0, u3, s_res0, ↓s_ops, ↓s_seq, ↓s_ret, ↓s_nil, ↓s_op, ↓s_bindS, s_bindS, ↓s_bindE, s_bindE, s_norm, s_block_exit, ↓s_getp, ↓s_mov, s_end, s_res0, s_res1, s_tup1, ↓iteN_true, iteN_true, decide_true, if_true]
  obtain ⟨R, eR⟩ : ∃ R, R_merkle_Depth_0 = R := ⟨_, rfl⟩
  obtain ⟨Lo, eL⟩ : ∃ R, L_merkle_Depth_0 = R := ⟨_, rfl⟩
  rw [eR, eL] at fin ⊢
  simp (config := {maxSteps := 2000000}) (disch := first | omega | (simp only [List.length_cons, List.length_nil, List.length_append, List.length_drop]; omega)) only [↓l_loop, ↓s_ops, ↓s_seq, ↓s_block, ↓s_nil, ↓s_op, ↓s_bindS, s_bindS, ↓s_bindE, s_bindE, s_norm, ↓s_con, ↓s_list0, ↓s_list1, ↓s_mov]
  exact fin _ (by (simp only [s_getp, Nat.reduceEqDiff, decide_false, decide_true, iteN_false, iteN_true, s_get]; try rfl)) (by (simp only [s_getp, decide_true, iteN_true]; try rfl))
end Go.Eng
namespace Go.Eng
open Go
variable {E : Nat → Option Fn} {X : Orc}
set_option linter.unusedSimpArgs false
set_option linter.unusedVariables false
theorem RowB.set {k : Nat} {vs : List V} {L : List (List Nat)} (r : RowB k vs L) (i : Nat) (hi : i < L.length) (x : List Nat) (hx : x.length = k) : RowB k (writeN vs (i * k) (ofI .u8 x)) (L.set i x) := by
  have mi := mul_le (k := k) hi
  have hl := r.1
  have wl : (writeN vs (i * k) (ofI .u8 x)).length = vs.length := writeN_len _ _ _ (by rw [ofI_len, hx]; omega)
  refine ⟨by rw [wl, List.length_set]; exact hl, fun j o ho => ?_⟩
  rw [writeN_eq _ _ _ (by omega), ofI_len, hx]
  have l1 : (vs.take (i * k)).length = i * k := by rw [List.length_take]; omega
  by_cases hj : j = i
  · subst hj
    rw [List.getElem?_set_self hi] at ho
    cases ho
    refine ⟨?_, hx⟩
    rw [List.append_assoc, List.drop_left' l1, List.take_left' (by rw [ofI_len, hx])]
  · rw [List.getElem?_set_ne (Ne.symm hj)] at ho
    obtain ⟨h1, h2⟩ := r.2 j o ho
    have hjl := (List.getElem?_eq_some_iff.1 ho).1
    refine ⟨?_, h2⟩
    rw [← h1]
    by_cases hlt : j < i
    · have mj := mul_le (k := k) hlt
      rw [List.append_assoc, List.drop_append_of_le_length (by omega), List.take_append_of_le_length (by rw [List.length_drop]; omega), List.drop_take, List.take_take, Nat.min_eq_left (by omega)]
    · have mj := mul_le (k := k) (show i < j by omega)
      have ll : (vs.take (i * k) ++ ofI .u8 x).length = i * k + k := by rw [List.length_append, l1, ofI_len, hx]
      rw [List.drop_append, ll, List.drop_eq_nil_of_le (by rw [ll]; exact mj), List.nil_append, List.drop_drop, show i * k + k + (j * k - (i * k + k)) = j * k by omega]
theorem stMd (vs l : List V) (md : Md) (hm : isRo md = false) (h : H) (i o : Nat) (hl : o + l.length ≤ vs.length) : storeE (some (.cells vs md)) h i o l = some (h.put i (.cells (writeN vs o l) md)) := by
  cases md with
  | ro => cases hm
  | rw => exact m_storeE _ _ _ _ _ hl
  | sh => exact m_storeEs _ _ _ _ _ hl
end Go.Eng
namespace Go.Eng
open Go
variable {E : Nat → Option Fn} {X : Orc}
set_option linter.unusedSimpArgs false
set_option linter.unusedVariables false
end Go.Eng
