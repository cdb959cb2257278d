/- What functions of the program come to: own work. -/
import Derived.Test.YtcgfhdhjanmgaaaMrH
namespace Go.Eng
open Go
variable {E : Nat → Option Fn} {X : Orc}
set_option linter.unusedSimpArgs false
set_option linter.unusedVariables false
/-- the other one of a pair -/
def sibL (P : List (List Nat)) (n : Nat) : List Nat := if n % 2 = 1 then (P.getD (n / 2) []).take 32 else (P.getD (n / 2) []).drop 32
/-- the branch of a number -/
def brL (l : List (List Nat)) (n : Nat) : List (List Nat) := if h : l.length ≤ 1 then [] else sibL (prs l) n :: brL (up l) (n / 2)
termination_by l.length
decreasing_by rw [up_len]; omega
theorem brL_1 (r : List Nat) (n : Nat) : brL [r] n = [] := by rw [brL]; simp
theorem brL_up (l : List (List Nat)) (n : Nat) (h : 1 < l.length) : brL l n = sibL (prs l) n :: brL (up l) (n / 2) := by
  rw [brL, dif_neg (by omega)]
structure EnBr (E : Nat → Option Fn) : Prop where
  lv : EnLv E
  br : E k_merkle_Branch = some f_merkle_Branch
structure NoBrm (X : Orc) : Prop where
  lv : NoLv X
  br : ∀ a h, X (.fn k_merkle_Branch) a h = none
structure BrY (b : Nat) (T0 : Tr V) (h0 : H) (tot : List (List Nat)) (l : List (List Nat)) (h : H) : Prop where
  st : ∃ (acc : List (List Nat)) (n : Nat) (a : Option (Nat × Nat)) (c : Option Nat) (e : Nat), h.get b = some (.cells [.int .i64 (n : Int)] .rw) ∧ h.get (b + 1) = some (.cells [.slice a acc.length c e] .rw) ∧ GrR 32 (b + 5) h a c e acc ∧ acc ++ brL l n = tot ∧ n < l.length ∧ acc.length + l.length ≤ 1000 ∧ (acc = [] ∨ c = none)
  g3 : h.get (b + 3) = some .defers
  g4 : h.get (b + 4) = some (.loop 0 none 34 T0 [18] A_merkle_Branch_0 B_merkle_Branch_0 (b + 3))
  nx : b + 5 ≤ h.next
  fr : ∀ j, j < b → h.get j = h0.get j
theorem rem2 (n : Nat) (hn : n < 4611686018427387904) (e : EqK) (h : H) : binV .rem e h (.int .i64 (n : Int)) (.int .i64 2) = some (.int .i64 ((n % 2 : Nat) : Int)) := by
  rw [b_rem _ _ _ _ _ (by omega)]; rfl
theorem br_yld (x : ∀ l a h, X (.yld l) a h = none) (M b : Nat) (T0 : Tr V) (t3 : evO T0 (.t 3) = .ptr (some (b, 0))) (t6 : evO T0 (.t 6) = .ptr (some (b + 1, 0))) (hb tot) :
    ∀ l h0 h1 q, BrY b T0 hb tot l h0 → 1 < l.length → l.length ≤ 1000 → Kp h0 h1 → b + 2 < h0.next → GrR 64 h0.next h1 (some (q, 0)) none 64 (prs l) → ∃ h2 v, callX E X (M + 8) (.yld (b + 4)) [.slice (some (q, 0)) (prs l).length none 64] h1 = some (.bool v, h2) ∧ h1.next ≤ h2.next ∧ (v = true → BrY b T0 hb tot (up l) h2 ∧ h2.get (b + 2) = h1.get (b + 2) ∧ h2.get q = h1.get q) ∧ (v = false → False) := by
  intro l h0 h1 q ⟨⟨acc, n, a, c, ez, g0, g1, gr, to, hn, hl3, _⟩, g3, g4, nx, fr⟩ hl hl2 k1 hb2 grl
  have yx : callX E X (M + 8) (.yld (b + 4)) [.slice (some (q, 0)) (prs l).length none 64] h1 = cYld (callX E X (M + 7)) (M + 7) (b + 4) [.slice (some (q, 0)) (prs l).length none 64] h1 := x_yld (x _ _ _)
  have pl := prs_len _ l rfl
  have hne : prs l ≠ [] := by intro h; have := congrArg List.length h; simp only [List.length_nil] at this; omega
  rcases grl with ⟨e0, _⟩ | ⟨q', vs, md, e1, _, _, _, hlo, hq, g, hm, rb⟩
  · exact absurd e0 hne
  cases e1
  have n1 := k1.1
  have hp : (prs l)[n / 2]? = some ((prs l)[n / 2]'(by omega)) := List.getElem?_eq_getElem (by omega)
  obtain ⟨p, ep⟩ : ∃ p, (prs l)[n / 2]'(by omega) = p := ⟨_, rfl⟩
  rw [ep] at hp
  clear ep
  have hp64 := (rb.2 _ _ hp).2
  have gp : (prs l).getD (n / 2) [] = p := by rw [List.getD_eq_getElem?_getD, hp]; rfl
  obtain ⟨s, es⟩ : ∃ s, sibL (prs l) n = s := ⟨_, rfl⟩
  have es' := es
  unfold sibL at es'
  rw [gp] at es'
  have hs : s.length = 32 := by rw [← es']; split <;> simp [hp64]
  obtain ⟨k, ek⟩ : ∃ k, 1 - n % 2 = k := ⟨_, rfl⟩
  have hk : k < 2 := by omega
  -- the sibling's cells
  have ldS : loadE (some (.cells vs md)) (some 32) (n / 2 * 64 + k * 32) = some (.agg (ofI .u8 s)) := by
    obtain ⟨h1', h2'⟩ := rb.2 _ _ hp
    have mm := mul_le (k := 64) (show n / 2 < (prs l).length by omega)
    have lv := rb.1
    rw [m_loadN, readN_of _ _ _ (by omega)]
    have : (vs.drop (n / 2 * 64 + k * 32)).take 32 = ((ofI .u8 p).drop (k * 32)).take 32 := by
      rw [← h1', List.drop_take, List.take_take, Nat.min_eq_left (by omega), List.drop_drop]
    rw [this, ofI_drop, ofI_take]
    have : (p.drop (k * 32)).take 32 = s := by
      rw [← es']
      by_cases ho : n % 2 = 1
      · rw [if_pos ho, show k = 0 by omega, Nat.zero_mul, List.drop_zero]
      · rw [if_neg ho, show k = 1 by omega, Nat.one_mul]
        exact List.take_of_length_le (by rw [List.length_drop]; omega)
    rw [this]
  obtain ⟨h2, e2⟩ : ∃ h2, h1.put (b + 4) (.loop 1 none 34 T0 [18] A_merkle_Branch_0 B_merkle_Branch_0 (b + 3)) = h2 := ⟨_, rfl⟩
  have n2 : h2.next = h1.next := by rw [← e2]; rfl
  have f2 : ∀ j, j ≠ b + 4 → h2.get j = h1.get j := fun j hj => by rw [← e2, h_put_ne _ _ (Ne.symm hj)]
  have g24 : h2.get (b + 4) = some (.loop 1 none 34 T0 [18] A_merkle_Branch_0 B_merkle_Branch_0 (b + 3)) := by rw [← e2]; exact h_put_same _ _ _
  have g14 : h1.get (b + 4) = some (.loop 0 none 34 T0 [18] A_merkle_Branch_0 B_merkle_Branch_0 (b + 3)) := by rw [k1.2 _ (by omega), g4]
  have g20 : h2.get b = some (.cells [.int .i64 (n : Int)] .rw) := by rw [f2 _ (by omega), k1.2 _ (by omega), g0]
  have g21 : h2.get (b + 1) = some (.cells [.slice a acc.length c ez] .rw) := by rw [f2 _ (by omega), k1.2 _ (by omega), g1]
  have g2q : h2.get q = some (.cells vs md) := by rw [f2 _ (by omega), g]
  obtain ⟨h3, e3⟩ : ∃ h3, (bump 1 h2).put h1.next (.cells (ofI .u8 s) .rw) = h3 := ⟨_, rfl⟩
  have n3 : h3.next = h1.next + 1 := by rw [← e3, h_next_put, s_bump_next, n2]
  have f3 : ∀ j, j ≠ h1.next → h3.get j = h2.get j := fun j hj => by rw [← e3, h_put_ne _ _ (Ne.symm hj), s_bump_get]
  have gg3 : h3.get h1.next = some (.cells (ofI .u8 s) .rw) := by rw [← e3]; exact h_put_same _ _ _
  have sc := src_k h3 (k := 32) hs .rw (some 1) gg3
  have gr3 : GrR 32 (b + 5) h3 a c ez acc := gr.mono (by omega) (fun q' e' hl hq => by rw [f3 _ (by omega), f2 _ (by omega), k1.2 _ hq])
  obtain ⟨h4, ap, gr4, n4, f4⟩ := gr_app (k := 32) (by decide) (by decide) gr3 (by omega) (by omega) s hs
  rw [n3] at ap gr4 n4
  have sp : ∀ j, a = some (j, 0) → b + 5 ≤ j ∧ j < h0.next := fun j hj => gr.lo hj
  have F4 : ∀ j, j < h1.next → j ≠ b + 4 → a ≠ some (j, 0) → h4.get j = h1.get j := fun j hj hb' ha => by rw [f4 _ (by omega) ha, f3 _ (by omega), f2 _ hb']
  have g41 : h4.get (b + 1) = some (.cells [.slice a acc.length c ez] .rw) := by rw [F4 _ (by omega) (by omega) (fun hh => by have := sp _ hh; omega), k1.2 _ (by omega), g1]
  have g40 : h4.get b = some (.cells [.int .i64 (n : Int)] .rw) := by rw [F4 _ (by omega) (by omega) (fun hh => by have := sp _ hh; omega), k1.2 _ (by omega), g0]
  have g44 : h4.get (b + 4) = some (.loop 1 none 34 T0 [18] A_merkle_Branch_0 B_merkle_Branch_0 (b + 3)) := by rw [f4 _ (by omega) (fun hh => by have := sp _ hh; omega), f3 _ (by omega), g24]
  have qu := quo2 n (by omega)
  have re := rem2 n (by omega)
  have w1 : wr .i64 (1 - ((n % 2 : Nat) : Int)) = (k : Int) := by rw [wr_i64 (by omega)]; omega
  obtain ⟨np, enp⟩ : ∃ m, (prs l).length = m := ⟨_, rfl⟩
  have i0 : idx ((n / 2 : Nat) : Int) np = some (n / 2) := idxn (by omega)
  have i1 : idx (k : Int) 2 = some k := idxn hk
  have fb := fill0 s hs
  have hu : acc ++ [s] ++ brL (up l) (n / 2) = tot := by
    rw [List.append_assoc]
    have := brL_up l n hl
    rw [es] at this
    rw [this] at to
    exact to
  have z1 : (b + 1 = b + 4) = False := by simp
  have z2 : (b + 4 = b + 1) = False := by simp
  have z3 : (b + 4 = b) = False := by simp
  have z4 : (b = b + 4) = False := by simp
  have z5 : (b = b + 1) = False := by simp
  have z6 : (b + 1 = b) = False := by simp
  have ul := up_len l
  refine ⟨((h4.put (b + 1) (.cells [.slice (some (h1.next + 1, 0)) (acc.length + 1) none 32] .rw)).put b (.cells [.int .i64 ((n / 2 : Nat) : Int)] .rw)).put (b + 4) (.loop 0 none 34 T0 [18] A_merkle_Branch_0 B_merkle_Branch_0 (b + 3)), true, ?_, by simp only [h_next_put]; omega, fun _ => ⟨⟨⟨acc ++ [s], n / 2, _, _, _, ?_, ?_, gr4.mono (by simp only [h_next_put]; omega) (fun q' e' _ _ => by cases e'; rw [h_put_ne _ _ (by omega), h_put_ne _ _ (by omega), h_put_ne _ _ (by omega)]), hu, by rw [ul]; omega, by rw [ul, List.length_append, List.length_singleton]; omega, .inr rfl⟩, ?_, h_put_same _ _ _, by simp only [h_next_put]; omega, fun j hj => ?_⟩, ?_, ?_⟩, fun h => by cases h⟩
  · rw [yx, enp]
    generalize ofI .u8 s = CS at *
    generalize acc.length = ac at *
    generalize n / 2 = nh at *
    generalize n % 2 = nm at *
    simp (config := {maxSteps := 2000000}) (disch := first | omega | (simp only [List.length_cons, List.length_nil, List.length_append, List.length_drop]; omega)) only [g14, e2, n2, g20, g21, qu, re, w1, i0, i1, g2q, ldS, fb, e3, sc, ap, g41, g40, g44, t3, t6, z1, z4, z6, m_storeS, ↓s_append, ↓s_dBuildS, s_dbE, y_cyld, y_ready, y_set1, y_mid, y_busy, y_end, y_done, y_jn, Option.isNone_none, ↓u_A_merkle_Branch_0, ↓u_B_merkle_Branch_0, Nat.zero_add, Nat.add_zero, ↓s_evD, ↓s_dnil, ↓s_dL, ↓s_dR, ↓s_dB, ↓s_bindD, s_bindD, s_finD, s_addP0, s_addP1, s_addB, s_lookP, ↓s_bump_get, Nat.add_zero, ↓h_put_get, ↓s_load, m_load, ↓m_load1, m_load1, ↓m_st, m_stE, m_storeI, m_storeE, w_zero, ↓x_idxA, ↓x_idxS, x_idxAE, x_idxSE, x_addrE, ↓x_P0, ↓x_P1, List.length_cons, List.length_nil, List.drop_succ_cons, List.drop_nil, ↓s_ops, ↓s_dops, ↓s_seq, ↓s_block, ↓s_nil, ↓s_op, ↓s_bindS, s_bindS, ↓s_bindE, s_bindE, s_norm, s_block_normal, ↓s_getp, ↓s_getp0, ↓s_get, ↓s_con, ↓s_mov, ↓s_bin, s_same, b_sub, ↓iteN_true, ↓iteN_false, iteN_true, iteN_false, Nat.zero_add, List.append_nil, Nat.reduceEqDiff, decide_true, decide_false, List.getElem?_cons_zero]
  · rw [h_put_ne _ _ (by omega), h_put_same]
  · rw [h_put_ne _ _ (by omega), h_put_ne _ _ (by omega), h_put_same, List.length_append, List.length_singleton]
  · rw [h_put_ne _ _ (by omega), h_put_ne _ _ (by omega), h_put_ne _ _ (by omega), F4 _ (by omega) (by omega) (fun hh => by have := sp _ hh; omega), k1.2 _ (by omega), g3]
  · rw [h_put_ne _ _ (by omega), h_put_ne _ _ (by omega), h_put_ne _ _ (by omega), F4 _ (by omega) (by omega) (fun hh => by have := sp _ hh; omega), k1.2 _ (by omega), fr _ hj]
  · rw [h_put_ne _ _ (by omega), h_put_ne _ _ (by omega), h_put_ne _ _ (by omega), F4 _ (by omega) (by omega) (fun hh => by have := sp _ hh; omega)]
  · rw [h_put_ne _ _ (by omega), h_put_ne _ _ (by omega), h_put_ne _ _ (by omega), F4 _ (by omega) (by omega) (fun hh => by have := sp _ hh; omega)]
end Go.Eng
namespace Go.Eng
open Go
variable {E : Nat → Option Fn} {X : Orc}
set_option linter.unusedSimpArgs false
set_option linter.unusedVariables false
theorem branch_go (e : EnBr E) (x : NoBrm X) (hx : HasTw E X) (M : Nat) (hM : 1000 < M) (l : List (List Nat)) (hl2 : l.length ≤ 500) (n : Nat) (hn : n < l.length) (h : H) (q off : Nat) (c : Option Nat) (vs : List V) (md : Md) (hc : ∀ x, c = some x → l.length ≤ x) (hq : q < h.next) (gq : h.get q = some (.cells vs md)) (rb : RowB 32 (vs.drop off) l) :
    ∃ h' a c' e', callX E X (M + 11) (.fn k_merkle_Branch) [.slice (some (q, off)) l.length c 32, .int .i64 (n : Int)] h = some (.tup [.slice a (brL l n).length c' e', .int .i64 0], h') ∧ Kp h h' ∧ GrR 32 h.next h' a c' e' (brL l n) ∧ (brL l n = [] ∨ c' = none) := by
  rw [x_cfn e.br _ _ (Nat.le_of_ble_eq_true rfl) (x.br _ _)]
  obtain ⟨len, en⟩ : ∃ n, l.length = n := ⟨_, rfl⟩
  obtain ⟨b, eb⟩ : ∃ b, h.next = b := ⟨_, rfl⟩
  rw [eb] at hq
  have lv := fun h => levels_go e.lv x.lv (M + 9) (some (q, off)) l.length c 32 h
  rw [en] at lv
  have c1 : decide ((n : Int) < 0) = false := decide_eq_false (by omega)
  have c2 : decide ((len : Int) ≤ (n : Int)) = false := decide_eq_false (by omega)
  obtain ⟨hA', eA⟩ : ∃ hA, ((h.new (.cells [.int .i64 (n : Int)] .rw)).new (.cells [.slice none 0 (some 0) 0] .rw)).new (.cells [.slice (some (q, off)) len c 32] .rw) = hA := ⟨_, rfl⟩
  have nA : hA'.next = b + 3 := by rw [← eA, ← eb]; rfl
  have gA0 : hA'.get b = some (.cells [.int .i64 (n : Int)] .rw) := by rw [← eA, ← eb]; (simp (disch := omega) only [h_new_get, h_next_new, Nat.add_assoc, Nat.add_eq_left, Nat.reduceAdd, decide_true, decide_false, iteN_true, iteN_false, Nat.reduceAdd, reduceCtorEq, ]; try rfl)
  have gA1 : hA'.get (b + 1) = some (.cells [.slice none 0 (some 0) 0] .rw) := by rw [← eA, ← eb]; (simp (disch := omega) only [h_new_get, h_next_new, Nat.add_assoc, Nat.add_left_cancel_iff, Nat.reduceAdd, decide_true, decide_false, iteN_true, iteN_false, Nat.reduceEqDiff, Nat.reduceAdd, ]; try rfl)
  have gA2 : hA'.get (b + 2) = some (.cells [.slice (some (q, off)) len c 32] .rw) := by rw [← eA, ← eb]; (simp (disch := omega) only [h_new_get, h_next_new, Nat.add_assoc, Nat.reduceAdd, decide_true, iteN_true, Nat.reduceAdd, ]; try rfl)
  have kA : Kp h hA' := by rw [← eA]; (repeat (first | exact Kp.refl _ | refine Kp.put ?_ _ (by first | omega | (simp only [h_next_put, h_next_new, h_next_del]; omega)) | refine Kp.del ?_ (by first | omega | (simp only [h_next_put, h_next_new, h_next_del]; omega)) | refine Kp.trans ?_ (Kp.new _ _)))
  have fin : ∀ T0, evO T0 (.t 3) = .ptr (some (b, 0)) → evO T0 (.t 6) = .ptr (some (b + 1, 0)) → ∃ h' a c' e', fnEnd [.tmp 4, .tmp 5] (bindE (blockE 0 (rangeEnd (b + 4) T0 [b + 3] (callF (callX E X (M + 10)) (.yld (b + 4)) (.fn k_merkle_levels_1 [] [.ptr (some (b + 2, 0))]) ((hA'.new .defers).new (.loop 0 none 34 T0 [18] A_merkle_Branch_0 B_merkle_Branch_0 (b + 3)))))) (evC (callX E X (M + 10)) 34 (M + 10) none R_merkle_Branch_0)) = some (.tup [.slice a (brL l n).length c' e', .int .i64 0], h') ∧ Kp h h' ∧ GrR 32 b h' a c' e' (brL l n) ∧ (brL l n = [] ∨ c' = none) := by
    intro T0 t3 t6
    obtain ⟨hB, eB⟩ : ∃ hB, (hA'.new .defers).new (.loop 0 none 34 T0 [18] A_merkle_Branch_0 B_merkle_Branch_0 (b + 3)) = hB := ⟨_, rfl⟩
    have nB : hB.next = b + 5 := by rw [← eB]; simp only [h_next_new, nA]
    have kB : Kp hA' hB := by rw [← eB]; exact (Kp.new _ _).trans (Kp.new _ _)
    have gB3 : hB.get (b + 3) = some .defers := by rw [← eB, h_new_ne _ _ (by rw [h_next_new, nA]; omega)]; exact h_new_same' _ _ nA
    have gB4 : hB.get (b + 4) = some (.loop 0 none 34 T0 [18] A_merkle_Branch_0 B_merkle_Branch_0 (b + 3)) := by rw [← eB]; exact h_new_same' _ _ (by rw [h_next_new, nA])
    have y0 : BrY b T0 h (brL l n) l hB := ⟨⟨[], n, none, some 0, 0, by rw [kB.2 _ (by omega), gA0], by rw [kB.2 _ (by omega), gA1]; rfl, .inl ⟨rfl, rfl, rfl, rfl⟩, rfl, hn, by rw [List.length_nil]; omega, .inl rfl⟩, gB3, gB4, by omega, fun j hj => by rw [kB.2 _ (by omega), kA.2 _ (by omega)]⟩
    obtain ⟨hC, r, nC, d⟩ := levels1_go e.lv x.lv hx (M + 1) (b + 2) (b + 4) (by omega) (BrY b T0 h (brL l n)) (fun _ => False) (fun l h h' y hn f => by
      obtain ⟨⟨acc, n, a, c, ez, s0, s1, gr, to, s2, s3, s4⟩, g3, g4, nx, fr⟩ := y
      exact ⟨⟨acc, n, a, c, ez, by rw [f _ (by omega) (by omega), s0], by rw [f _ (by omega) (by omega), s1], gr.mono hn (fun q' e' hl hq => f _ hq (by omega)), to, s2, s3, s4⟩, by rw [f _ (by omega) (by omega), g3], by rw [f _ (by omega) (by omega), g4], by omega, fun j hj => by rw [f _ (by omega) (by omega), fr _ hj]⟩) (br_yld x.lv.pr.yld (M + 1) b T0 t3 t6 h (brL l n)) l (by omega) (by omega) hB q off c vs md (by rw [kB.2 _ (by omega), gA2, en]) hc (by omega) (by omega) (by rw [kB.2 _ (by omega), kA.2 _ (by omega), gq]) rb (by omega) y0
    replace r : callX E X (M + 10) (.fn k_merkle_levels_1) [.yld (b + 4), .ptr (some (b + 2, 0))] hB = some (.tup [], hC) := r
    rcases d with ⟨rt, y⟩ | d
    rotate_left
    · exact d.elim
    obtain ⟨⟨acc, n', a, c', ez, s0, s1, gr, to, _, _, s4⟩, g3, g4, nx, fr⟩ := y
    rw [brL_1, List.append_nil] at to
    subst to
    have z2 : (b + 4 = b + 3) = False := by simp
    have z1 : (b + 4 = b + 1) = False := by simp
    have z3 : (b + 3 = b + 1) = False := by simp
    rw [eB]
    refine ⟨(hC.del (b + 4)).del (b + 3), a, c', ez, ?_, ⟨by simp only [h_next_del]; omega, fun i hi => by rw [h_del_ne _ (by omega), h_del_ne _ (by omega), fr _ (by omega)]⟩, ?_, s4⟩
    · generalize (brL l n).length = ac at *
      simp (config := {maxSteps := 2000000}) (disch := first | omega | (simp only [List.length_cons, List.length_nil, List.length_append, List.length_drop]; omega)) only [s_callF, List.nil_append, List.cons_append, r, t6, s1, g3, g4, z1, z2, R_merkle_Branch_0, r_end, r_0, r_jn, e_ret, d_cons, d_yes, d_nil, e_some, ↓h_del_get, ↓s_load, m_load, ↓m_load1, m_load1, List.cons_append, List.nil_append, s_res0, ↓s_ops, ↓s_seq, ↓s_ret, ↓s_nil, ↓s_op, ↓s_bindS, s_bindS, ↓s_bindE, s_bindE, s_norm, s_block_normal, ↓s_getp, ↓s_con, ↓s_mov, s_same, s_res0, s_res1, s_tup2, ↓iteN_true, ↓iteN_false, iteN_true, iteN_false, List.nil_append, Nat.reduceEqDiff, decide_true, decide_false, List.getElem?_cons_zero]
    · rcases gr with g | ⟨q', vs', md', e1, e2, e3, e4, hlo, hq', g', hm', rb'⟩
      · exact .inl g
      · exact .inr ⟨q', vs', md', e1, e2, e3, e4, by omega, by simp only [h_next_del]; exact hq', by rw [h_del_ne _ (by omega), h_del_ne _ (by omega), g'], hm', rb'⟩
  obtain ⟨R, eR⟩ : ∃ R, R_merkle_Branch_0 = R := ⟨_, rfl⟩
  rw [eR] at fin ⊢
  rw [en]
  generalize brL l n = BR at *
  have ci : ∀ v : Int, (V.int .i64 v).cells = [.int .i64 v] := fun _ => rfl
  simp (config := {maxSteps := 2000000}) (disch := first | omega | (simp only [List.length_cons, List.length_nil, List.length_append, List.length_drop]; omega)) only [lv, eA, nA, eb, c1, c2, ci, m_load1, ↓s_len, x_lenS, ↓s_box, ↓s_range, Nat.zero_add, ↓h_new_get, h_next_new, Nat.add_assoc, ↓s_load, m_load, ↓m_load1, m_load1, ↓s_alloc, x_lenS, ↓s_len, Nat.reduceAdd, ↓s_skip, ↓s_ops, ↓s_seq, ↓s_cond, ↓s_block, ↓s_nil, ↓s_op, ↓s_opg, ↓s_wanted', ↓s_wantV, s_wantV, ↓s_bindS, s_bindS, ↓s_bindE, s_bindE, s_norm, ↓s_condV, s_condV, ↓s_getp, ↓s_get, ↓s_con, ↓s_os0, ↓s_os1, ↓s_list0, ↓s_list1, ↓s_mov, ↓s_pick, ↓s_pickE, s_pickE, ↓s_bin, ↓s_call, s_same, b_lss, b_geq, ↓iteN_true, ↓iteN_false, iteN_true, iteN_false, Nat.zero_add, Nat.reduceEqDiff, decide_true, decide_false, List.getElem?_cons_zero, beq_self_eq_true]
  exact fin _ (by (simp only [s_getp, Nat.reduceEqDiff, decide_false, decide_true, iteN_false, iteN_true]; try rfl)) (by (simp only [s_getp, Nat.reduceEqDiff, decide_false, decide_true, iteN_false, iteN_true]; try rfl))
theorem branch_err (e : EnBr E) (x : NoBrm X) (N : Nat) (a : Option (Nat × Nat)) (len : Nat) (c : Option Nat) (ez : Nat) (n : Int) (hn : n < 0 ∨ (len : Int) ≤ n) (h : H) :
    ∃ h', callX E X (N + 1) (.fn k_merkle_Branch) [.slice a len c ez, .int .i64 n] h = some (.tup [.slice none 0 (some 0) 0, .int .i64 80], h') ∧ Kp h h' := by
  rw [x_cfn e.br _ _ (Nat.le_of_ble_eq_true rfl) (x.br _ _)]
  have ci : ∀ v : Int, (V.int .i64 v).cells = [.int .i64 v] := fun _ => rfl
  refine ⟨h.new (.cells [.int .i64 n] .rw), ?_, Kp.new _ _⟩
  by_cases h0 : n < 0
  · have c1 : decide (n < 0) = true := decide_eq_true h0
    simp (config := {maxSteps := 2000000}) (disch := first | omega | (simp only [List.length_cons, List.length_nil, List.length_append, List.length_drop]; omega)) only [c1, ci, m_load1, ↓s_box, Nat.zero_add, ↓h_new_get, ↓s_load, m_load, ↓m_load1, m_load1, s_res0, ↓s_ops, ↓s_seq, ↓s_cond, ↓s_ret, ↓s_nil, ↓s_op, ↓s_opg, ↓s_wanted', ↓s_wantV, s_wantV, beq_false, ↓s_bindS, s_bindS, ↓s_bindE, s_bindE, s_bindE_ret, s_norm, ↓s_condV, s_condV, ↓s_getp, ↓s_get, ↓s_con, ↓s_list0, ↓s_list1, ↓s_mov, ↓s_pick, ↓s_pickE, s_pickE, ↓s_bin, s_same, b_lss, s_end, s_res0, s_res1, s_tup2, ↓iteN_true, ↓iteN_false, iteN_true, iteN_false, Nat.zero_add, Nat.reduceEqDiff, decide_true, decide_false, Bool.not_true, List.getElem?_cons_zero]
  · have c1 : decide (n < 0) = false := decide_eq_false h0
    have c2 : decide ((len : Int) ≤ n) = true := decide_eq_true (by omega)
    simp (config := {maxSteps := 2000000}) (disch := first | omega | (simp only [List.length_cons, List.length_nil, List.length_append, List.length_drop]; omega)) only [c1, c2, ci, m_load1, ↓s_len, x_lenS, ↓s_box, Nat.zero_add, ↓h_new_get, ↓s_load, m_load, ↓m_load1, m_load1, x_lenS, ↓s_len, s_res0, ↓s_ops, ↓s_seq, ↓s_cond, ↓s_ret, ↓s_nil, ↓s_op, ↓s_opg, ↓s_wanted', ↓s_wantV, s_wantV, ↓s_bindS, s_bindS, ↓s_bindE, s_bindE, s_bindE_ret, s_norm, ↓s_condV, s_condV, ↓s_getp, ↓s_get, ↓s_con, ↓s_list0, ↓s_list1, ↓s_mov, ↓s_pick, ↓s_pickE, s_pickE, ↓s_bin, s_same, b_lss, b_geq, s_end, s_res0, s_res1, s_tup2, ↓iteN_true, ↓iteN_false, iteN_true, iteN_false, Nat.zero_add, Nat.reduceEqDiff, decide_true, decide_false, List.getElem?_cons_zero, beq_self_eq_true]
end Go.Eng
namespace Go.Eng
open Go
variable {E : Nat → Option Fn} {X : Orc}
set_option linter.unusedSimpArgs false
set_option linter.unusedVariables false
/-- what a leaf folds to -/
def foldL (leaf : List Nat) (n : Nat) : List (List Nat) → List Nat
  | [] => leaf
  | o :: r => foldL (tw (if n % 2 = 1 then o ++ leaf else leaf ++ o)) (n / 2) r
theorem foldL_len : ∀ (br : List (List Nat)) (leaf : List Nat) (n : Nat), leaf.length = 32 → (foldL leaf n br).length = 32 := by
  intro br
  induction br with
  | nil => intro leaf n h; exact h
  | cons o r ih => intro leaf n _; exact ih _ _ (tw_len _)
theorem shl1 (L : Nat) (hL : L < 31) (e : EqK) (h : H) : binV .shl e h (.int .i64 1) (.int .i64 (L : Int)) = some (.int .i64 ((2 ^ L : Nat) : Int)) := by
  have : L = 0 ∨ L = 1 ∨ L = 2 ∨ L = 3 ∨ L = 4 ∨ L = 5 ∨ L = 6 ∨ L = 7 ∨ L = 8 ∨ L = 9 ∨ L = 10 ∨ L = 11 ∨ L = 12 ∨ L = 13 ∨ L = 14 ∨ L = 15 ∨ L = 16 ∨ L = 17 ∨ L = 18 ∨ L = 19 ∨ L = 20 ∨ L = 21 ∨ L = 22 ∨ L = 23 ∨ L = 24 ∨ L = 25 ∨ L = 26 ∨ L = 27 ∨ L = 28 ∨ L = 29 ∨ L = 30 := by omega
  rcases this with rfl | rfl | rfl | rfl | rfl | rfl | rfl | rfl | rfl | rfl | rfl | rfl | rfl | rfl | rfl | rfl | rfl | rfl | rfl | rfl | rfl | rfl | rfl | rfl | rfl | rfl | rfl | rfl | rfl | rfl | rfl <;> rfl
structure EnFo (E : Nat → Option Fn) : Prop where
  ab : EnAb E
  fo : E k_merkle_Fold = some f_merkle_Fold
structure NoFo (X : Orc) : Prop where
  ab : NoAb X
  fo : ∀ a h, X (.fn k_merkle_Fold) a h = none
structure FoI (p r : Nat) (a : Option (Nat × Nat)) (c : Option Nat) (ez : Nat) (br : List (List Nat)) (tot : List Nat) (h0 : H) (i : Nat) (T : Tr V) (h : H) : Prop where
  t3 : evO T (.t 3) = .ptr (some (p, 0))
  t6 : evO T (.t 6) = .ptr (some (r, 0))
  t26 : evO T (.t 26) = .slice a br.length c ez
  t27 : evO T (.t 27) = .int .i64 (br.length : Int)
  t28 : evO T (.t 28) = .int .i64 (i : Int)
  st : ∃ (leaf : List Nat) (n : Nat), evO T (.t 1) = .int .i64 (n : Int) ∧ h.get p = some (.cells (ofI .u8 leaf) .rw) ∧ leaf.length = 32 ∧ foldL leaf n (br.drop i) = tot ∧ n < 4611686018427387904
  nx : h0.next ≤ h.next
  fr : ∀ j, j < h0.next → j ≠ p → h.get j = h0.get j
theorem fo_step (e : EnFo E) (x : NoFo X) (hx : HasTw E X) (M m p r : Nat) (a : Option (Nat × Nat)) (c : Option Nat) (ez : Nat) (br : List (List Nat)) (hb : br.length ≤ 1000) (tot : List Nat) (h0 : H) (hp : p < h0.next) (q off : Nat) (vs : List V) (md : Md) (ea : a = some (q, off)) (ee : ez = 32) (hq : q < h0.next) (hqp : q ≠ p) (gq : h0.get q = some (.cells vs md)) (rb : RowB 32 (vs.drop off) br) :
    ∀ i T h, i < br.length → FoI p r a c ez br tot h0 i T h → ∃ T' h', evC (callX E X (M + 6)) 47 m none L_merkle_Fold_0 ⟨T, [], h⟩ = some (.normal, ⟨T', [], h'⟩) ∧ FoI p r a c ez br tot h0 (i + 1) T' h' := by
  subst ea ee
  intro i T h hi ⟨t3, t6, t26, t27, t28, ⟨leaf, n, t1, gp, hl, to, hn⟩, nx, fr⟩
  have hO : br[i]? = some br[i] := List.getElem?_eq_getElem hi
  obtain ⟨O, eO⟩ : ∃ O, br[i] = O := ⟨_, rfl⟩
  rw [eO] at hO
  have dr : br.drop i = O :: br.drop (i + 1) := by rw [List.drop_eq_getElem_cons hi, eO]
  rw [dr] at to
  clear eO
  have lO := rowB_ld rb hO (by decide) md
  have hO32 := (rb.2 _ _ hO).2
  obtain ⟨P, eP⟩ : ∃ P, (if n % 2 = 1 then O ++ leaf else leaf ++ O) = P := ⟨_, rfl⟩
  have hP : P.length = 64 := by rw [← eP]; split <;> simp [hl, hO32]
  have to' : foldL (tw P) (n / 2) (br.drop (i + 1)) = tot := by rw [← eP]; exact to
  obtain ⟨Z3, eZ3⟩ : ∃ Z, ofI .u8 (List.replicate 32 0) = Z := ⟨_, rfl⟩
  obtain ⟨Z6, eZ6⟩ : ∃ Z, ofI .u8 (List.replicate 64 0) = Z := ⟨_, rfl⟩
  obtain ⟨h1, e1⟩ : ∃ h1, (h.new (.cells Z3 .rw)).put h.next (.cells (ofI .u8 O) .rw) = h1 := ⟨_, rfl⟩
  have n1 : h1.next = h.next + 1 := by rw [← e1]; rfl
  have k1 : Kp h h1 := by rw [← e1]; (repeat (first | exact Kp.refl _ | refine Kp.put ?_ _ (by first | omega | (simp only [h_next_put, h_next_new, h_next_del]; omega)) | refine Kp.del ?_ (by first | omega | (simp only [h_next_put, h_next_new, h_next_del]; omega)) | refine Kp.trans ?_ (Kp.new _ _)))
  have g1 : h1.get h.next = some (.cells (ofI .u8 O) .rw) := by rw [← e1]; exact h_put_same _ _ _
  have g1p : h1.get p = some (.cells (ofI .u8 leaf) .rw) := by rw [k1.2 _ (by omega), gp]
  obtain ⟨h2, e2⟩ : ∃ h2, (h1.new (.cells Z6 .rw)).put (h.next + 1) (.cells (ofI .u8 (leaf ++ O)) .rw) = h2 := ⟨_, rfl⟩
  have n2 : h2.next = h.next + 2 := by rw [← e2]; show h1.next + 1 = _; rw [n1]
  have k2 : Kp h1 h2 := by rw [← e2]; (repeat (first | exact Kp.refl _ | refine Kp.put ?_ _ (by first | omega | (simp only [h_next_put, h_next_new, h_next_del]; omega)) | refine Kp.del ?_ (by first | omega | (simp only [h_next_put, h_next_new, h_next_del]; omega)) | refine Kp.trans ?_ (Kp.new _ _)))
  have g2 : h2.get (h.next + 1) = some (.cells (ofI .u8 (leaf ++ O)) .rw) := by rw [← e2]; exact h_put_same _ _ _
  have g29 : h2.get h.next = some (.cells (ofI .u8 O) .rw) := by rw [k2.2 _ (by omega), g1]
  have g2p : h2.get p = some (.cells (ofI .u8 leaf) .rw) := by rw [k2.2 _ (by omega), g1p]
  have gqh : h.get q = some (.cells vs md) := by rw [fr _ hq hqp, gq]
  have c0 : decide ((i : Int) < (br.length : Int)) = true := decide_eq_true (by omega)
  have wi : wr .i64 ((i : Int) + 1) = ((i + 1 : Nat) : Int) := by rw [wr_i64 (by omega)]; omega
  have ix : idx (i : Int) br.length = some i := idxn hi
  have re := rem2 n hn
  have qu := quo2 n hn
  have ldG : ∀ (l : List Nat) (_ : l.length = 32) m, loadE (some (.cells (ofI .u8 l) m)) (some 32) 0 = some (.agg (ofI .u8 l)) := fun l hl m => by rw [m_loadN, x_readAll _ 32 (by rw [ofI_len, hl])]
  have ldG6 : ∀ (l : List Nat) (_ : l.length = 64) m, loadE (some (.cells (ofI .u8 l) m)) (some 64) 0 = some (.agg (ofI .u8 l)) := fun l hl m => by rw [m_loadN, x_readAll _ 64 (by rw [ofI_len, hl])]
  have stG : ∀ (l : List Nat) (_ : l.length = 32) h i, storeV h 32 (.ptr (some (i, 0))) (.agg (ofI .u8 l)) = storeE (h.get i) h i 0 (ofI .u8 l) := fun l hl h i => st32 h i 0 _ hl
  have stG6 : ∀ (l : List Nat) (_ : l.length = 64) h i, storeV h 64 (.ptr (some (i, 0))) (.agg (ofI .u8 l)) = storeE (h.get i) h i 0 (ofI .u8 l) := fun l hl h i => st64 h i 0 _ hl
  have puG : ∀ (z l : List Nat) (_ : z.length = l.length) h i, storeE (some (.cells (ofI .u8 z) .rw)) h i 0 (ofI .u8 l) = some (h.put i (.cells (ofI .u8 l) .rw)) := fun z l hl h i => by
    rw [m_storeE _ _ _ _ _ (by rw [ofI_len, ofI_len, hl]; omega), wrAll _ _ _ hl]
  have lLO : (leaf ++ O).length = 64 := by rw [List.length_append]; omega
  have lOL : (O ++ leaf).length = 64 := by rw [List.length_append]; omega
  have pu1 := puG (List.replicate 32 0) O (by rw [hO32, List.length_replicate])
  have pu2 := puG (List.replicate 64 0) (leaf ++ O) (by rw [lLO, List.length_replicate])
  have pu4 := puG leaf (tw P) (by rw [hl, tw_len])
  rw [eZ3] at pu1
  rw [eZ6] at pu2
  have st1 := stG O hO32
  have st2 := stG6 _ lLO
  have st4 := stG (tw P) (tw_len P)
  have ld1 := ldG O hO32
  have ld3 := ldG leaf hl
  have fb := fill2 leaf O hl hO32
  have e64 := z64e
  rw [eZ6] at e64
  have al6 : ∀ (Q : Orc) (T : Tr V) (h : H), Eng.step (.alloc [.int .u8 0, .int .u8 0, .int .u8 0, .int .u8 0, .int .u8 0, .int .u8 0, .int .u8 0, .int .u8 0, .int .u8 0, .int .u8 0, .int .u8 0, .int .u8 0, .int .u8 0, .int .u8 0, .int .u8 0, .int .u8 0, .int .u8 0, .int .u8 0, .int .u8 0, .int .u8 0, .int .u8 0, .int .u8 0, .int .u8 0, .int .u8 0, .int .u8 0, .int .u8 0, .int .u8 0, .int .u8 0, .int .u8 0, .int .u8 0, .int .u8 0, .int .u8 0, .int .u8 0, .int .u8 0, .int .u8 0, .int .u8 0, .int .u8 0, .int .u8 0, .int .u8 0, .int .u8 0, .int .u8 0, .int .u8 0, .int .u8 0, .int .u8 0, .int .u8 0, .int .u8 0, .int .u8 0, .int .u8 0, .int .u8 0, .int .u8 0, .int .u8 0, .int .u8 0, .int .u8 0, .int .u8 0, .int .u8 0, .int .u8 0, .int .u8 0, .int .u8 0, .int .u8 0, .int .u8 0, .int .u8 0, .int .u8 0, .int .u8 0, .int .u8 0]) Q T h = some (.ptr (some (h.next, 0)), h.new (.cells Z6 .rw)) := fun Q T h => by rw [e64]; rfl
  have al3 : ∀ (Q : Orc) (T : Tr V) (h : H), Eng.step (.alloc [.int .u8 0, .int .u8 0, .int .u8 0, .int .u8 0, .int .u8 0, .int .u8 0, .int .u8 0, .int .u8 0, .int .u8 0, .int .u8 0, .int .u8 0, .int .u8 0, .int .u8 0, .int .u8 0, .int .u8 0, .int .u8 0, .int .u8 0, .int .u8 0, .int .u8 0, .int .u8 0, .int .u8 0, .int .u8 0, .int .u8 0, .int .u8 0, .int .u8 0, .int .u8 0, .int .u8 0, .int .u8 0, .int .u8 0, .int .u8 0, .int .u8 0, .int .u8 0]) Q T h = some (.ptr (some (h.next, 0)), h.new (.cells Z3 .rw)) := fun Q T h => by rw [← eZ3]; rfl
  have gz3 : (h.new (.cells Z3 .rw)).get h.next = some (.cells Z3 .rw) := h_new_same _ _
  have gz6 : (h1.new (.cells Z6 .rw)).get (h.next + 1) = some (.cells Z6 .rw) := h_new_same' _ _ n1
  have zp : (h.next = p) = False := eq_false (by omega)
  have zp1 : (h.next + 1 = p) = False := eq_false (by omega)
  by_cases ho : n % 2 = 1
  · rw [if_pos ho] at eP
    have d1 : decide (((n % 2 : Nat) : Int) = 1) = true := decide_eq_true (by omega)
    obtain ⟨h3, e3⟩ : ∃ h3, h2.put (h.next + 1) (.cells (ofI .u8 P) .rw) = h3 := ⟨_, rfl⟩
    have n3 : h3.next = h.next + 2 := by rw [← e3]; exact n2
    have g3 : h3.get (h.next + 1) = some (.cells (ofI .u8 P) .rw) := by rw [← e3]; exact h_put_same _ _ _
    have f3 : ∀ j, j ≠ h.next + 1 → h3.get j = h2.get j := fun j hj => by rw [← e3, h_put_ne _ _ (Ne.symm hj)]
    have fb2 := fill2 O leaf hO32 hl
    rw [eP] at fb2
    have pu3 := puG (leaf ++ O) P (by rw [lLO, hP])
    have st3 := stG6 P hP
    have ld6 := ldG6 P hP
    obtain ⟨h4, r4, k4⟩ := above_go e.ab.cat x.ab.cat hx e.ab.pa x.ab.pa M P hP h3
    have n4 := k4.1
    have g4p : h4.get p = some (.cells (ofI .u8 leaf) .rw) := by rw [k4.2 _ (by omega), f3 _ (by omega), g2p]
    obtain ⟨h5, e5⟩ : ∃ h5, h4.put p (.cells (ofI .u8 (tw P)) .rw) = h5 := ⟨_, rfl⟩
    have g5 : h5.get p = some (.cells (ofI .u8 (tw P)) .rw) := by rw [← e5]; exact h_put_same _ _ _
    have n5 : h5.next = h4.next := by rw [← e5]; rfl
    clear ldG ldG6 stG stG6 puG
    generalize hCT : ofI .u8 (tw P) = CT at *
    generalize ofI .u8 P = CP at *
    generalize ofI .u8 (leaf ++ O) = CLO at *
    generalize ofI .u8 leaf = CL at *
    generalize ofI .u8 O = CO at *
    refine ⟨_, h5, by
      simp (config := {maxSteps := 2000000}) (disch := first | omega | (simp only [List.length_cons, List.length_nil, List.length_append, List.length_drop]; omega)) only [L_merkle_Fold_0, t1, t3, t26, t27, t28, gqh, lO, c0, wi, ix, ↓al3, ↓al6, e1, g1, g1p, n1, e2, g2, g29, g2p, e3, g3, r4, g4p, e5, st1, st2, st3, st4, pu1, pu2, pu3, pu4, ld1, ld3, ld6, re, qu, d1, fb, fb2, ↓x_build, x_aggO, ↓x_P0, ↓x_P1, ↓h_new_get, ↓s_load, m_load, ↓m_st, m_stE, ↓x_idxS, x_idxSE, x_addrE, ↓x_P0, ↓x_P1, ↓s_skip, ↓s_ops, ↓s_seq, ↓s_cond, ↓s_block, ↓s_nil, ↓s_op, ↓s_bindS, s_bindS, ↓s_bindE, s_bindE, s_norm, ↓s_condV, s_condV, s_block_normal, ↓s_getp, ↓s_getp0, ↓s_con, ↓s_os0, ↓s_os1, ↓s_mov, ↓s_bin, ↓s_call, s_same, b_eql, b_lss, b_add, ↓iteN_true, ↓iteN_false, iteN_true, iteN_false, Nat.reduceEqDiff, decide_true, decide_false]
      exact rfl, (by (simp only [s_getp, s_getp0, Nat.reduceEqDiff, decide_false, iteN_false, t3]; try rfl)), (by (simp only [s_getp, s_getp0, Nat.reduceEqDiff, decide_false, iteN_false, t6]; try rfl)), (by (simp only [s_getp, s_getp0, Nat.reduceEqDiff, decide_false, iteN_false, t26]; try rfl)), (by (simp only [s_getp, s_getp0, Nat.reduceEqDiff, decide_false, iteN_false, t27]; try rfl)), (by (simp only [s_getp, decide_true, iteN_true]; try rfl)), ⟨tw P, n / 2, (by (simp only [s_getp, Nat.reduceEqDiff, decide_false, decide_true, iteN_false, iteN_true]; try rfl)), by rw [hCT]; exact g5, tw_len P, to', by omega⟩, by omega, fun j hj hjp => by rw [← e5, h_put_ne _ _ (Ne.symm hjp), k4.2 _ (by omega), f3 _ (by omega), k2.2 _ (by omega), k1.2 _ (by omega), fr _ hj hjp]⟩
  · rw [if_neg ho] at eP
    have d1 : decide (((n % 2 : Nat) : Int) = 1) = false := decide_eq_false (by omega)
    have ld6 := ldG6 (leaf ++ O) lLO
    rw [eP] at fb pu2 ld6 e2 g2 st2
    obtain ⟨h4, r4, k4⟩ := above_go e.ab.cat x.ab.cat hx e.ab.pa x.ab.pa M P hP h2
    have n4 := k4.1
    have g4p : h4.get p = some (.cells (ofI .u8 leaf) .rw) := by rw [k4.2 _ (by omega), g2p]
    obtain ⟨h5, e5⟩ : ∃ h5, h4.put p (.cells (ofI .u8 (tw P)) .rw) = h5 := ⟨_, rfl⟩
    have g5 : h5.get p = some (.cells (ofI .u8 (tw P)) .rw) := by rw [← e5]; exact h_put_same _ _ _
    have n5 : h5.next = h4.next := by rw [← e5]; rfl
    clear ldG ldG6 stG stG6 puG
    generalize hCT : ofI .u8 (tw P) = CT at *
    generalize ofI .u8 P = CP at *
    generalize ofI .u8 leaf = CL at *
    generalize ofI .u8 O = CO at *
    refine ⟨_, h5, by
      simp (config := {maxSteps := 2000000}) (disch := first | omega | (simp only [List.length_cons, List.length_nil, List.length_append, List.length_drop]; omega)) only [L_merkle_Fold_0, t1, t3, t26, t27, t28, gqh, lO, c0, wi, ix, ↓al3, ↓al6, e1, g1, g1p, n1, e2, g2, r4, g4p, e5, st1, st2, st4, pu1, pu2, pu4, ld1, ld3, ld6, re, qu, d1, fb, ↓x_build, x_aggO, ↓x_P0, ↓x_P1, ↓h_new_get, ↓s_load, m_load, ↓m_st, m_stE, ↓x_idxS, x_idxSE, x_addrE, ↓x_P0, ↓x_P1, ↓s_skip, ↓s_ops, ↓s_seq, ↓s_cond, ↓s_block, ↓s_nil, ↓s_op, ↓s_bindS, s_bindS, ↓s_bindE, s_bindE, s_norm, ↓s_condV, s_condV, s_block_normal, ↓s_getp, ↓s_getp0, ↓s_con, ↓s_os0, ↓s_os1, ↓s_mov, ↓s_bin, ↓s_call, s_same, b_eql, b_lss, b_add, ↓iteN_true, ↓iteN_false, iteN_true, iteN_false, Nat.reduceEqDiff, decide_true, decide_false]
      exact rfl, (by (simp only [s_getp, s_getp0, Nat.reduceEqDiff, decide_false, iteN_false, t3]; try rfl)), (by (simp only [s_getp, s_getp0, Nat.reduceEqDiff, decide_false, iteN_false, t6]; try rfl)), (by (simp only [s_getp, s_getp0, Nat.reduceEqDiff, decide_false, iteN_false, t26]; try rfl)), (by (simp only [s_getp, s_getp0, Nat.reduceEqDiff, decide_false, iteN_false, t27]; try rfl)), (by (simp only [s_getp, decide_true, iteN_true]; try rfl)), ⟨tw P, n / 2, (by (simp only [s_getp, Nat.reduceEqDiff, decide_false, decide_true, iteN_false, iteN_true]; try rfl)), by rw [hCT]; exact g5, tw_len P, to', by omega⟩, by omega, fun j hj hjp => by rw [← e5, h_put_ne _ _ (Ne.symm hjp), k4.2 _ (by omega), k2.2 _ (by omega), k1.2 _ (by omega), fr _ hj hjp]⟩
theorem fold_go (e : EnFo E) (x : NoFo X) (hx : HasTw E X) (M : Nat) (hM : 1000 < M) (leaf : List Nat) (hl : leaf.length = 32) (n : Nat) (br : List (List Nat)) (hb : br.length < 31) (hn : n < 2 ^ br.length) (a : Option (Nat × Nat)) (c : Option Nat) (ez : Nat) (h : H) (S : HsR 32 h a ez br) :
    ∃ h', callX E X (M + 7) (.fn k_merkle_Fold) [.agg (ofI .u8 leaf), .int .i64 (n : Int), .slice a br.length c ez] h = some (.tup [.agg (ofI .u8 (foldL leaf n br)), .int .i64 0], h') ∧ Kp h h' := by
  rw [x_cfn e.fo _ _ (Nat.le_of_ble_eq_true rfl) (x.fo _ _)]
  have hn2 : n < 4611686018427387904 := Nat.lt_of_lt_of_le hn (Nat.le_trans (Nat.pow_le_pow_right (by omega) (show br.length ≤ 30 by omega)) (by decide))
  obtain ⟨L, eL0⟩ : ∃ L, br.length = L := ⟨_, rfl⟩
  obtain ⟨b, eb⟩ : ∃ b, h.next = b := ⟨_, rfl⟩
  obtain ⟨Z3, eZ3⟩ : ∃ Z, ofI .u8 (List.replicate 32 0) = Z := ⟨_, rfl⟩
  obtain ⟨h1, e1⟩ : ∃ h1, (h.new (.cells (ofI .u8 leaf) .rw)).new (.cells Z3 .rw) = h1 := ⟨_, rfl⟩
  have n1 : h1.next = b + 2 := by rw [← e1, ← eb]; rfl
  have k1 : Kp h h1 := by rw [← e1]; (repeat (first | exact Kp.refl _ | refine Kp.put ?_ _ (by first | omega | (simp only [h_next_put, h_next_new, h_next_del]; omega)) | refine Kp.del ?_ (by first | omega | (simp only [h_next_put, h_next_new, h_next_del]; omega)) | refine Kp.trans ?_ (Kp.new _ _)))
  have g10 : h1.get b = some (.cells (ofI .u8 leaf) .rw) := by rw [← e1, ← eb]; (simp (disch := omega) only [h_new_get, h_next_new, Nat.add_eq_left, decide_true, decide_false, iteN_true, iteN_false, reduceCtorEq, ]; try rfl)
  have g11 : h1.get (b + 1) = some (.cells Z3 .rw) := by rw [← e1, ← eb]; (simp (disch := omega) only [h_new_get, h_next_new, decide_true, iteN_true, ]; try rfl)
  have fin : ∀ T, evO T (.t 3) = .ptr (some (b, 0)) → evO T (.t 6) = .ptr (some (b + 1, 0)) → evO T (.t 26) = .slice a br.length c ez → evO T (.t 27) = .int .i64 (br.length : Int) → evO T (.t 28) = .int .i64 ((0 : Nat) : Int) → evO T (.t 1) = .int .i64 (n : Int) →
      ∃ h', fnEnd [.cell 6 (some 32), .tmp 7] (bindE (blockE 0 (loopN (evC (callX E X (M + 6)) 47 (M + 6) none L_merkle_Fold_0) (M + 6) ⟨T, [], h1⟩)) (evC (callX E X (M + 6)) 47 (M + 6) none R_merkle_Fold_0)) = some (.tup [.agg (ofI .u8 (foldL leaf n br)), .int .i64 0], h') ∧ Kp h h' := by
    intro T t3 t6 t26 t27 t28 t1
    have I0 : FoI b (b + 1) a c ez br (foldL leaf n br) h1 0 T h1 := ⟨t3, t6, t26, t27, t28, ⟨leaf, n, t1, g10, hl, by rw [List.drop_zero], hn2⟩, Nat.le_refl _, fun _ _ _ => rfl⟩
    have step : ∀ i T h, i < br.length → FoI b (b + 1) a c ez br (foldL leaf n br) h1 i T h → ∃ T' h', evC (callX E X (M + 6)) 47 (M + 6) none L_merkle_Fold_0 ⟨T, [], h⟩ = some (.normal, ⟨T', [], h'⟩) ∧ FoI b (b + 1) a c ez br (foldL leaf n br) h1 (i + 1) T' h' := by
      intro i T h' hi I
      rcases S with S | ⟨q, off, vs, md, ea, ee, hq, gq, rb⟩
      · rw [S] at hi; cases hi
      · exact fo_step e x hx M (M + 6) b (b + 1) a c ez br (by omega) _ h1 (by omega) q off vs md ea ee (by omega) (by omega) (by rw [k1.2 _ hq, gq]) rb i T h' hi I
    obtain ⟨T', h', r, J⟩ := loop_go (FoI b (b + 1) a c ez br (foldL leaf n br) h1) br.length (.exit 0) (by intro h; cases h) (FoI b (b + 1) a c ez br (foldL leaf n br) h1 br.length) step (fun T h' I => by
      obtain ⟨t3, t6, t26, t27, t28, ⟨lf, n', t1, gp, hl', to, hn'⟩, nx, fr⟩ := I
      have c0 : decide ((br.length : Int) < (br.length : Int)) = false := decide_eq_false (by omega)
      refine ⟨_, h', by
        simp (config := {maxSteps := 2000000}) (disch := first | omega | (simp only [List.length_cons, List.length_nil, List.length_append, List.length_drop]; omega)) only [L_merkle_Fold_0, t27, t28, c0, ↓s_ops, ↓s_seq, ↓s_cond, ↓s_exit, ↓s_nil, ↓s_op, ↓s_bindS, s_bindS, ↓s_bindE, s_bindE, s_bindE_exit, s_norm, ↓s_condV, s_condV, ↓s_getp, ↓s_bin, s_same, b_lss, ↓iteN_true, ↓iteN_false, iteN_true, iteN_false, decide_true]
        exact rfl, ⟨(by (simp only [s_getp, Nat.reduceEqDiff, decide_false, iteN_false, t3]; try rfl)), (by (simp only [s_getp, Nat.reduceEqDiff, decide_false, iteN_false, t6]; try rfl)), (by (simp only [s_getp, Nat.reduceEqDiff, decide_false, iteN_false, t26]; try rfl)), (by (simp only [s_getp, Nat.reduceEqDiff, decide_false, iteN_false, t27]; try rfl)), (by (simp only [s_getp, Nat.reduceEqDiff, decide_false, iteN_false, t28]; try rfl)), ⟨lf, n', (by (simp only [s_getp, Nat.reduceEqDiff, decide_false, iteN_false, t1]; try rfl)), gp, hl', to, hn'⟩, nx, fr⟩⟩) br.length 0 (by omega) (M + 6) (by omega) T h1 I0
    obtain ⟨u3, u6, _, _, _, ⟨lf, n', _, gp, hl', to, _⟩, nx, fr⟩ := J
    rw [List.drop_length] at to
    have to2 : lf = foldL leaf n br := to
    subst to2
    rw [r]
    have gz : h'.get (b + 1) = some (.cells Z3 .rw) := by rw [fr _ (by omega) (by omega), g11]
    have lds : ∀ m, loadE (some (.cells (ofI .u8 (foldL leaf n br)) m)) (some 32) 0 = some (.agg (ofI .u8 (foldL leaf n br))) := fun m => by rw [m_loadN, x_readAll _ 32 (by rw [ofI_len, hl'])]
    have st : ∀ h i, storeV h 32 (.ptr (some (i, 0))) (.agg (ofI .u8 (foldL leaf n br))) = storeE (h.get i) h i 0 (ofI .u8 (foldL leaf n br)) := fun h i => st32 h i 0 _ hl'
    have pu : ∀ h i, storeE (some (.cells Z3 .rw)) h i 0 (ofI .u8 (foldL leaf n br)) = some (h.put i (.cells (ofI .u8 (foldL leaf n br)) .rw)) := fun h i => by
      rw [m_storeE _ _ _ _ _ (by rw [← eZ3, ofI_len, ofI_len, hl', List.length_replicate]; omega), ← eZ3, wrAll _ _ _ (by rw [List.length_replicate, hl'])]
    refine ⟨h'.put (b + 1) (.cells (ofI .u8 (foldL leaf n br)) .rw), ?_, ⟨by show h.next ≤ h'.next; omega, fun j hj => by rw [h_put_ne _ _ (by omega), fr _ (by omega) (by omega), k1.2 _ hj]⟩⟩
    generalize ofI .u8 (foldL leaf n br) = CF at *
    simp (config := {maxSteps := 2000000}) (disch := first | omega | (simp only [List.length_cons, List.length_nil, List.length_append, List.length_drop]; omega)) only [R_merkle_Fold_0, u3, u6, gp, gz, lds, st, pu, ↓h_put_get, ↓s_load, m_load, ↓m_st, m_stE, s_resc, s_consR, s_res0, ↓s_ops, ↓s_seq, ↓s_ret, ↓s_nil, ↓s_op, ↓s_bindS, s_bindS, ↓s_bindE, s_bindE, s_norm, s_block_exit, ↓s_getp, ↓s_getp0, ↓s_con, ↓s_mov, s_same, s_end, s_res0, s_res1, s_tup2, ↓iteN_true, ↓iteN_false, iteN_true, iteN_false, Nat.reduceEqDiff, decide_true, decide_false, if_true]
  obtain ⟨R, eR⟩ : ∃ R, R_merkle_Fold_0 = R := ⟨_, rfl⟩
  obtain ⟨Lo, eL⟩ : ∃ R, L_merkle_Fold_0 = R := ⟨_, rfl⟩
  rw [eR, eL] at fin ⊢
  rw [eL0] at hn hb fin ⊢
  have d0 : decide ((30 : Int) < (L : Int)) = false := decide_eq_false (by omega)
  have d1 : decide ((n : Int) < 0) = false := decide_eq_false (by omega)
  have sh := shl1 L (by omega)
  have d2 : decide (((2 ^ L : Nat) : Int) ≤ (n : Int)) = false := decide_eq_false (by omega)
  have ca' : ∀ l : List V, (V.agg l).cells = l := fun _ => rfl
  have al3 : ∀ (Q : Orc) (T : Tr V) (h : H), Eng.step (.alloc [.int .u8 0, .int .u8 0, .int .u8 0, .int .u8 0, .int .u8 0, .int .u8 0, .int .u8 0, .int .u8 0, .int .u8 0, .int .u8 0, .int .u8 0, .int .u8 0, .int .u8 0, .int .u8 0, .int .u8 0, .int .u8 0, .int .u8 0, .int .u8 0, .int .u8 0, .int .u8 0, .int .u8 0, .int .u8 0, .int .u8 0, .int .u8 0, .int .u8 0, .int .u8 0, .int .u8 0, .int .u8 0, .int .u8 0, .int .u8 0, .int .u8 0, .int .u8 0]) Q T h = some (.ptr (some (h.next, 0)), h.new (.cells Z3 .rw)) := fun Q T h => by rw [← eZ3]; rfl
  generalize 2 ^ L = PL at *
  generalize ofI .u8 (foldL leaf n br) = CF at *
  generalize ofI .u8 leaf = CL at *
  simp (config := {maxSteps := 2000000}) (disch := first | omega | (simp only [List.length_cons, List.length_nil, List.length_append, List.length_drop]; omega)) only [ca', ↓al3, e1, eb, d0, d1, d2, sh, ↓s_len, x_lenS, ↓s_box, Nat.zero_add, ↓l_loop, ↓l_succ, h_next_new, x_lenS, ↓s_len, Nat.reduceAdd, ↓s_skip, ↓s_ops, ↓s_seq, ↓s_cond, ↓s_block, ↓s_nil, ↓s_op, ↓s_opg, ↓s_wanted', ↓s_wantV, s_wantV, ↓s_bindS, s_bindS, ↓s_bindE, s_bindE, s_norm, ↓s_condV, s_condV, ↓s_getp, ↓s_get, ↓s_con, ↓s_list0, ↓s_list1, ↓s_mov, ↓s_pick, ↓s_pickE, s_pickE, ↓s_bin, s_same, b_lss, b_gtr, b_geq, ↓iteN_true, ↓iteN_false, iteN_true, iteN_false, Nat.zero_add, Nat.reduceEqDiff, decide_true, decide_false, beq_self_eq_true]
  exact fin _ (by (simp only [s_getp, Nat.reduceEqDiff, decide_false, decide_true, iteN_false, iteN_true]; try rfl)) (by (simp only [s_getp, Nat.reduceEqDiff, decide_false, decide_true, iteN_false, iteN_true]; try rfl)) (by (simp only [s_getp, Nat.reduceEqDiff, decide_false, decide_true, iteN_false, iteN_true]; try rfl)) (by (simp only [s_getp, Nat.reduceEqDiff, decide_false, decide_true, iteN_false, iteN_true]; try rfl)) (by (simp only [s_getp, decide_true, iteN_true]; try rfl)) (by (simp only [s_getp, Nat.reduceEqDiff, decide_false, decide_true, iteN_false, iteN_true, s_get]; try rfl))
end Go.Eng
namespace Go.Eng
open Go
variable {E : Nat → Option Fn} {X : Orc}
set_option linter.unusedSimpArgs false
set_option linter.unusedVariables false
end Go.Eng
