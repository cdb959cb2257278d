/- What functions of the program come to: own work. -/
import Derived.Test.YtcgfhdhjanmgaaaMrM
namespace Go.Eng
open Go
variable {E : Nat → Option Fn} {X : Orc}
set_option linter.unusedSimpArgs false
set_option linter.unusedVariables false
theorem lvL_two (l : List (List Nat)) (lev : Nat) (h : lev < dpN l.length) : 1 < (lvL l lev).length := by
  rcases Nat.lt_or_ge 1 (lvL l lev).length with h1 | h1
  · exact h1
  · exfalso
    have dd : ∀ j (l : List (List Nat)), dpN l.length = dpN (lvL l j).length + j ∨ (lvL l j).length ≤ 1 ∧ dpN l.length ≤ j := by
      intro j
      induction j with
      | zero => intro l; left; rfl
      | succ j ihj =>
        intro l
        by_cases h1 : l.length ≤ 1
        · right
          refine ⟨?_, by rw [dpN_1 _ h1]; omega⟩
          have := lvL_len l (j + 1)
          rw [this]
          rcases Nat.eq_zero_or_pos l.length with h | h
          · rw [h]
            have z : ∀ j, szN 0 j = 0 := by intro j; induction j with
              | zero => rfl
              | succ j ih => show (szN 0 j + 1) / 2 = 0; rw [ih]
            rw [z]; omega
          · have := szN_le l.length (j + 1) h; omega
        · rw [← lvL_up]
          rcases ihj (up l) with h | ⟨h, h'⟩
          · left; rw [dpN_up _ (by omega), ← up_len, h]; omega
          · right; exact ⟨h, by rw [dpN_up _ (by omega), ← up_len]; omega⟩
    rcases dd lev l with h3 | ⟨_, h3⟩
    · rw [dpN_1 _ h1] at h3; omega
    · omega
structure BrI (l : List (List Nat)) (a : Option (Nat × Nat)) (c : Option Nat) (ez : Nat) (tot : List (List Nat)) (h0 : H) (lev : Nat) (T : Tr V) (h : H) : Prop where
  t0 : evO T (.t 0) = .slice a l.length c ez
  t7 : evO T (.t 7) = .int .i64 (lev : Int)
  st : ∃ (acc : List (List Nat)) (n : Nat) (b : Option (Nat × Nat)) (cc : Option Nat) (eb : Nat), evO T (.t 1) = .int .i64 (n : Int) ∧ evO T (.t 6) = .slice b acc.length cc eb ∧ GrR 32 h0.next h b cc eb acc ∧ acc ++ brL (lvL l lev) n = tot ∧ n < (lvL l lev).length ∧ acc.length = lev ∧ (acc = [] ∨ cc = none)
  nx : h0.next ≤ h.next
  fr : ∀ j, j < h0.next → h.get j = h0.get j
theorem sib_lv (L : List (List Nat)) (n : Nat) (hn : n < L.length) (h2 : 1 < L.length) (h32 : ∀ o ∈ L, o.length = 32) : L[if L.length ≤ n + 1 - 2 * (n % 2) then n else n + 1 - 2 * (n % 2)]? = some (sibL (prs L) n) := by
  obtain ⟨j, ej⟩ : ∃ j, n / 2 = j := ⟨_, rfl⟩
  have hb : L[2 * j]? = some (L[2 * j]'(by omega)) := List.getElem?_eq_getElem (by omega)
  have pg := prs_get j L _ hb
  have hb32 := h32 _ (List.mem_of_getElem? hb)
  obtain ⟨b, eb⟩ : ∃ b, L[2 * j]'(by omega) = b := ⟨_, rfl⟩
  rw [eb] at pg hb32 hb
  unfold sibL
  rw [ej, List.getD_eq_getElem?_getD, pg]
  by_cases ho : n % 2 = 1
  · rw [if_pos ho, if_neg (by omega), show n + 1 - 2 * (n % 2) = 2 * j by omega, hb]
    show some b = some ((b ++ _).take 32)
    rw [List.take_left' hb32]
  · rw [if_neg ho]
    show _ = some ((b ++ _).drop 32)
    rw [List.drop_left' hb32]
    by_cases hs : L.length ≤ n + 1
    · rw [if_pos (by omega), show n = 2 * j by omega, hb, List.getElem?_eq_none (by omega)]; rfl
    · rw [if_neg (by omega), show n + 1 - 2 * (n % 2) = 2 * j + 1 by omega]
      have := List.getElem?_eq_getElem (l := L) (i := 2 * j + 1) (by omega)
      rw [this]; rfl
theorem rb_step8 (e : EnNd E) (x : NoNd X) (hx : HasRtw E X) (K m : Nat) (hK : 1100 < K) (l : List (List Nat)) (ok : ∀ o ∈ l, o.length = 32 ∧ byt o = true) (hl0 : 0 < l.length) (hl : l.length ≤ 1000) (a : Option (Nat × Nat)) (c : Option Nat) (ez : Nat) (tot : List (List Nat)) (h0 : H) (S : HsR 32 h0 a ez l) :
    ∀ lev T h, lev < dpN l.length → BrI l a c ez tot h0 lev T h → ∃ T' h', evC (callX E X (K + 1)) 47 m none L_purserref08_Branch_0 ⟨T, [], h⟩ = some (.normal, ⟨T', [], h'⟩) ∧ BrI l a c ez tot h0 (lev + 1) T' h' := by
  intro lev T h hlev ⟨t0, t7, ⟨acc, n, b, cc, ebz, t1, t6, gr, to, hn, hac, _⟩, nx, fr⟩
  have d10 := dpN_le 10 l.length (by have : (2 : Nat) ^ 10 = 1024 := rfl; omega)
  have dp := fun h => rdepth_go e.dp x.dp K (by omega) l.length (by omega) h
  have ll := lvL_len l lev
  have sl := szN_le l.length lev hl0
  have h2 := lvL_two l lev hlev
  have zs := fun h => rsize_go e.sz x.sz K (by omega) l.length lev hl0 (by omega) (by omega) h
  have sib := sib_lv (lvL l lev) n hn h2 (fun o ho => (lvL_ok l ok lev o ho).1)
  obtain ⟨s, es⟩ : ∃ s, sibL (prs (lvL l lev)) n = s := ⟨_, rfl⟩
  rw [es] at sib
  have oks := lvL_ok l ok lev s (List.mem_of_getElem? sib)
  have hu : acc ++ [s] ++ brL (lvL l (lev + 1)) (n / 2) = tot := by
    rw [List.append_assoc]
    have := brL_up (lvL l lev) n h2
    rw [es] at this
    rw [this] at to
    exact to
  obtain ⟨o1, eo1⟩ : ∃ o, n + 1 - 2 * (n % 2) = o := ⟨_, rfl⟩
  rw [eo1] at sib
  have Sh : HsR 32 h a ez l := S.mono ⟨nx, fr⟩
  have w1 : wr .i64 ((n : Int) + 1) = ((n + 1 : Nat) : Int) := by rw [wr_i64 (by omega)]; omega
  have re := rem2 n (by omega)
  have w2 : wr .i64 (2 * ((n % 2 : Nat) : Int)) = ((2 * (n % 2) : Nat) : Int) := by rw [wr_i64 (by omega)]; omega
  have w3 : wr .i64 (((n + 1 : Nat) : Int) - ((2 * (n % 2) : Nat) : Int)) = (o1 : Int) := by rw [wr_i64 (by omega)]; omega
  have w4 : wr .i64 ((lev : Int) + 1) = ((lev + 1 : Nat) : Int) := by rw [wr_i64 (by omega)]; omega
  have qu := quo2 n (by omega)
  have c0 : decide ((lev : Int) < (dpN l.length : Int)) = true := decide_eq_true (by omega)
  have fb := fill0 s oks.1
  have ul := up_len (lvL l lev)
  have main : ∀ o : Nat, (lvL l lev)[o]? = some s → ∃ h1 h2 h4, callX E X (K + 1) (.fn k_purserref08_node) [.slice a l.length c ez, .int .i64 (lev : Int), .int .i64 (o : Int)] h = some (.agg (ofI .u8 s), h1) ∧ h1.new (.cells (ofI .u8 s) .rw) = h2 ∧ srcCells h2 32 (.slice (some (h1.next, 0)) 1 (some 1) 32) = some (1, ofI .u8 s) ∧ appendC h2 32 32 (.slice b acc.length cc ebz) (some (1, ofI .u8 s)) = some (.slice (some (h2.next, 0)) (acc.length + 1) none 32, h4) ∧ GrR 32 h0.next h4 (some (h2.next, 0)) none 32 (acc ++ [s]) ∧ h0.next ≤ h4.next ∧ ∀ j, j < h0.next → h4.get j = h0.get j := by
    intro o ho
    obtain ⟨h1, r1, k1⟩ := node_go e x hx l ok hl0 hl a c ez lev o K s (by omega) (by omega) ho h Sh
    have n1 := k1.1
    obtain ⟨h2, e2⟩ : ∃ h2, h1.new (.cells (ofI .u8 s) .rw) = h2 := ⟨_, rfl⟩
    have n2 : h2.next = h1.next + 1 := by rw [← e2]; rfl
    have k2 : Kp h1 h2 := by rw [← e2]; exact Kp.new _ _
    have g2 : h2.get h1.next = some (.cells (ofI .u8 s) .rw) := by rw [← e2]; exact h_new_same _ _
    have sc := src_k h2 (k := 32) oks.1 .rw (some 1) g2
    have gr2 : GrR 32 h0.next h2 b cc ebz acc := gr.mono (by omega) (fun q' e' hl hq => by rw [k2.2 _ (by omega), k1.2 _ hq])
    obtain ⟨h4, ap, gr4, n4, f4⟩ := gr_app (k := 32) (by decide) (by decide) gr2 (by omega) (by omega) s oks.1
    exact ⟨h1, h2, h4, r1, e2, sc, ap, gr4, by omega, fun j hj => by rw [f4 _ (by omega) (fun hh => by have := gr2.lo hh; omega), k2.2 _ (by omega), k1.2 _ (by omega), fr _ hj]⟩
  by_cases hs : (lvL l lev).length ≤ o1
  · rw [if_pos hs] at sib
    obtain ⟨h1, h2', h4, r1, e2, sc, ap, gr4, n4, f4⟩ := main n sib
    have c1 : decide ((szN l.length lev : Int) ≤ (o1 : Int)) = true := decide_eq_true (by omega)
    refine ⟨_, h4, by
      simp (config := {maxSteps := 2000000}) (disch := first | omega | (simp only [List.length_cons, List.length_nil, List.length_append, List.length_drop]; omega)) only [L_purserref08_Branch_0, t0, t1, t6, t7, dp, c0, w1, re, w2, w3, zs, c1, r1, ↓x_buildS, ↓x_P0, ↓x_P1, fb, x_buildE, e2, sc, ap, qu, w4, ↓s_append, ↓s_len, x_lenS, x_lenS, ↓s_len, ↓x_buildS, x_buildE, ↓x_P0, ↓x_P1, ↓s_skip, ↓s_ops, ↓s_seq, ↓s_cond, ↓s_block, ↓s_nil, ↓s_op, ↓s_bindS, s_bindS, ↓s_bindE, s_bindE, s_norm, ↓s_condV, s_condV, s_block_normal, ↓s_getp, ↓s_con, ↓s_os0, ↓s_os1, ↓s_mov, ↓s_bin, ↓s_call, s_same, b_lss, b_geq, b_add, b_sub, b_mul, ↓iteN_true, ↓iteN_false, iteN_true, iteN_false, Nat.reduceEqDiff, decide_true, decide_false]
      exact rfl, (by (simp only [s_getp, Nat.reduceEqDiff, decide_false, iteN_false, t0]; try rfl)), (by (simp only [s_getp, decide_true, iteN_true]; try rfl)), ⟨acc ++ [s], n / 2, _, _, _, (by (simp only [s_getp, Nat.reduceEqDiff, decide_false, decide_true, iteN_false, iteN_true]; try rfl)), by rw [List.length_append, List.length_singleton]; (simp only [s_getp, Nat.reduceEqDiff, decide_false, decide_true, iteN_false, iteN_true]; try rfl), gr4, hu, by show _ < (up (lvL l lev)).length; rw [ul]; omega, by rw [List.length_append, List.length_singleton]; omega, .inr rfl⟩, n4, f4⟩
  · rw [if_neg hs] at sib
    obtain ⟨h1, h2', h4, r1, e2, sc, ap, gr4, n4, f4⟩ := main o1 sib
    have c1 : decide ((szN l.length lev : Int) ≤ (o1 : Int)) = false := decide_eq_false (by omega)
    refine ⟨_, h4, by
      simp (config := {maxSteps := 2000000}) (disch := first | omega | (simp only [List.length_cons, List.length_nil, List.length_append, List.length_drop]; omega)) only [L_purserref08_Branch_0, t0, t1, t6, t7, dp, c0, w1, re, w2, w3, zs, c1, r1, ↓x_buildS, ↓x_P0, ↓x_P1, fb, x_buildE, e2, sc, ap, qu, w4, ↓s_append, ↓s_len, x_lenS, x_lenS, ↓s_len, ↓x_buildS, x_buildE, ↓x_P0, ↓x_P1, ↓s_skip, ↓s_ops, ↓s_seq, ↓s_cond, ↓s_block, ↓s_nil, ↓s_op, ↓s_bindS, s_bindS, ↓s_bindE, s_bindE, s_norm, ↓s_condV, s_condV, s_block_normal, ↓s_getp, ↓s_con, ↓s_os0, ↓s_os1, ↓s_mov, ↓s_bin, ↓s_call, s_same, b_lss, b_geq, b_add, b_sub, b_mul, ↓iteN_true, ↓iteN_false, iteN_true, iteN_false, Nat.reduceEqDiff, decide_true, decide_false]
      exact rfl, (by (simp only [s_getp, Nat.reduceEqDiff, decide_false, iteN_false, t0]; try rfl)), (by (simp only [s_getp, decide_true, iteN_true]; try rfl)), ⟨acc ++ [s], n / 2, _, _, _, (by (simp only [s_getp, Nat.reduceEqDiff, decide_false, decide_true, iteN_false, iteN_true]; try rfl)), by rw [List.length_append, List.length_singleton]; (simp only [s_getp, Nat.reduceEqDiff, decide_false, decide_true, iteN_false, iteN_true]; try rfl), gr4, hu, by show _ < (up (lvL l lev)).length; rw [ul]; omega, by rw [List.length_append, List.length_singleton]; omega, .inr rfl⟩, n4, f4⟩
end Go.Eng
namespace Go.Eng
open Go
variable {E : Nat → Option Fn} {X : Orc}
set_option linter.unusedSimpArgs false
set_option linter.unusedVariables false
theorem szN_dp : ∀ (k n : Nat), n ≤ k → 0 < n → szN n (dpN n) = 1 := by
  intro k
  induction k with
  | zero => intro n h1 h2; omega
  | succ k ih =>
    intro n h1 h2
    by_cases h3 : n ≤ 1
    · rw [dpN_1 n h3]; show n = 1; omega
    · rw [dpN_up n (by omega)]
      have sh : ∀ j n, szN n (j + 1) = szN ((n + 1) / 2) j := by
        intro j
        induction j with
        | zero => intro n; rfl
        | succ j ihj => intro n; show (szN n (j + 1) + 1) / 2 = (szN ((n + 1) / 2) j + 1) / 2; rw [ihj]
      rw [sh]
      exact ih ((n + 1) / 2) (by omega) (by omega)
theorem rbranch_go (e : EnNd E) (x : NoNd X) (eb : E k_purserref08_Branch = some f_purserref08_Branch) (xb : ∀ a h, X (.fn k_purserref08_Branch) a h = none) (hx : HasRtw E X) (K : Nat) (hK : 1100 < K) (l : List (List Nat)) (ok : ∀ o ∈ l, o.length = 32 ∧ byt o = true) (hl : l.length ≤ 1000) (n : Nat) (hn : n < l.length) (a : Option (Nat × Nat)) (c : Option Nat) (ez : Nat) (h : H) (S : HsR 32 h a ez l) :
    ∃ h' b cc ebz, callX E X (K + 2) (.fn k_purserref08_Branch) [.slice a l.length c ez, .int .i64 (n : Int)] h = some (.tup [.slice b (brL l n).length cc ebz, .int .i64 0], h') ∧ Kp h h' ∧ GrR 32 h.next h' b cc ebz (brL l n) := by
  rw [x_cfn eb _ _ (Nat.le_of_ble_eq_true rfl) (xb _ _)]
  have d10 := dpN_le 10 l.length (by have : (2 : Nat) ^ 10 = 1024 := rfl; omega)
  have dp := fun h => rdepth_go e.dp x.dp K (by omega) l.length (by omega) h
  have fin : ∀ T, evO T (.t 0) = .slice a l.length c ez → evO T (.t 7) = .int .i64 ((0 : Nat) : Int) → evO T (.t 1) = .int .i64 (n : Int) → evO T (.t 6) = .slice none ([] : List (List Nat)).length (some 0) 0 →
      ∃ h' b cc ebz, fnEnd [.tmp 4, .tmp 5] (bindE (blockE 0 (loopN (evC (callX E X (K + 1)) 47 (K + 1) none L_purserref08_Branch_0) (K + 1) ⟨T, [], h⟩)) (evC (callX E X (K + 1)) 47 (K + 1) none R_purserref08_Branch_0)) = some (.tup [.slice b (brL l n).length cc ebz, .int .i64 0], h') ∧ Kp h h' ∧ GrR 32 h.next h' b cc ebz (brL l n) := by
    intro T t0 t7 t1 t6
    obtain ⟨T', h', r, J⟩ := loop_go (f := evC (callX E X (K + 1)) 47 (K + 1) none L_purserref08_Branch_0) (BrI l a c ez (brL l n) h) (dpN l.length) (.exit 0) (by intro h; cases h) (BrI l a c ez (brL l n) h (dpN l.length)) (rb_step8 e x hx K (K + 1) hK l ok (by omega) hl a c ez (brL l n) h S) (fun T h' I => by
      obtain ⟨t0, t7, ⟨acc, n', b, cc, ebz, t1, t6, r⟩, nx, fr⟩ := I
      have c0 : decide ((dpN l.length : Int) < (dpN l.length : Int)) = false := decide_eq_false (by omega)
      refine ⟨_, h', by
        simp (config := {maxSteps := 2000000}) (disch := first | omega | (simp only [List.length_cons, List.length_nil, List.length_append, List.length_drop]; omega)) only [L_purserref08_Branch_0, t0, t7, dp, c0, ↓s_len, x_lenS, x_lenS, ↓s_len, ↓s_ops, ↓s_seq, ↓s_cond, ↓s_exit, ↓s_nil, ↓s_op, ↓s_bindS, s_bindS, ↓s_bindE, s_bindE, s_bindE_exit, s_norm, ↓s_condV, s_condV, ↓s_getp, ↓s_os0, ↓s_os1, ↓s_mov, ↓s_bin, ↓s_call, s_same, b_lss, ↓iteN_true, ↓iteN_false, iteN_true, iteN_false, Nat.reduceEqDiff, decide_true, decide_false]
        exact rfl, ⟨(by (simp only [s_getp, Nat.reduceEqDiff, decide_false, iteN_false, t0]; try rfl)), (by (simp only [s_getp, Nat.reduceEqDiff, decide_false, iteN_false, t7]; try rfl)), ⟨acc, n', b, cc, ebz, (by (simp only [s_getp, Nat.reduceEqDiff, decide_false, iteN_false, t1]; try rfl)), (by (simp only [s_getp, Nat.reduceEqDiff, decide_false, iteN_false, t6]; try rfl)), r⟩, nx, fr⟩⟩) (dpN l.length) 0 (by omega) (K + 1) (by omega) T h ⟨t0, t7, ⟨[], n, none, some 0, 0, t1, t6, .inl ⟨rfl, rfl, rfl, rfl⟩, rfl, hn, rfl, .inl rfl⟩, Nat.le_refl _, fun _ _ => rfl⟩
    obtain ⟨_, _, ⟨acc, n', b, cc, ebz, _, u6, gr, to, _, _, _⟩, nx, fr⟩ := J
    have l1 : (lvL l (dpN l.length)).length = 1 := by rw [lvL_len, szN_dp l.length l.length (Nat.le_refl _) (by omega)]
    obtain ⟨rr, er⟩ := List.length_eq_one_iff.1 l1
    rw [er, brL_1, List.append_nil] at to
    subst to
    rw [r]
    refine ⟨h', b, cc, ebz, ?_, ⟨nx, fr⟩, gr⟩
    generalize (brL l n).length = bl at *
    simp (config := {maxSteps := 2000000}) (disch := first | omega | (simp only [List.length_cons, List.length_nil, List.length_append, List.length_drop]; omega)) only [R_purserref08_Branch_0, u6, s_res0, ↓s_ops, ↓s_seq, ↓s_ret, ↓s_nil, ↓s_op, ↓s_bindS, s_bindS, ↓s_bindE, s_bindE, s_norm, s_block_exit, ↓s_getp, ↓s_con, ↓s_mov, s_end, s_res0, s_res1, s_tup2, ↓iteN_true, ↓iteN_false, iteN_true, iteN_false, Nat.reduceEqDiff, decide_true, decide_false, if_true]
  obtain ⟨R, eR⟩ : ∃ R, R_purserref08_Branch_0 = R := ⟨_, rfl⟩
  obtain ⟨Lo, eL⟩ : ∃ R, L_purserref08_Branch_0 = R := ⟨_, rfl⟩
  rw [eR, eL] at fin ⊢
  have c1 : decide ((n : Int) < 0) = false := decide_eq_false (by omega)
  have c2 : decide ((l.length : Int) ≤ (n : Int)) = false := decide_eq_false (by omega)
  simp (config := {maxSteps := 2000000}) (disch := first | omega | (simp only [List.length_cons, List.length_nil, List.length_append, List.length_drop]; omega)) only [c1, c2, ↓s_len, x_lenS, Nat.zero_add, ↓l_loop, ↓l_succ, x_lenS, ↓s_len, ↓s_skip, ↓s_ops, ↓s_seq, ↓s_cond, ↓s_block, ↓s_nil, ↓s_op, ↓s_opg, ↓s_wanted', ↓s_wantV, s_wantV, ↓s_bindS, s_bindS, ↓s_bindE, s_bindE, s_norm, ↓s_condV, s_condV, ↓s_getp, ↓s_get, ↓s_con, ↓s_list0, ↓s_list1, ↓s_mov, ↓s_pick, ↓s_pickE, s_pickE, ↓s_bin, s_same, b_lss, b_geq, ↓iteN_true, ↓iteN_false, iteN_true, iteN_false, Nat.zero_add, Nat.reduceEqDiff, decide_true, decide_false, beq_self_eq_true]
  exact fin _ (by (simp only [s_getp, Nat.reduceEqDiff, decide_false, decide_true, iteN_false, iteN_true, s_get]; try rfl)) (by (simp only [s_getp, decide_true, iteN_true]; try rfl)) (by (simp only [s_getp, Nat.reduceEqDiff, decide_false, decide_true, iteN_false, iteN_true, s_get]; try rfl)) (by (simp only [s_getp, Nat.reduceEqDiff, decide_false, decide_true, iteN_false, iteN_true]; try rfl))
theorem rbranch_err (eb : E k_purserref08_Branch = some f_purserref08_Branch) (xb : ∀ a h, X (.fn k_purserref08_Branch) a h = none) (N : Nat) (a : Option (Nat × Nat)) (len : Nat) (c : Option Nat) (ez : Nat) (n : Int) (hn : n < 0 ∨ (len : Int) ≤ n) (h : H) :
    callX E X (N + 1) (.fn k_purserref08_Branch) [.slice a len c ez, .int .i64 n] h = some (.tup [.slice none 0 (some 0) 0, .int .i64 80], h) := by
  rw [x_cfn eb _ _ (Nat.le_of_ble_eq_true rfl) (xb _ _)]
  by_cases h0 : n < 0
  · have c1 : decide (n < 0) = true := decide_eq_true h0
    simp (config := {maxSteps := 2000000}) (disch := first | omega | (simp only [List.length_cons, List.length_nil, List.length_append, List.length_drop]; omega)) only [c1, Nat.zero_add, s_res0, ↓s_ops, ↓s_seq, ↓s_cond, ↓s_ret, ↓s_nil, ↓s_op, ↓s_opg, ↓s_wanted', ↓s_wantV, s_wantV, beq_false, ↓s_bindS, s_bindS, ↓s_bindE, s_bindE, s_bindE_ret, s_norm, ↓s_condV, s_condV, ↓s_getp, ↓s_get, ↓s_con, ↓s_list0, ↓s_list1, ↓s_mov, ↓s_pick, ↓s_pickE, s_pickE, ↓s_bin, s_same, b_lss, s_end, s_res0, s_res1, s_tup2, ↓iteN_true, ↓iteN_false, iteN_true, iteN_false, Nat.zero_add, Nat.reduceEqDiff, decide_true, decide_false, Bool.not_true]
  · have c1 : decide (n < 0) = false := decide_eq_false h0
    have c2 : decide ((len : Int) ≤ n) = true := decide_eq_true (by omega)
    simp (config := {maxSteps := 2000000}) (disch := first | omega | (simp only [List.length_cons, List.length_nil, List.length_append, List.length_drop]; omega)) only [c1, c2, ↓s_len, x_lenS, Nat.zero_add, x_lenS, ↓s_len, s_res0, ↓s_ops, ↓s_seq, ↓s_cond, ↓s_ret, ↓s_nil, ↓s_op, ↓s_opg, ↓s_wanted', ↓s_wantV, s_wantV, ↓s_bindS, s_bindS, ↓s_bindE, s_bindE, s_bindE_ret, s_norm, ↓s_condV, s_condV, ↓s_getp, ↓s_get, ↓s_con, ↓s_list0, ↓s_list1, ↓s_mov, ↓s_pick, ↓s_pickE, s_pickE, ↓s_bin, s_same, b_lss, b_geq, s_end, s_res0, s_res1, s_tup2, ↓iteN_true, ↓iteN_false, iteN_true, iteN_false, Nat.zero_add, Nat.reduceEqDiff, decide_true, decide_false, beq_self_eq_true]
theorem fold_err (e : EnFo E) (x : NoFo X) (N : Nat) (leaf : List Nat) (hl : leaf.length = 32) (n : Int) (len : Nat) (hn : 30 < len ∨ n < 0 ∨ ((2 ^ len : Nat) : Int) ≤ n) (a : Option (Nat × Nat)) (c : Option Nat) (ez : Nat) (h : H) :
    ∃ h', callX E X (N + 1) (.fn k_merkle_Fold) [.agg (ofI .u8 leaf), .int .i64 n, .slice a len c ez] h = some (.tup [.agg (ofI .u8 (List.replicate 32 0)), .int .i64 80], h') ∧ Kp h h' := by
  rw [x_cfn e.fo _ _ (Nat.le_of_ble_eq_true rfl) (x.fo _ _)]
  obtain ⟨Z, eZ⟩ : ∃ Z, ofI .u8 (List.replicate 32 0) = Z := ⟨_, rfl⟩
  have ca' : ∀ l : List V, (V.agg l).cells = l := fun _ => rfl
  have al3 : ∀ (Q : Orc) (T : Tr V) (h : H), Eng.step (.alloc [.int .u8 0, .int .u8 0, .int .u8 0, .int .u8 0, .int .u8 0, .int .u8 0, .int .u8 0, .int .u8 0, .int .u8 0, .int .u8 0, .int .u8 0, .int .u8 0, .int .u8 0, .int .u8 0, .int .u8 0, .int .u8 0, .int .u8 0, .int .u8 0, .int .u8 0, .int .u8 0, .int .u8 0, .int .u8 0, .int .u8 0, .int .u8 0, .int .u8 0, .int .u8 0, .int .u8 0, .int .u8 0, .int .u8 0, .int .u8 0, .int .u8 0, .int .u8 0]) Q T h = some (.ptr (some (h.next, 0)), h.new (.cells Z .rw)) := fun Q T h => by rw [← eZ]; rfl
  have bu : ∀ (Q : Orc) (T : Tr V) (h : H), Eng.step (.build [.int .u8 0, .int .u8 0, .int .u8 0, .int .u8 0, .int .u8 0, .int .u8 0, .int .u8 0, .int .u8 0, .int .u8 0, .int .u8 0, .int .u8 0, .int .u8 0, .int .u8 0, .int .u8 0, .int .u8 0, .int .u8 0, .int .u8 0, .int .u8 0, .int .u8 0, .int .u8 0, .int .u8 0, .int .u8 0, .int .u8 0, .int .u8 0, .int .u8 0, .int .u8 0, .int .u8 0, .int .u8 0, .int .u8 0, .int .u8 0, .int .u8 0, .int .u8 0] []) Q T h = some (.agg Z, h) := fun Q T h => by rw [← eZ]; rfl
  have lZ : Z.length = 32 := by rw [← eZ, ofI_len, List.length_replicate]
  have st : ∀ h i, storeV h 32 (.ptr (some (i, 0))) (.agg Z) = storeE (h.get i) h i 0 Z := fun h i => by rw [← eZ]; exact st32 h i 0 _ (List.length_replicate ..)
  have pu : ∀ h i, storeE (some (.cells Z .rw)) h i 0 Z = some (h.put i (.cells Z .rw)) := fun h i => by
    rw [m_storeE _ _ _ _ _ (by omega), writeN_all _ _ rfl]
  have ld : ∀ m, loadE (some (.cells Z m)) (some 32) 0 = some (.agg Z) := fun m => by rw [m_loadN, x_readAll _ 32 lZ]
  rw [eZ]
  generalize ofI .u8 leaf = CL at *
  refine ⟨((h.new (.cells CL .rw)).new (.cells Z .rw)).put (h.next + 1) (.cells Z .rw), ?_, by (repeat (first | exact Kp.refl _ | refine Kp.put ?_ _ (by first | omega | (simp only [h_next_put, h_next_new, h_next_del]; omega)) | refine Kp.del ?_ (by first | omega | (simp only [h_next_put, h_next_new, h_next_del]; omega)) | refine Kp.trans ?_ (Kp.new _ _)))⟩
  by_cases h0 : 30 < len
  · have c0 : decide ((30 : Int) < (len : Int)) = true := decide_eq_true (by omega)
    simp (config := {maxSteps := 2000000}) (disch := first | omega | (simp only [List.length_cons, List.length_nil, List.length_append, List.length_drop]; omega)) only [ca', ↓al3, ↓bu, c0, st, pu, ld, ↓s_len, x_lenS, ↓s_box, Nat.zero_add, ↓h_put_get, ↓h_new_get, h_next_new, m_load, ↓m_st, m_stE, x_lenS, ↓s_len, Nat.reduceAdd, s_resc, s_consR, s_res0, ↓s_ops, ↓s_seq, ↓s_cond, ↓s_ret, ↓s_nil, ↓s_op, ↓s_opg, ↓s_wanted', ↓s_wantV, s_wantV, beq_false, ↓s_bindS, s_bindS, ↓s_bindE, s_bindE, s_bindE_ret, s_norm, ↓s_condV, s_condV, ↓s_getp, ↓s_getp0, ↓s_get, ↓s_con, ↓s_list0, ↓s_list1, ↓s_mov, ↓s_pick, ↓s_pickE, s_pickE, ↓s_bin, s_same, b_gtr, s_end, s_res0, s_res1, s_tup2, ↓iteN_true, ↓iteN_false, iteN_true, iteN_false, Nat.zero_add, Nat.reduceEqDiff, decide_true, decide_false, Bool.not_true]
    try rfl
  · have c0 : decide ((30 : Int) < (len : Int)) = false := decide_eq_false (by omega)
    by_cases h1 : n < 0
    · have c1 : decide (n < 0) = true := decide_eq_true h1
      simp (config := {maxSteps := 2000000}) (disch := first | omega | (simp only [List.length_cons, List.length_nil, List.length_append, List.length_drop]; omega)) only [ca', ↓al3, ↓bu, c0, c1, st, pu, ld, ↓s_len, x_lenS, ↓s_box, Nat.zero_add, ↓h_put_get, ↓h_new_get, h_next_new, m_load, ↓m_st, m_stE, x_lenS, ↓s_len, Nat.reduceAdd, s_resc, s_consR, s_res0, ↓s_ops, ↓s_seq, ↓s_cond, ↓s_ret, ↓s_nil, ↓s_op, ↓s_opg, ↓s_wanted', ↓s_wantV, s_wantV, beq_false, ↓s_bindS, s_bindS, ↓s_bindE, s_bindE, s_bindE_ret, s_norm, ↓s_condV, s_condV, ↓s_getp, ↓s_getp0, ↓s_get, ↓s_con, ↓s_list0, ↓s_list1, ↓s_mov, ↓s_pick, ↓s_pickE, s_pickE, ↓s_bin, s_same, b_lss, b_gtr, s_end, s_res0, s_res1, s_tup2, ↓iteN_true, ↓iteN_false, iteN_true, iteN_false, Nat.zero_add, Nat.reduceEqDiff, decide_true, decide_false, Bool.not_true, beq_self_eq_true]
      try rfl
    · have c1 : decide (n < 0) = false := decide_eq_false h1
      have sh := shl1 len (by omega)
      have c2 : decide (((2 ^ len : Nat) : Int) ≤ n) = true := decide_eq_true (by omega)
      generalize 2 ^ len = P2 at *
      simp (config := {maxSteps := 2000000}) (disch := first | omega | (simp only [List.length_cons, List.length_nil, List.length_append, List.length_drop]; omega)) only [ca', ↓al3, ↓bu, c0, c1, sh, c2, st, pu, ld, ↓s_len, x_lenS, ↓s_box, Nat.zero_add, ↓h_put_get, ↓h_new_get, h_next_new, m_load, ↓m_st, m_stE, x_lenS, ↓s_len, Nat.reduceAdd, s_resc, s_consR, s_res0, ↓s_ops, ↓s_seq, ↓s_cond, ↓s_ret, ↓s_nil, ↓s_op, ↓s_opg, ↓s_wanted', ↓s_wantV, s_wantV, ↓s_bindS, s_bindS, ↓s_bindE, s_bindE, s_bindE_ret, s_norm, ↓s_condV, s_condV, ↓s_getp, ↓s_getp0, ↓s_get, ↓s_con, ↓s_list0, ↓s_list1, ↓s_mov, ↓s_pick, ↓s_pickE, s_pickE, ↓s_bin, s_same, b_lss, b_gtr, b_geq, s_end, s_res0, s_res1, s_tup2, ↓iteN_true, ↓iteN_false, iteN_true, iteN_false, Nat.zero_add, Nat.reduceEqDiff, decide_true, decide_false, beq_self_eq_true]
      try rfl
theorem rfold_err (ef : E k_purserref08_Fold = some f_purserref08_Fold) (xf : ∀ a h, X (.fn k_purserref08_Fold) a h = none) (N : Nat) (leaf : List Nat) (hl : leaf.length = 32) (n : Int) (len : Nat) (hn : 30 < len ∨ n < 0) (a : Option (Nat × Nat)) (c : Option Nat) (ez : Nat) (h : H) :
    ∃ h', callX E X (N + 1) (.fn k_purserref08_Fold) [.agg (ofI .u8 leaf), .int .i64 n, .slice a len c ez] h = some (.tup [.agg (ofI .u8 (List.replicate 32 0)), .int .i64 80], h') ∧ Kp h h' := by
  rw [x_cfn ef _ _ (Nat.le_of_ble_eq_true rfl) (xf _ _)]
  obtain ⟨Z, eZ⟩ : ∃ Z, ofI .u8 (List.replicate 32 0) = Z := ⟨_, rfl⟩
  have ca' : ∀ l : List V, (V.agg l).cells = l := fun _ => rfl
  have al3 : ∀ (Q : Orc) (T : Tr V) (h : H), Eng.step (.alloc [.int .u8 0, .int .u8 0, .int .u8 0, .int .u8 0, .int .u8 0, .int .u8 0, .int .u8 0, .int .u8 0, .int .u8 0, .int .u8 0, .int .u8 0, .int .u8 0, .int .u8 0, .int .u8 0, .int .u8 0, .int .u8 0, .int .u8 0, .int .u8 0, .int .u8 0, .int .u8 0, .int .u8 0, .int .u8 0, .int .u8 0, .int .u8 0, .int .u8 0, .int .u8 0, .int .u8 0, .int .u8 0, .int .u8 0, .int .u8 0, .int .u8 0, .int .u8 0]) Q T h = some (.ptr (some (h.next, 0)), h.new (.cells Z .rw)) := fun Q T h => by rw [← eZ]; rfl
  have bu : ∀ (Q : Orc) (T : Tr V) (h : H), Eng.step (.build [.int .u8 0, .int .u8 0, .int .u8 0, .int .u8 0, .int .u8 0, .int .u8 0, .int .u8 0, .int .u8 0, .int .u8 0, .int .u8 0, .int .u8 0, .int .u8 0, .int .u8 0, .int .u8 0, .int .u8 0, .int .u8 0, .int .u8 0, .int .u8 0, .int .u8 0, .int .u8 0, .int .u8 0, .int .u8 0, .int .u8 0, .int .u8 0, .int .u8 0, .int .u8 0, .int .u8 0, .int .u8 0, .int .u8 0, .int .u8 0, .int .u8 0, .int .u8 0] []) Q T h = some (.agg Z, h) := fun Q T h => by rw [← eZ]; rfl
  have lZ : Z.length = 32 := by rw [← eZ, ofI_len, List.length_replicate]
  have st : ∀ h i, storeV h 32 (.ptr (some (i, 0))) (.agg Z) = storeE (h.get i) h i 0 Z := fun h i => by rw [← eZ]; exact st32 h i 0 _ (List.length_replicate ..)
  have pu : ∀ h i, storeE (some (.cells Z .rw)) h i 0 Z = some (h.put i (.cells Z .rw)) := fun h i => by
    rw [m_storeE _ _ _ _ _ (by omega), writeN_all _ _ rfl]
  have ld : ∀ m, loadE (some (.cells Z m)) (some 32) 0 = some (.agg Z) := fun m => by rw [m_loadN, x_readAll _ 32 lZ]
  rw [eZ]
  generalize ofI .u8 leaf = CL at *
  refine ⟨((h.new (.cells CL .rw)).new (.cells Z .rw)).put (h.next + 1) (.cells Z .rw), ?_, by (repeat (first | exact Kp.refl _ | refine Kp.put ?_ _ (by first | omega | (simp only [h_next_put, h_next_new, h_next_del]; omega)) | refine Kp.del ?_ (by first | omega | (simp only [h_next_put, h_next_new, h_next_del]; omega)) | refine Kp.trans ?_ (Kp.new _ _)))⟩
  by_cases h0 : 30 < len
  · have c0 : decide ((30 : Int) < (len : Int)) = true := decide_eq_true (by omega)
    simp (config := {maxSteps := 2000000}) (disch := first | omega | (simp only [List.length_cons, List.length_nil, List.length_append, List.length_drop]; omega)) only [ca', ↓al3, ↓bu, c0, st, pu, ld, ↓s_len, x_lenS, ↓s_box, Nat.zero_add, ↓h_put_get, ↓h_new_get, h_next_new, m_load, ↓m_st, m_stE, x_lenS, ↓s_len, Nat.reduceAdd, s_resc, s_consR, s_res0, ↓s_ops, ↓s_seq, ↓s_cond, ↓s_ret, ↓s_nil, ↓s_op, ↓s_opg, ↓s_wanted', ↓s_wantV, s_wantV, beq_false, ↓s_bindS, s_bindS, ↓s_bindE, s_bindE, s_bindE_ret, s_norm, ↓s_condV, s_condV, ↓s_getp, ↓s_getp0, ↓s_get, ↓s_con, ↓s_list0, ↓s_list1, ↓s_mov, ↓s_pick, ↓s_pickE, s_pickE, ↓s_bin, s_same, b_gtr, s_end, s_res0, s_res1, s_tup2, ↓iteN_true, ↓iteN_false, iteN_true, iteN_false, Nat.zero_add, Nat.reduceEqDiff, decide_true, decide_false, Bool.not_true]
    try rfl
  · have c0 : decide ((30 : Int) < (len : Int)) = false := decide_eq_false (by omega)
    have c1 : decide (n < 0) = true := decide_eq_true (by omega)
    simp (config := {maxSteps := 2000000}) (disch := first | omega | (simp only [List.length_cons, List.length_nil, List.length_append, List.length_drop]; omega)) only [ca', ↓al3, ↓bu, c0, c1, st, pu, ld, ↓s_len, x_lenS, ↓s_box, Nat.zero_add, ↓h_put_get, ↓h_new_get, h_next_new, m_load, ↓m_st, m_stE, x_lenS, ↓s_len, Nat.reduceAdd, s_resc, s_consR, s_res0, ↓s_ops, ↓s_seq, ↓s_cond, ↓s_ret, ↓s_nil, ↓s_op, ↓s_opg, ↓s_wanted', ↓s_wantV, s_wantV, ↓s_bindS, s_bindS, ↓s_bindE, s_bindE, s_bindE_ret, s_norm, ↓s_condV, s_condV, ↓s_getp, ↓s_getp0, ↓s_get, ↓s_con, ↓s_list0, ↓s_list1, ↓s_mov, ↓s_pick, ↓s_pickE, s_pickE, ↓s_bin, s_same, b_lss, b_gtr, s_end, s_res0, s_res1, s_tup2, ↓iteN_true, ↓iteN_false, iteN_true, iteN_false, Nat.zero_add, Nat.reduceEqDiff, decide_true, decide_false, beq_self_eq_true]
    try rfl
end Go.Eng
namespace Go.Eng
open Go
variable {E : Nat → Option Fn} {X : Orc}
set_option linter.unusedSimpArgs false
set_option linter.unusedVariables false
theorem quo2' (n : Nat) (hn : n < 9223372036854775808) (e : EqK) (h : H) : binV .quo e h (.int .i64 (n : Int)) (.int .i64 2) = some (.int .i64 ((n / 2 : Nat) : Int)) := by
  rw [b_quo _ _ _ _ _ (by omega), show Int.tdiv (n : Int) 2 = ((n / 2 : Nat) : Int) from rfl, wr_i64 (by omega)]
theorem rem2' (n : Nat) (e : EqK) (h : H) : binV .rem e h (.int .i64 (n : Int)) (.int .i64 2) = some (.int .i64 ((n % 2 : Nat) : Int)) := by
  rw [b_rem _ _ _ _ _ (by omega)]; rfl
structure FrI (p r : Nat) (a : Option (Nat × Nat)) (c : Option Nat) (ez : Nat) (br : List (List Nat)) (n0 : Nat) (tot : List Nat) (h0 : H) (i : Nat) (T : Tr V) (h : H) : Prop where
  t2 : evO T (.t 2) = .slice a br.length c ez
  t3 : evO T (.t 3) = .ptr (some (p, 0))
  t6 : evO T (.t 6) = .ptr (some (r, 0))
  t8 : evO T (.t 8) = .int .i64 (i : Int)
  t1 : evO T (.t 1) = .int .i64 ((n0 / 2 ^ i : Nat) : Int)
  st : ∃ (leaf : List Nat), h.get p = some (.cells (ofI .u8 leaf) .rw) ∧ leaf.length = 32 ∧ byt leaf = true ∧ foldL leaf (n0 / 2 ^ i) (br.drop i) = tot
  nx : h0.next ≤ h.next
  fr : ∀ j, j < h0.next → j ≠ p → h.get j = h0.get j
set_option maxHeartbeats 1000000 in
theorem fr_step (e : EnNd E) (x : NoNd X) (hx : HasRtw E X) (M m p r : Nat) (a : Option (Nat × Nat)) (c : Option Nat) (ez : Nat) (br : List (List Nat)) (hb : br.length ≤ 1000) (okb : ∀ o ∈ br, o.length = 32 ∧ byt o = true) (n0 : Nat) (hn0 : n0 < 9223372036854775808) (tot : List Nat) (h0 : H) (hp : p < h0.next) (q off : Nat) (vs : List V) (md : Md) (ea : a = some (q, off)) (ee : ez = 32) (hq : q < h0.next) (hqp : q ≠ p) (gq : h0.get q = some (.cells vs md)) (rb : RowB 32 (vs.drop off) br) :
    ∀ i T h, i < br.length → FrI p r a c ez br n0 tot h0 i T h → ∃ T' h', evC (callX E X (M + 2)) 44 m none L_purserref08_Fold_0 ⟨T, [], h⟩ = some (.normal, ⟨T', [], h'⟩) ∧ FrI p r a c ez br n0 tot h0 (i + 1) T' h' := by
  subst ea ee
  intro i T h hi ⟨t2, t3, t6, t8, t1, ⟨leaf, gp, hl, bl, to⟩, nx, fr⟩
  have hO : br[i]? = some br[i] := List.getElem?_eq_getElem hi
  obtain ⟨O, eO⟩ : ∃ O, br[i] = O := ⟨_, rfl⟩
  rw [eO] at hO
  have dr : br.drop i = O :: br.drop (i + 1) := by rw [List.drop_eq_getElem_cons hi, eO]
  rw [dr] at to
  clear eO
  have lO := rowB_ld rb hO (by decide) md
  have hO32 := (rb.2 _ _ hO).2
  have bO := (okb O (List.mem_of_getElem? hO)).2
  have n2 : n0 / 2 ^ (i + 1) = n0 / 2 ^ i / 2 := by rw [Nat.pow_succ, Nat.div_div_eq_div_mul]
  have nle : n0 / 2 ^ i ≤ n0 := Nat.div_le_self _ _
  obtain ⟨n, en⟩ : ∃ n, n0 / 2 ^ i = n := ⟨_, rfl⟩
  rw [en] at t1 to n2 nle
  have gqh : h.get q = some (.cells vs md) := by rw [fr _ hq hqp, gq]
  have c0 : decide ((i : Int) < (br.length : Int)) = true := decide_eq_true (by omega)
  have wi : wr .i64 ((i : Int) + 1) = ((i + 1 : Nat) : Int) := by rw [wr_i64 (by omega)]; omega
  have ix : idx (i : Int) br.length = some i := idxn hi
  have re := rem2' n
  have qu := quo2' n (by omega)
  have ldG : ∀ (l : List Nat) (_ : l.length = 32) m, loadE (some (.cells (ofI .u8 l) m)) (some 32) 0 = some (.agg (ofI .u8 l)) := fun l hl m => by rw [m_loadN, x_readAll _ 32 (by rw [ofI_len, hl])]
  have stG : ∀ (l : List Nat) (_ : l.length = 32) h i, storeV h 32 (.ptr (some (i, 0))) (.agg (ofI .u8 l)) = storeE (h.get i) h i 0 (ofI .u8 l) := fun l hl h i => st32 h i 0 _ hl
  have puG : ∀ (z l : List Nat) (_ : z.length = l.length) h i, storeE (some (.cells (ofI .u8 z) .rw)) h i 0 (ofI .u8 l) = some (h.put i (.cells (ofI .u8 l) .rw)) := fun z l hl h i => by
    rw [m_storeE _ _ _ _ _ (by rw [ofI_len, ofI_len, hl]; omega), wrAll _ _ _ hl]
  have ld3 := ldG leaf hl
  have bqO := aggI_beq .u8 O
  have bqL := aggI_beq .u8 leaf
  by_cases ho : n % 2 = 1
  · have d1 : decide (((n % 2 : Nat) : Int) = 1) = true := decide_eq_true (by omega)
    have to' : foldL (tw (O ++ leaf)) (n0 / 2 ^ (i + 1)) (br.drop (i + 1)) = tot := by
      rw [← to, n2]; show _ = foldL (tw (if n % 2 = 1 then O ++ leaf else leaf ++ O)) (n / 2) _
      rw [if_pos ho]
    obtain ⟨h4, r4, k4⟩ := rtwo_go e.two x.two hx M O leaf (by omega) (by omega) bO bl h
    have n4 := k4.1
    obtain ⟨P, eP⟩ : ∃ P, O ++ leaf = P := ⟨_, rfl⟩
    rw [eP] at r4 to'
    have pu4 := puG leaf (tw P) (by rw [hl, tw_len])
    have st4 := stG (tw P) (tw_len P)
    have g4p : h4.get p = some (.cells (ofI .u8 leaf) .rw) := by rw [k4.2 _ (by omega), gp]
    obtain ⟨h5, e5⟩ : ∃ h5, h4.put p (.cells (ofI .u8 (tw P)) .rw) = h5 := ⟨_, rfl⟩
    have g5 : h5.get p = some (.cells (ofI .u8 (tw P)) .rw) := by rw [← e5]; exact h_put_same _ _ _
    have n5 : h5.next = h4.next := by rw [← e5]; rfl
    have gq4 : h4.get q = some (.cells vs md) := by rw [k4.2 _ (by omega), gqh]
    have gq5 : h5.get q = some (.cells vs md) := by rw [← e5, h_put_ne _ _ (Ne.symm hqp), gq4]
    clear ldG stG puG
    generalize hCT : ofI .u8 (tw P) = CT at *
    generalize ofI .u8 leaf = CL at *
    generalize ofI .u8 O = CO at *
    exact ⟨_, h5, by
      simp (config := {maxSteps := 2000000}) (disch := first | omega | (simp only [List.length_cons, List.length_nil, List.length_append, List.length_drop]; omega)) only [L_purserref08_Fold_0, t1, t2, t3, t8, gqh, gp, lO, c0, wi, ix, r4, g4p, e5, st4, pu4, ld3, re, qu, d1, ↓s_len, x_lenS, ↓s_evD, ↓s_dnil, ↓s_dL, ↓s_dR, ↓s_dB, ↓s_bindD, s_bindD, s_finD, s_addP0, ↓s_bump0, ↓s_load, m_load, ↓m_st, m_stE, ↓x_idxS, x_idxSE, x_addrE, x_lenS, ↓s_len, ↓s_skip, ↓s_ops, ↓s_dops, ↓s_seq, ↓s_cond, ↓s_block, ↓s_nil, ↓s_op, ↓s_bindS, s_bindS, ↓s_bindE, s_bindE, s_norm, ↓s_condV, s_condV, s_block_normal, ↓s_getp, ↓s_getp0, ↓s_con, ↓s_os0, ↓s_os1, ↓s_mov, ↓s_bin, ↓s_call, s_same, b_eql, b_lss, b_add, ↓iteN_true, ↓iteN_false, iteN_true, iteN_false, Nat.reduceEqDiff, decide_true, decide_false]
      exact rfl, (by (simp only [s_getp, s_getp0, Nat.reduceEqDiff, decide_false, iteN_false, t2]; try rfl)), (by (simp only [s_getp, s_getp0, Nat.reduceEqDiff, decide_false, iteN_false, t3]; try rfl)), (by (simp only [s_getp, s_getp0, Nat.reduceEqDiff, decide_false, iteN_false, t6]; try rfl)), (by (simp only [s_getp, decide_true, iteN_true]; try rfl)), by rw [n2]; (simp only [s_getp, Nat.reduceEqDiff, decide_false, decide_true, iteN_false, iteN_true]; try rfl), ⟨tw P, by rw [hCT]; exact g5, tw_len P, tw_byt P, to'⟩, by omega, fun j hj hjp => by rw [← e5, h_put_ne _ _ (Ne.symm hjp), k4.2 _ (by omega), fr _ hj hjp]⟩
  · have d1 : decide (((n % 2 : Nat) : Int) = 1) = false := decide_eq_false (by omega)
    have to' : foldL (tw (leaf ++ O)) (n0 / 2 ^ (i + 1)) (br.drop (i + 1)) = tot := by
      rw [← to, n2]; show _ = foldL (tw (if n % 2 = 1 then O ++ leaf else leaf ++ O)) (n / 2) _
      rw [if_neg ho]
    obtain ⟨h4, r4, k4⟩ := rtwo_go e.two x.two hx M leaf O (by omega) (by omega) bl bO h
    have n4 := k4.1
    obtain ⟨P, eP⟩ : ∃ P, leaf ++ O = P := ⟨_, rfl⟩
    rw [eP] at r4 to'
    have pu4 := puG leaf (tw P) (by rw [hl, tw_len])
    have st4 := stG (tw P) (tw_len P)
    have g4p : h4.get p = some (.cells (ofI .u8 leaf) .rw) := by rw [k4.2 _ (by omega), gp]
    obtain ⟨h5, e5⟩ : ∃ h5, h4.put p (.cells (ofI .u8 (tw P)) .rw) = h5 := ⟨_, rfl⟩
    have g5 : h5.get p = some (.cells (ofI .u8 (tw P)) .rw) := by rw [← e5]; exact h_put_same _ _ _
    have n5 : h5.next = h4.next := by rw [← e5]; rfl
    have gq4 : h4.get q = some (.cells vs md) := by rw [k4.2 _ (by omega), gqh]
    have gq5 : h5.get q = some (.cells vs md) := by rw [← e5, h_put_ne _ _ (Ne.symm hqp), gq4]
    clear ldG stG puG
    generalize hCT : ofI .u8 (tw P) = CT at *
    generalize ofI .u8 leaf = CL at *
    generalize ofI .u8 O = CO at *
    exact ⟨_, h5, by
      simp (config := {maxSteps := 2000000}) (disch := first | omega | (simp only [List.length_cons, List.length_nil, List.length_append, List.length_drop]; omega)) only [L_purserref08_Fold_0, t1, t2, t3, t8, gqh, gp, lO, c0, wi, ix, r4, g4p, e5, st4, pu4, ld3, re, qu, d1, ↓s_len, x_lenS, ↓s_evD, ↓s_dnil, ↓s_dL, ↓s_dR, ↓s_dB, ↓s_bindD, s_bindD, s_finD, s_addP0, ↓s_bump0, ↓s_load, m_load, ↓m_st, m_stE, ↓x_idxS, x_idxSE, x_addrE, x_lenS, ↓s_len, ↓s_skip, ↓s_ops, ↓s_dops, ↓s_seq, ↓s_cond, ↓s_block, ↓s_nil, ↓s_op, ↓s_bindS, s_bindS, ↓s_bindE, s_bindE, s_norm, ↓s_condV, s_condV, s_block_normal, ↓s_getp, ↓s_getp0, ↓s_con, ↓s_os0, ↓s_os1, ↓s_mov, ↓s_bin, ↓s_call, s_same, b_eql, b_lss, b_add, ↓iteN_true, ↓iteN_false, iteN_true, iteN_false, Nat.reduceEqDiff, decide_true, decide_false]
      exact rfl, (by (simp only [s_getp, s_getp0, Nat.reduceEqDiff, decide_false, iteN_false, t2]; try rfl)), (by (simp only [s_getp, s_getp0, Nat.reduceEqDiff, decide_false, iteN_false, t3]; try rfl)), (by (simp only [s_getp, s_getp0, Nat.reduceEqDiff, decide_false, iteN_false, t6]; try rfl)), (by (simp only [s_getp, decide_true, iteN_true]; try rfl)), by rw [n2]; (simp only [s_getp, Nat.reduceEqDiff, decide_false, decide_true, iteN_false, iteN_true]; try rfl), ⟨tw P, by rw [hCT]; exact g5, tw_len P, tw_byt P, to'⟩, by omega, fun j hj hjp => by rw [← e5, h_put_ne _ _ (Ne.symm hjp), k4.2 _ (by omega), fr _ hj hjp]⟩
theorem rfold_go (e : EnNd E) (x : NoNd X) (ef : E k_purserref08_Fold = some f_purserref08_Fold) (xf : ∀ a h, X (.fn k_purserref08_Fold) a h = none) (hx : HasRtw E X) (M : Nat) (hM : 1000 < M) (leaf : List Nat) (hl : leaf.length = 32) (bl : byt leaf = true) (n : Nat) (hn : n < 9223372036854775808) (br : List (List Nat)) (hb : br.length < 31) (okb : ∀ o ∈ br, o.length = 32 ∧ byt o = true) (a : Option (Nat × Nat)) (c : Option Nat) (ez : Nat) (h : H) (S : HsR 32 h a ez br) :
    ∃ h', callX E X (M + 3) (.fn k_purserref08_Fold) [.agg (ofI .u8 leaf), .int .i64 (n : Int), .slice a br.length c ez] h = some (if 2 ^ br.length ≤ n then .tup [.agg (ofI .u8 (List.replicate 32 0)), .int .i64 80] else .tup [.agg (ofI .u8 (foldL leaf n br)), .int .i64 0], h') ∧ Kp h h' := by
  rw [x_cfn ef _ _ (Nat.le_of_ble_eq_true rfl) (xf _ _)]
  obtain ⟨b, eb⟩ : ∃ b, h.next = b := ⟨_, rfl⟩
  obtain ⟨Z3, eZ3⟩ : ∃ Z, ofI .u8 (List.replicate 32 0) = Z := ⟨_, rfl⟩
  obtain ⟨h1, e1⟩ : ∃ h1, (h.new (.cells (ofI .u8 leaf) .rw)).new (.cells Z3 .rw) = h1 := ⟨_, rfl⟩
  have n1 : h1.next = b + 2 := by rw [← e1, ← eb]; rfl
  have k1 : Kp h h1 := by rw [← e1]; (repeat (first | exact Kp.refl _ | refine Kp.put ?_ _ (by first | omega | (simp only [h_next_put, h_next_new, h_next_del]; omega)) | refine Kp.del ?_ (by first | omega | (simp only [h_next_put, h_next_new, h_next_del]; omega)) | refine Kp.trans ?_ (Kp.new _ _)))
  have g10 : h1.get b = some (.cells (ofI .u8 leaf) .rw) := by rw [← e1, ← eb]; (simp (disch := omega) only [h_new_get, h_next_new, Nat.add_eq_left, decide_true, decide_false, iteN_true, iteN_false, reduceCtorEq, ]; try rfl)
  have g11 : h1.get (b + 1) = some (.cells Z3 .rw) := by rw [← e1, ← eb]; (simp (disch := omega) only [h_new_get, h_next_new, decide_true, iteN_true, ]; try rfl)
  have bu : ∀ (Q : Orc) (T : Tr V) (h : H), Eng.step (.build [.int .u8 0, .int .u8 0, .int .u8 0, .int .u8 0, .int .u8 0, .int .u8 0, .int .u8 0, .int .u8 0, .int .u8 0, .int .u8 0, .int .u8 0, .int .u8 0, .int .u8 0, .int .u8 0, .int .u8 0, .int .u8 0, .int .u8 0, .int .u8 0, .int .u8 0, .int .u8 0, .int .u8 0, .int .u8 0, .int .u8 0, .int .u8 0, .int .u8 0, .int .u8 0, .int .u8 0, .int .u8 0, .int .u8 0, .int .u8 0, .int .u8 0, .int .u8 0] []) Q T h = some (.agg Z3, h) := fun Q T h => by rw [← eZ3]; rfl
  have lZ : Z3.length = 32 := by rw [← eZ3, ofI_len, List.length_replicate]
  have stZ : ∀ h i, storeV h 32 (.ptr (some (i, 0))) (.agg Z3) = storeE (h.get i) h i 0 Z3 := fun h i => by rw [← eZ3]; exact st32 h i 0 _ (List.length_replicate ..)
  have puZ : ∀ h i, storeE (some (.cells Z3 .rw)) h i 0 Z3 = some (h.put i (.cells Z3 .rw)) := fun h i => by
    rw [m_storeE _ _ _ _ _ (by omega), writeN_all _ _ rfl]
  have ldZ : ∀ m, loadE (some (.cells Z3 m)) (some 32) 0 = some (.agg Z3) := fun m => by rw [m_loadN, x_readAll _ 32 lZ]
  rw [eZ3]
  have fin : ∀ T, evO T (.t 2) = .slice a br.length c ez → evO T (.t 3) = .ptr (some (b, 0)) → evO T (.t 6) = .ptr (some (b + 1, 0)) → evO T (.t 8) = .int .i64 ((0 : Nat) : Int) → evO T (.t 1) = .int .i64 (n : Int) →
      ∃ h', fnEnd [.cell 6 (some 32), .tmp 7] (bindE (blockE 0 (loopN (evC (callX E X (M + 2)) 44 (M + 2) none L_purserref08_Fold_0) (M + 2) ⟨T, [], h1⟩)) (evC (callX E X (M + 2)) 44 (M + 2) none R_purserref08_Fold_0)) = some (if 2 ^ br.length ≤ n then .tup [.agg Z3, .int .i64 80] else .tup [.agg (ofI .u8 (foldL leaf n br)), .int .i64 0], h') ∧ Kp h h' := by
    intro T t2 t3 t6 t8 t1
    have I0 : FrI b (b + 1) a c ez br n (foldL leaf n br) h1 0 T h1 := ⟨t2, t3, t6, t8, by rw [Nat.pow_zero, Nat.div_one]; exact t1, ⟨leaf, g10, hl, bl, by rw [List.drop_zero, Nat.pow_zero, Nat.div_one]⟩, Nat.le_refl _, fun _ _ _ => rfl⟩
    have step : ∀ i T h, i < br.length → FrI b (b + 1) a c ez br n (foldL leaf n br) h1 i T h → ∃ T' h', evC (callX E X (M + 2)) 44 (M + 2) none L_purserref08_Fold_0 ⟨T, [], h⟩ = some (.normal, ⟨T', [], h'⟩) ∧ FrI b (b + 1) a c ez br n (foldL leaf n br) h1 (i + 1) T' h' := by
      intro i T h' hi I
      rcases S with S | ⟨q, off, vs, md, ea, ee, hq, gq, rb⟩
      · rw [S] at hi; cases hi
      · exact fr_step e x hx M (M + 2) b (b + 1) a c ez br (by omega) okb n hn _ h1 (by omega) q off vs md ea ee (by omega) (by omega) (by rw [k1.2 _ hq, gq]) rb i T h' hi I
    obtain ⟨T', h', r, J⟩ := loop_go (FrI b (b + 1) a c ez br n (foldL leaf n br) h1) br.length (.exit 0) (by intro h; cases h) (FrI b (b + 1) a c ez br n (foldL leaf n br) h1 br.length) step (fun T h' I => by
      obtain ⟨t2, t3, t6, t8, t1, st, nx, fr⟩ := I
      have c0 : decide ((br.length : Int) < (br.length : Int)) = false := decide_eq_false (by omega)
      refine ⟨_, h', by
        simp (config := {maxSteps := 2000000}) (disch := first | omega | (simp only [List.length_cons, List.length_nil, List.length_append, List.length_drop]; omega)) only [L_purserref08_Fold_0, t2, t8, c0, ↓s_len, x_lenS, x_lenS, ↓s_len, ↓s_ops, ↓s_seq, ↓s_cond, ↓s_exit, ↓s_nil, ↓s_op, ↓s_bindS, s_bindS, ↓s_bindE, s_bindE, s_bindE_exit, s_norm, ↓s_condV, s_condV, ↓s_getp, ↓s_mov, ↓s_bin, s_same, b_lss, ↓iteN_true, ↓iteN_false, iteN_true, iteN_false, Nat.reduceEqDiff, decide_true, decide_false]
        exact rfl, ⟨(by (simp only [s_getp, Nat.reduceEqDiff, decide_false, iteN_false, t2]; try rfl)), (by (simp only [s_getp, Nat.reduceEqDiff, decide_false, iteN_false, t3]; try rfl)), (by (simp only [s_getp, Nat.reduceEqDiff, decide_false, iteN_false, t6]; try rfl)), (by (simp only [s_getp, Nat.reduceEqDiff, decide_false, iteN_false, t8]; try rfl)), (by (simp only [s_getp, Nat.reduceEqDiff, decide_false, iteN_false, t1]; try rfl)), st, nx, fr⟩⟩) br.length 0 (by omega) (M + 2) (by omega) T h1 I0
    obtain ⟨u2, u3, u6, _, u1, ⟨lf, gp, hl', _, to⟩, nx, fr⟩ := J
    rw [List.drop_length] at to
    have to2 : lf = foldL leaf n br := to
    subst to2
    rw [r]
    have gz : h'.get (b + 1) = some (.cells Z3 .rw) := by rw [fr _ (by omega) (by omega), g11]
    have pos : 0 < 2 ^ br.length := Nat.two_pow_pos _
    by_cases hc : 2 ^ br.length ≤ n
    · rw [if_pos hc]
      have : 0 < n / 2 ^ br.length := Nat.div_pos hc pos
      have c1 : decide ((0 : Int) < ((n / 2 ^ br.length : Nat) : Int)) = true := decide_eq_true (by omega)
      refine ⟨h'.put (b + 1) (.cells Z3 .rw), ?_, ⟨by show h.next ≤ h'.next; omega, fun j hj => by rw [h_put_ne _ _ (by omega), fr _ (by omega) (by omega), k1.2 _ hj]⟩⟩
      generalize n / 2 ^ br.length = nn at *
      simp (config := {maxSteps := 2000000}) (disch := first | omega | (simp only [List.length_cons, List.length_nil, List.length_append, List.length_drop]; omega)) only [R_purserref08_Fold_0, u1, u6, gz, c1, ↓bu, stZ, puZ, ldZ, ↓h_put_get, m_load, ↓m_st, m_stE, s_resc, s_consR, s_res0, ↓s_ops, ↓s_seq, ↓s_cond, ↓s_ret, ↓s_nil, ↓s_op, ↓s_bindS, s_bindS, ↓s_bindE, s_bindE, s_bindE_ret, s_norm, ↓s_condV, s_condV, s_block_exit, ↓s_getp, ↓s_getp0, ↓s_con, ↓s_mov, ↓s_bin, s_same, b_gtr, s_end, s_res0, s_res1, s_tup2, ↓iteN_true, ↓iteN_false, iteN_true, iteN_false, Nat.reduceEqDiff, decide_true, decide_false, if_true]
    · rw [if_neg hc]
      have : n / 2 ^ br.length = 0 := Nat.div_eq_of_lt (by omega)
      rw [this] at u1
      have c1 : decide ((0 : Int) < ((0 : Nat) : Int)) = false := rfl
      have lds : ∀ m, loadE (some (.cells (ofI .u8 (foldL leaf n br)) m)) (some 32) 0 = some (.agg (ofI .u8 (foldL leaf n br))) := fun m => by rw [m_loadN, x_readAll _ 32 (by rw [ofI_len, hl'])]
      have st : ∀ h i, storeV h 32 (.ptr (some (i, 0))) (.agg (ofI .u8 (foldL leaf n br))) = storeE (h.get i) h i 0 (ofI .u8 (foldL leaf n br)) := fun h i => st32 h i 0 _ hl'
      have pu : ∀ h i, storeE (some (.cells Z3 .rw)) h i 0 (ofI .u8 (foldL leaf n br)) = some (h.put i (.cells (ofI .u8 (foldL leaf n br)) .rw)) := fun h i => by
        rw [m_storeE _ _ _ _ _ (by rw [ofI_len, hl']; omega), ← eZ3, wrAll _ _ _ (by rw [List.length_replicate, hl'])]
      refine ⟨h'.put (b + 1) (.cells (ofI .u8 (foldL leaf n br)) .rw), ?_, ⟨by show h.next ≤ h'.next; omega, fun j hj => by rw [h_put_ne _ _ (by omega), fr _ (by omega) (by omega), k1.2 _ hj]⟩⟩
      generalize ofI .u8 (foldL leaf n br) = CF at *
      simp (config := {maxSteps := 2000000}) (disch := first | omega | (simp only [List.length_cons, List.length_nil, List.length_append, List.length_drop]; omega)) only [R_purserref08_Fold_0, u1, u3, u6, gp, gz, lds, st, pu, ↓h_put_get, ↓s_load, m_load, ↓m_st, m_stE, Int.reduceLT, Int.cast_ofNat_Int, s_resc, s_consR, s_res0, ↓s_skip, ↓s_ops, ↓s_seq, ↓s_cond, ↓s_ret, ↓s_nil, ↓s_op, ↓s_bindS, s_bindS, ↓s_bindE, s_bindE, s_norm, ↓s_condV, s_condV, s_block_exit, ↓s_getp, ↓s_getp0, ↓s_con, ↓s_mov, ↓s_bin, s_same, b_gtr, s_end, s_res0, s_res1, s_tup2, ↓iteN_true, ↓iteN_false, iteN_true, iteN_false, Nat.reduceEqDiff, decide_true, decide_false, if_true]
      try rfl
  obtain ⟨R, eR⟩ : ∃ R, R_purserref08_Fold_0 = R := ⟨_, rfl⟩
  obtain ⟨Lo, eL⟩ : ∃ R, L_purserref08_Fold_0 = R := ⟨_, rfl⟩
  rw [eR, eL] at fin ⊢
  have d0 : decide ((30 : Int) < (br.length : Int)) = false := decide_eq_false (by omega)
  have d1 : decide ((n : Int) < 0) = false := decide_eq_false (by omega)
  have ca' : ∀ l : List V, (V.agg l).cells = l := fun _ => rfl
  have al3 : ∀ (Q : Orc) (T : Tr V) (h : H), Eng.step (.alloc [.int .u8 0, .int .u8 0, .int .u8 0, .int .u8 0, .int .u8 0, .int .u8 0, .int .u8 0, .int .u8 0, .int .u8 0, .int .u8 0, .int .u8 0, .int .u8 0, .int .u8 0, .int .u8 0, .int .u8 0, .int .u8 0, .int .u8 0, .int .u8 0, .int .u8 0, .int .u8 0, .int .u8 0, .int .u8 0, .int .u8 0, .int .u8 0, .int .u8 0, .int .u8 0, .int .u8 0, .int .u8 0, .int .u8 0, .int .u8 0, .int .u8 0, .int .u8 0]) Q T h = some (.ptr (some (h.next, 0)), h.new (.cells Z3 .rw)) := fun Q T h => by rw [← eZ3]; rfl
  generalize (if 2 ^ br.length ≤ n then V.tup [.agg Z3, .int .i64 80] else .tup [.agg (ofI .u8 (foldL leaf n br)), .int .i64 0]) = RES at *
  generalize ofI .u8 leaf = CL at *
  simp (config := {maxSteps := 2000000}) (disch := first | omega | (simp only [List.length_cons, List.length_nil, List.length_append, List.length_drop]; omega)) only [ca', ↓al3, e1, eb, d0, d1, ↓s_len, x_lenS, ↓s_box, Nat.zero_add, ↓l_loop, ↓l_succ, h_next_new, x_lenS, ↓s_len, Nat.reduceAdd, ↓s_skip, ↓s_ops, ↓s_seq, ↓s_cond, ↓s_block, ↓s_nil, ↓s_op, ↓s_opg, ↓s_wanted', ↓s_wantV, s_wantV, ↓s_bindS, s_bindS, ↓s_bindE, s_bindE, s_norm, ↓s_condV, s_condV, ↓s_getp, ↓s_get, ↓s_con, ↓s_list0, ↓s_list1, ↓s_mov, ↓s_pick, ↓s_pickE, s_pickE, ↓s_bin, s_same, b_lss, b_gtr, ↓iteN_true, ↓iteN_false, iteN_true, iteN_false, Nat.zero_add, Nat.reduceEqDiff, decide_true, decide_false, beq_self_eq_true]
  exact fin _ (by (simp only [s_getp, Nat.reduceEqDiff, decide_false, decide_true, iteN_false, iteN_true, s_get]; try rfl)) (by (simp only [s_getp, Nat.reduceEqDiff, decide_false, decide_true, iteN_false, iteN_true]; try rfl)) (by (simp only [s_getp, Nat.reduceEqDiff, decide_false, decide_true, iteN_false, iteN_true]; try rfl)) (by (simp only [s_getp, decide_true, iteN_true]; try rfl)) (by (simp only [s_getp, Nat.reduceEqDiff, decide_false, decide_true, iteN_false, iteN_true, s_get]; try rfl))
structure HaI (a b : Option (Nat × Nat)) (ca cb : Option Nat) (ea eb n : Nat) (h0 : H) (i : Nat) (T : Tr V) (h : H) : Prop where
  t0 : evO T (.t 0) = .slice a n ca ea
  t1 : evO T (.t 1) = .slice b n cb eb
  t5 : evO T (.t 5) = .int .i64 (i : Int)
  hh : h = h0
theorem hashes_go (e : E k_purserref07_Hashes = some f_purserref07_Hashes) (x : ∀ a h, X (.fn k_purserref07_Hashes) a h = none) (M : Nat) (l : List (List Nat)) (hl : l.length ≤ 1000) (hM : 1000 < M) (a b : Option (Nat × Nat)) (ca cb : Option Nat) (ea eb : Nat) (h : H) (S : HsR 32 h a ea l) (S2 : HsR 32 h b eb l) :
    callX E X (M + 1) (.fn k_purserref07_Hashes) [.slice a l.length ca ea, .slice b l.length cb eb] h = some (.bool true, h) := by
  rw [x_cfn e _ _ (Nat.le_of_ble_eq_true rfl) (x _ _)]
  have fin : ∀ T, evO T (.t 0) = .slice a l.length ca ea → evO T (.t 1) = .slice b l.length cb eb → evO T (.t 5) = .int .i64 ((0 : Nat) : Int) → fnEnd [.tmp 4] (bindE (blockE 0 (loopN (evC (callX E X M) 26 M none L_purserref07_Hashes_0) M ⟨T, [], h⟩)) (evC (callX E X M) 26 M none R_purserref07_Hashes_0)) = some (.bool true, h) := by
    intro T t0 t1 t5
    obtain ⟨T', h', r, J⟩ := loop_go (f := evC (callX E X M) 26 M none L_purserref07_Hashes_0) (HaI a b ca cb ea eb l.length h) l.length (.exit 0) (by intro h; cases h) (HaI a b ca cb ea eb l.length h l.length) (fun i T h' hi I => by
      obtain ⟨t0, t1, t5, rfl⟩ := I
      rcases S with S | ⟨q, off, vs, md, rfl, rfl, hq, gq, rb⟩
      · rw [S] at hi; cases hi
      rcases S2 with S2 | ⟨q2, off2, vs2, md2, rfl, rfl, hq2, gq2, rb2⟩
      · rw [S2] at hi; cases hi
      have hO : l[i]? = some l[i] := List.getElem?_eq_getElem hi
      obtain ⟨O, eO⟩ : ∃ O, l[i] = O := ⟨_, rfl⟩
      rw [eO] at hO
      clear eO
      have lO := rowB_ld rb hO (by decide) md
      have lO2 := rowB_ld rb2 hO (by decide) md2
      have hO32 := (rb.2 _ _ hO).2
      have nq := fun h => neq32 h O O hO32 hO32
      have dt : (!decide (O = O)) = false := by rw [decide_eq_true rfl]; rfl
      rw [dt] at nq
      have bq := aggI_beq .u8 O
      have c0 : decide ((i : Int) < (l.length : Int)) = true := decide_eq_true (by omega)
      have wi : wr .i64 ((i : Int) + 1) = ((i + 1 : Nat) : Int) := by rw [wr_i64 (by omega)]; omega
      have ix : idx (i : Int) l.length = some i := idxn hi
      generalize ofI .u8 O = CO at *
      refine ⟨_, _, by
        simp (config := {maxSteps := 2000000}) (disch := first | omega | (simp only [List.length_cons, List.length_nil, List.length_append, List.length_drop]; omega)) only [L_purserref07_Hashes_0, t0, t1, t5, c0, wi, ix, gq, gq2, lO, lO2, nq, ↓s_len, x_lenS, ↓s_evD, ↓s_dnil, ↓s_dL, ↓s_dR, ↓s_bindD, s_bindD, s_finD, s_addP0, ↓s_bump0, ↓s_load, m_load, ↓x_idxS, x_idxSE, x_addrE, x_lenS, ↓s_len, ↓s_skip, ↓s_ops, ↓s_dops, ↓s_seq, ↓s_cond, ↓s_block, ↓s_nil, ↓s_op, ↓s_bindS, s_bindS, ↓s_bindE, s_bindE, s_norm, ↓s_condV, s_condV, s_block_normal, ↓s_getp, ↓s_con, ↓s_mov, ↓s_bin, s_same, b_lss, b_add, ↓iteN_true, ↓iteN_false, iteN_true, iteN_false, Nat.reduceEqDiff, decide_true, decide_false]
        exact rfl, (by (simp only [s_getp, Nat.reduceEqDiff, decide_false, iteN_false, t0]; try rfl)), (by (simp only [s_getp, Nat.reduceEqDiff, decide_false, iteN_false, t1]; try rfl)), (by (simp only [s_getp, decide_true, iteN_true]; try rfl)), rfl⟩) (fun T h' I => by
      obtain ⟨t0, t1, t5, rfl⟩ := I
      have c0 : decide ((l.length : Int) < (l.length : Int)) = false := decide_eq_false (by omega)
      refine ⟨_, _, by
        simp (config := {maxSteps := 2000000}) (disch := first | omega | (simp only [List.length_cons, List.length_nil, List.length_append, List.length_drop]; omega)) only [L_purserref07_Hashes_0, t0, t5, c0, ↓s_len, x_lenS, x_lenS, ↓s_len, ↓s_ops, ↓s_seq, ↓s_cond, ↓s_exit, ↓s_nil, ↓s_op, ↓s_bindS, s_bindS, ↓s_bindE, s_bindE, s_bindE_exit, s_norm, ↓s_condV, s_condV, ↓s_getp, ↓s_mov, ↓s_bin, s_same, b_lss, ↓iteN_true, ↓iteN_false, iteN_true, iteN_false, Nat.reduceEqDiff, decide_true, decide_false]
        exact rfl, (by (simp only [s_getp, Nat.reduceEqDiff, decide_false, iteN_false, t0]; try rfl)), (by (simp only [s_getp, Nat.reduceEqDiff, decide_false, iteN_false, t1]; try rfl)), (by (simp only [s_getp, Nat.reduceEqDiff, decide_false, iteN_false, t5]; try rfl)), rfl⟩) l.length 0 (by omega) M (by omega) T h ⟨t0, t1, t5, rfl⟩
    obtain ⟨u0, u1, u5, rfl⟩ := J
    rw [r]
    simp (config := {maxSteps := 2000000}) (disch := first | omega | (simp only [List.length_cons, List.length_nil, List.length_append, List.length_drop]; omega)) only [R_purserref07_Hashes_0, s_res0, ↓s_ops, ↓s_seq, ↓s_ret, ↓s_nil, ↓s_op, ↓s_bindS, s_bindS, ↓s_bindE, s_bindE, s_norm, s_block_exit, ↓s_getp, ↓s_con, ↓s_mov, s_end, s_res0, s_res1, s_tup1, ↓iteN_true, iteN_true, decide_true, if_true]
  obtain ⟨R, eR⟩ : ∃ R, R_purserref07_Hashes_0 = R := ⟨_, rfl⟩
  obtain ⟨Lo, eL⟩ : ∃ R, L_purserref07_Hashes_0 = R := ⟨_, rfl⟩
  rw [eR, eL] at fin ⊢
  have c0 : (!decide ((l.length : Int) = (l.length : Int))) = false := by rw [decide_eq_true rfl]; rfl
  have c1 : decide ((l.length : Int) = (l.length : Int)) = true := decide_eq_true rfl
  simp (config := {maxSteps := 2000000}) (disch := first | omega | (simp only [List.length_cons, List.length_nil, List.length_append, List.length_drop]; omega)) only [↓s_len, x_lenS, Nat.zero_add, ↓l_loop, x_lenS, ↓s_len, ↓s_skip, ↓s_ops, ↓s_seq, ↓s_cond, ↓s_block, ↓s_nil, ↓s_op, ↓s_bindS, s_bindS, ↓s_bindE, s_bindE, s_norm, ↓s_condV, s_condV, ↓s_getp, ↓s_get, ↓s_con, ↓s_list0, ↓s_list1, ↓s_mov, ↓s_bin, s_same, b_neq, ↓iteN_true, ↓iteN_false, iteN_true, iteN_false, Nat.zero_add, Nat.reduceEqDiff, decide_true, decide_false, Bool.not_true]
  exact fin _ (by (simp only [s_getp, Nat.reduceEqDiff, decide_false, decide_true, iteN_false, iteN_true, s_get]; try rfl)) (by (simp only [s_getp, Nat.reduceEqDiff, decide_false, decide_true, iteN_false, iteN_true, s_get]; try rfl)) (by (simp only [s_getp, decide_true, iteN_true]; try rfl))
end Go.Eng
