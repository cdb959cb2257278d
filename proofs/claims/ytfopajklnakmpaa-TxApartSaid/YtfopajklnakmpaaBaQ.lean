/- What functions of the program come to: own work. -/
import Derived.Test.YtfopajklnakmpaaBaO
import Derived.Test.YtfopajklnakmpaaBaP
namespace Go.Eng
open Go
variable {E : Nat → Option Fn} {X : Orc}
set_option linter.unusedSimpArgs false
set_option linter.unusedVariables false
theorem eqnil (h : H) (a : Option (Nat × Nat)) (n : Nat) (c : Option Nat) (e : Nat) : binV .eql (.ref .s) h (.slice a n c e) (.slice none 0 (some 0) 0) = some (.bool a.isNone) := by
  cases a <;> rfl
theorem app_b (h : H) (l : List Nat) (hl : l.length ≤ 100000000) : ∃ a c e h', appendC (h.new (.cells [] .rw)) 1 1 (.slice (some (h.next, 0)) 0 (some 0) 1) (some (l.length, ofI .u8 l)) = some (.slice a l.length c e, h') ∧ Kp h h' ∧ SrcH h' a e l ∧ (∀ q z, a = some (q, z) → h.next ≤ q) := by
  have k1 : Kp h (h.new (.cells [] .rw)) := Kp.new _ _
  cases hn : l.length with
  | zero =>
    have l0 : l = [] := List.length_eq_zero_iff.1 hn
    exact ⟨some (h.next, 0), some 0, 1, _, by rw [l0]; exact appN _ _ _ _ _ _, k1, .inl l0, fun q z e => by cases e; exact Nat.le_refl _⟩
  | succ n =>
    have g : (h.new (.cells [] .rw)).get h.next = some (.cells [] .rw) := h_new_same _ _
    have nx : (h.new (.cells [] .rw)).next = h.next + 1 := rfl
    obtain ⟨h1, e1⟩ : ∃ h1, h.new (.cells [] .rw) = h1 := ⟨_, rfl⟩
    rw [e1] at g k1 nx ⊢
    refine ⟨some (h1.next, 0), none, 1, h1.new (.cells (ofI .u8 l) .rw), ?_, k1.trans (Kp.new _ _), .inr ⟨h1.next, 0, _, .rw, rfl, rfl, Nat.lt_succ_self _, h_new_same _ _, by rw [ofI_len]; omega, by rw [List.drop_zero]; exact List.take_of_length_le (by rw [ofI_len]; exact Nat.le_refl _)⟩, fun q z e => by cases e; omega⟩
    unfold appendC
    simp only
    have r : (roomy (0 + (n + 1)) 1 && (Nat.beq 1 1 || (some (h.next, 0) : Option (Nat × Nat)).isNone) && (ofI .u8 l).all plainV) = true := by
      rw [plain_ofI]; have : roomy (0 + (n + 1)) 1 = true := by simp [roomy]; omega
      rw [this]; rfl
    have f : fullC (some 0) (0 + (n + 1)) = true := by
      show Nat.blt 0 (0 + (n + 1)) = true
      simp
    rw [r]
    simp only [_root_.cond_true, g, f]
    have rd : readN ([] : List V) 0 (0 * 1) = some [] := rfl
    simp only [rd, List.nil_append, Nat.zero_add]
theorem bclone_go (e : E k_bytes_Clone = some f_bytes_Clone) (x : ∀ a h, X (.fn k_bytes_Clone) a h = none) (N : Nat) (l : List Nat) (hl : l.length ≤ 100000000) (a : Option (Nat × Nat)) (c : Option Nat) (ez : Nat) (h : H) (src : SrcH h a ez l) (hn : a = none → l = []) :
    ∃ h' a2 c2 e2, callX E X (N + 1) (.fn k_bytes_Clone) [.slice a l.length c ez] h = some (.slice a2 l.length c2 e2, h') ∧ Kp h h' ∧ SrcH h' a2 e2 l ∧ (∀ q z, a2 = some (q, z) → h.next ≤ q) := by
  rw [x_cfn e _ _ (Nat.le_of_ble_eq_true rfl) (x _ _)]
  have q := fun h => eqnil h a l.length c ez
  cases a with
  | none =>
    obtain rfl := hn rfl
    refine ⟨h, none, some 0, 0, ?_, Kp.refl _, .inl rfl, fun _ _ e => by cases e⟩
    rw [List.length_nil]
    have q0 := fun h => eqnil h none 0 c ez
    simp (config := {maxSteps := 2000000}) (disch := first | omega | (simp only [List.length_cons, List.length_nil, List.length_append, List.length_drop]; omega)) only [q0, Option.isNone_none, s_res0, ↓s_ops, ↓s_seq, ↓s_cond, ↓s_ret, ↓s_nil, ↓s_op, ↓s_bindS, s_bindS, ↓s_bindE, s_bindE, s_bindE_ret, s_norm, ↓s_condV, s_condV, ↓s_getp, ↓s_get, ↓s_con, ↓s_list0, ↓s_list1, ↓s_mov, ↓s_bin, s_same, s_end, s_res0, s_res1, s_tup1, ↓iteN_true, ↓iteN_false, iteN_true, iteN_false, Nat.reduceEqDiff, decide_true, decide_false]
    try rfl
  | some p =>
    have k1 : Kp h (h.new (.cells [] .rw)) := Kp.new _ _
    have sc := (src.mono k1).cellz c
    obtain ⟨a2, c2, e2, h', ap, k, s, g⟩ := app_b h l hl
    refine ⟨h', a2, c2, e2, ?_, k, s, g⟩
    obtain ⟨n, en⟩ : ∃ n, l.length = n := ⟨_, rfl⟩
    rw [en] at sc ap q ⊢
    simp (config := {maxSteps := 2000000}) (disch := first | omega | (simp only [List.length_cons, List.length_nil, List.length_append, List.length_drop]; omega)) only [q, Option.isNone_some, sc, ap, ↓s_append, ↓x_buildS, x_buildE, ↓x_P0, x_fill0, s_res0, ↓s_skip, ↓s_ops, ↓s_seq, ↓s_cond, ↓s_ret, ↓s_nil, ↓s_op, ↓s_bindS, s_bindS, ↓s_bindE, s_bindE, s_norm, ↓s_condV, s_condV, ↓s_getp, ↓s_get, ↓s_con, ↓s_list0, ↓s_list1, ↓s_mov, ↓s_bin, s_same, s_end, s_res0, s_res1, s_tup1, ↓iteN_true, ↓iteN_false, iteN_true, iteN_false, Nat.reduceEqDiff, decide_true, decide_false]
    try rfl
theorem SrcH.toS {h : H} {a : Option (Nat × Nat)} {e : Nat} {l : List Nat} (s : SrcH h a e l) (S : Nat → Prop) (w : ∀ q z, a = some (q, z) → S q) : SrcS S h a e l := by
  rcases s with s | ⟨bi, off, vs, m, e1, e2, hb, g, hl, hv⟩
  · exact .inl s
  · exact .inr ⟨bi, off, vs, m, e1, e2, w _ _ e1, hb, g, hl, hv⟩
theorem src_n {h : H} {sz q off n : Nat} {vs : List V} {md : Md} (g : h.get q = some (.cells vs md)) (hl : off + n * sz ≤ vs.length) (hn : 0 < n) (c : Option Nat) : srcCells h sz (.slice (some (q, off)) n c sz) = some (n, (vs.drop off).take (n * sz)) := by
  obtain ⟨n, rfl⟩ : ∃ m, n = m + 1 := ⟨n - 1, by omega⟩
  rw [m_src, g]
  show (match readN vs off ((n + 1) * sz) with | some l => some (n + 1, l) | none => none) = _
  rw [readN_of _ _ _ hl]
theorem row_plain {α : Type} {sz : Nat} {A : (Nat → Prop) → H → α → List V → Prop} (it : ItA sz A) {S : Nat → Prop} {h : H} : ∀ (ops : List α) (cs : List V), cs.length = ops.length * sz → (∀ i o, ops[i]? = some o → A S h o ((cs.drop (i * sz)).take sz)) → cs.all plainV = true := by
  intro ops
  induction ops with
  | nil => intro cs lc _; rw [List.length_nil, Nat.zero_mul] at lc; rw [List.length_eq_zero_iff.1 lc]; rfl
  | cons o r ih =>
    intro cs lc at_
    rw [List.length_cons, Nat.succ_mul] at lc
    rw [← List.take_append_drop sz cs, List.all_append]
    have h0 := at_ 0 o rfl
    rw [Nat.zero_mul, List.drop_zero] at h0
    rw [(it.fit h0).2, ih (cs.drop sz) (by rw [List.length_drop]; omega) (fun i o' ho => by
      have := at_ (i + 1) o' ho
      rw [Nat.succ_mul] at this
      rw [List.drop_drop, Nat.add_comm]; exact this)]
    rfl
theorem app_row (h : H) (sz bts n : Nat) (cs : List V) (hn : 0 < n) (ro : roomy (0 + n) bts = true) (pl : cs.all plainV = true) : appendC (h.new (.cells [] .rw)) sz bts (.slice (some (h.next, 0)) 0 (some 0) sz) (some (n, cs)) = some (.slice (some (h.next + 1, 0)) n none sz, (h.new (.cells [] .rw)).new (.cells cs .rw)) := by
  obtain ⟨n, rfl⟩ : ∃ m, n = m + 1 := ⟨n - 1, by omega⟩
  have g1 : (h.new (.cells [] .rw)).get h.next = some (.cells [] .rw) := h_new_same _ _
  have nx : (h.new (.cells [] .rw)).next = h.next + 1 := rfl
  obtain ⟨h1, e1⟩ : ∃ h1, h.new (.cells [] .rw) = h1 := ⟨_, rfl⟩
  rw [e1] at g1 nx ⊢
  unfold appendC
  simp only
  have r : (roomy (0 + (n + 1)) bts && (Nat.beq sz sz || (some (h.next, 0) : Option (Nat × Nat)).isNone) && cs.all plainV) = true := by
    rw [pl, ro]; simp
  have f : fullC (some 0) (0 + (n + 1)) = true := by
    show Nat.blt 0 (0 + (n + 1)) = true
    simp
  rw [r]
  simp only [_root_.cond_true, g1, f]
  have rd : readN ([] : List V) 0 (0 * sz) = some [] := by rw [Nat.zero_mul]; rfl
  simp only [rd, List.nil_append, Nat.zero_add, nx]

theorem part35 (cs : List V) (i j : Nat) (v : V) (f : Nat) (hf : f < 35) : ((cs.set (i * 35 + f) v).drop (j * 35)).take 35 = if j = i then ((cs.drop (j * 35)).take 35).set f v else (cs.drop (j * 35)).take 35 := by
  apply List.ext_getElem?
  intro k
  by_cases hk : k < 35
  · rw [List.getElem?_take_of_lt hk, List.getElem?_drop, List.getElem?_set]
    by_cases hj : j = i
    · rw [if_pos hj, List.getElem?_set, List.getElem?_take_of_lt hk, List.getElem?_drop, List.length_take, List.length_drop]
      subst hj
      by_cases hk2 : f = k
      · subst hk2
        rw [if_pos rfl, if_pos rfl]
        by_cases hl : j * 35 + f < cs.length
        · rw [if_pos hl, if_pos (by omega)]
        · rw [if_neg hl, if_neg (by omega)]
      · rw [if_neg (by omega), if_neg hk2]
    · rw [if_neg hj, if_neg (by omega), List.getElem?_take_of_lt hk, List.getElem?_drop]
  · have h1 : ((List.take 35 (List.drop (j * 35) (cs.set (i * 35 + f) v)))).length ≤ k := by rw [List.length_take]; omega
    rw [List.getElem?_eq_none h1]
    split
    · rw [List.getElem?_eq_none (by rw [List.length_set, List.length_take]; omega)]
    · rw [List.getElem?_eq_none (by rw [List.length_take]; omega)]
theorem iclone_go (e : E k_slices_Clone_api_In_api_In = some f_slices_Clone_api_In_api_In) (x : ∀ a h, X (.fn k_slices_Clone_api_In_api_In) a h = none) (N : Nat) (ops : List InQ) (hne : 0 < ops.length) (hl : ops.length ≤ 1000) (a : Option (Nat × Nat)) (c : Option Nat) (ez : Nat) (S : Nat → Prop) (h : H) (row : RowG S 35 InC h ops a ez) :
    ∃ cs, callX E X (N + 1) (.fn k_slices_Clone_api_In_api_In) [.slice a ops.length c ez] h = some (.slice (some (h.next + 1, 0)) ops.length none 35, (h.new (.cells [] .rw)).new (.cells cs .rw)) ∧ cs.length = ops.length * 35 ∧ ∀ i o, ops[i]? = some o → InC S h o ((cs.drop (i * 35)).take 35) := by
  rw [x_cfn e _ _ (Nat.le_of_ble_eq_true rfl) (x _ _)]
  rcases row with r | ⟨q, off, vs, md, rfl, rfl, hs, hq, g, hl', at_⟩
  · rw [r] at hne; cases hne
  have k1 : Kp h (h.new (.cells [] .rw)) := Kp.new _ _
  have sc := src_n (sz := 35) (off := off) (n := ops.length) (show (h.new (.cells [] .rw)).get q = some (.cells vs md) by rw [k1.2 _ hq, g]) hl' hne c
  obtain ⟨cs, ecs⟩ : ∃ cs, (vs.drop off).take (ops.length * 35) = cs := ⟨_, rfl⟩
  rw [ecs] at sc
  have lc : cs.length = ops.length * 35 := by rw [← ecs, List.length_take, List.length_drop]; omega
  have at2 : ∀ i o, ops[i]? = some o → InC S h o ((cs.drop (i * 35)).take 35) := fun i o ho => by
    have hi := (List.getElem?_eq_some_iff.1 ho).1
    rw [← ecs, List.drop_take, List.drop_drop, List.take_take, Nat.min_eq_left (by omega)]
    exact at_ i o ho
  have ap := app_row h 35 72 ops.length cs hne (by simp [roomy]; omega) (row_plain itIn ops cs lc at2)
  refine ⟨cs, ?_, lc, at2⟩
  have q0 := fun h => eqnil h (some (q, off)) ops.length c 35
  generalize ops.length = L at *
  simp (config := {maxSteps := 2000000}) (disch := first | omega | (simp only [List.length_cons, List.length_nil, List.length_append, List.length_drop]; omega)) only [q0, Option.isNone_some, sc, ap, ↓s_append, ↓x_buildS, x_buildE, ↓x_P0, x_fill0, s_res0, ↓s_skip, ↓s_ops, ↓s_seq, ↓s_cond, ↓s_ret, ↓s_nil, ↓s_op, ↓s_bindS, s_bindS, ↓s_bindE, s_bindE, s_norm, ↓s_condV, s_condV, ↓s_getp, ↓s_get, ↓s_con, ↓s_list0, ↓s_list1, ↓s_mov, ↓s_bin, s_same, s_end, s_res0, s_res1, s_tup1, ↓iteN_true, ↓iteN_false, iteN_true, iteN_false, Nat.reduceEqDiff, decide_true, decide_false]
  try rfl

theorem part2 (cs : List V) (i j : Nat) (v : V) (f : Nat) (hf : f < 2) : ((cs.set (i * 2 + f) v).drop (j * 2)).take 2 = if j = i then ((cs.drop (j * 2)).take 2).set f v else (cs.drop (j * 2)).take 2 := by
  apply List.ext_getElem?
  intro k
  by_cases hk : k < 2
  · rw [List.getElem?_take_of_lt hk, List.getElem?_drop, List.getElem?_set]
    by_cases hj : j = i
    · rw [if_pos hj, List.getElem?_set, List.getElem?_take_of_lt hk, List.getElem?_drop, List.length_take, List.length_drop]
      subst hj
      by_cases hk2 : f = k
      · subst hk2
        rw [if_pos rfl, if_pos rfl]
        by_cases hl : j * 2 + f < cs.length
        · rw [if_pos hl, if_pos (by omega)]
        · rw [if_neg hl, if_neg (by omega)]
      · rw [if_neg (by omega), if_neg hk2]
    · rw [if_neg hj, if_neg (by omega), List.getElem?_take_of_lt hk, List.getElem?_drop]
  · have h1 : ((List.take 2 (List.drop (j * 2) (cs.set (i * 2 + f) v)))).length ≤ k := by rw [List.length_take]; omega
    rw [List.getElem?_eq_none h1]
    split
    · rw [List.getElem?_eq_none (by rw [List.length_set, List.length_take]; omega)]
    · rw [List.getElem?_eq_none (by rw [List.length_take]; omega)]
theorem oclone_go (e : E k_slices_Clone_api_Out_api_Out = some f_slices_Clone_api_Out_api_Out) (x : ∀ a h, X (.fn k_slices_Clone_api_Out_api_Out) a h = none) (N : Nat) (ops : List OutQ) (hne : 0 < ops.length) (hl : ops.length ≤ 1000) (a : Option (Nat × Nat)) (c : Option Nat) (ez : Nat) (S : Nat → Prop) (h : H) (row : RowG S 2 OutC h ops a ez) :
    ∃ cs, callX E X (N + 1) (.fn k_slices_Clone_api_Out_api_Out) [.slice a ops.length c ez] h = some (.slice (some (h.next + 1, 0)) ops.length none 2, (h.new (.cells [] .rw)).new (.cells cs .rw)) ∧ cs.length = ops.length * 2 ∧ ∀ i o, ops[i]? = some o → OutC S h o ((cs.drop (i * 2)).take 2) := by
  rw [x_cfn e _ _ (Nat.le_of_ble_eq_true rfl) (x _ _)]
  rcases row with r | ⟨q, off, vs, md, rfl, rfl, hs, hq, g, hl', at_⟩
  · rw [r] at hne; cases hne
  have k1 : Kp h (h.new (.cells [] .rw)) := Kp.new _ _
  have sc := src_n (sz := 2) (off := off) (n := ops.length) (show (h.new (.cells [] .rw)).get q = some (.cells vs md) by rw [k1.2 _ hq, g]) hl' hne c
  obtain ⟨cs, ecs⟩ : ∃ cs, (vs.drop off).take (ops.length * 2) = cs := ⟨_, rfl⟩
  rw [ecs] at sc
  have lc : cs.length = ops.length * 2 := by rw [← ecs, List.length_take, List.length_drop]; omega
  have at2 : ∀ i o, ops[i]? = some o → OutC S h o ((cs.drop (i * 2)).take 2) := fun i o ho => by
    have hi := (List.getElem?_eq_some_iff.1 ho).1
    rw [← ecs, List.drop_take, List.drop_drop, List.take_take, Nat.min_eq_left (by omega)]
    exact at_ i o ho
  have ap := app_row h 2 32 ops.length cs hne (by simp [roomy]; omega) (row_plain itOut ops cs lc at2)
  refine ⟨cs, ?_, lc, at2⟩
  have q0 := fun h => eqnil h (some (q, off)) ops.length c 2
  generalize ops.length = L at *
  simp (config := {maxSteps := 2000000}) (disch := first | omega | (simp only [List.length_cons, List.length_nil, List.length_append, List.length_drop]; omega)) only [q0, Option.isNone_some, sc, ap, ↓s_append, ↓x_buildS, x_buildE, ↓x_P0, x_fill0, s_res0, ↓s_skip, ↓s_ops, ↓s_seq, ↓s_cond, ↓s_ret, ↓s_nil, ↓s_op, ↓s_bindS, s_bindS, ↓s_bindE, s_bindE, s_norm, ↓s_condV, s_condV, ↓s_getp, ↓s_get, ↓s_con, ↓s_list0, ↓s_list1, ↓s_mov, ↓s_bin, s_same, s_end, s_res0, s_res1, s_tup1, ↓iteN_true, ↓iteN_false, iteN_true, iteN_false, Nat.reduceEqDiff, decide_true, decide_false]
  try rfl
end Go.Eng
namespace Go.Eng
open Go
variable {E : Nat → Option Fn} {X : Orc}
set_option linter.unusedSimpArgs false
set_option linter.unusedVariables false
theorem inV_33 (o : InQ) (b : Option (Nat × Nat)) (cb : Option Nat) (eb : Nat) (l : o.tx.length = 32) : (inV o b cb eb)[33]? = some (.slice b o.l.length cb eb) := by
  unfold inV
  rw [List.getElem?_append_right (by rw [ofI_len]; omega), ofI_len, l]; rfl
theorem inV_s33 (o : InQ) (b b2 : Option (Nat × Nat)) (cb c2 : Option Nat) (eb e2 : Nat) (l : o.tx.length = 32) : (inV o b cb eb).set 33 (.slice b2 o.l.length c2 e2) = inV o b2 c2 e2 := by
  unfold inV
  rw [List.set_append_right _ _ (by rw [ofI_len]; omega), ofI_len, l]; rfl
theorem SrcS.nil {S : Nat → Prop} {h : H} {e : Nat} {l : List Nat} {a : Option (Nat × Nat)} (s : SrcS S h a e l) : a = none → l = [] := by
  intro h0
  rcases s with s | ⟨bi, off, vs, m, e1, _⟩
  · exact s
  · rw [h0] at e1; cases e1

structure CInI (p q n rc : Nat) (P : List V) (ops : List InQ) (hB : H) (i : Nat) (T : Tr V) (h : H) : Prop where
  t1 : evO T (.t 1) = .ptr (some (p, 0))
  t2 : evO T (.t 2) = .ptr (some (rc, 0))
  tn : evO T (.t 15) = .int .i64 (n : Int)
  ti : evO T (.t 16) = .int .i64 (i : Int)
  gp : h.get p = some (.cells P .rw)
  cs : ∃ cs, h.get q = some (.cells cs .rw) ∧ cs.length = n * 35 ∧ ∀ j o, ops[j]? = some o → (j < i → InC (fun k => hB.next ≤ k) h o ((cs.drop (j * 35)).take 35)) ∧ (i ≤ j → InC (fun k => k < hB.next ∧ k ≠ q) h o ((cs.drop (j * 35)).take 35))
  nx : hB.next ≤ h.next
  fr : ∀ j, j < hB.next → j ≠ q → h.get j = hB.get j
theorem cIn_round (e : E k_bytes_Clone = some f_bytes_Clone) (x : ∀ a h, X (.fn k_bytes_Clone) a h = none) (N m : Nat) (p q rc : Nat) (P : List V) (ops : List InQ) (hl : ops.length ≤ 1000) (sc : ∀ o ∈ ops, o.l.length ≤ 2100) (c0 : Option Nat) (hP : P[1]? = some (.slice (some (q, 0)) ops.length none 35)) (hB : H) (hq : q < hB.next) (hpq : p ≠ q) (hp : p < hB.next) (i : Nat) (hi : i < ops.length) (T : Tr V) (h : H) (I : CInI p q ops.length rc P ops hB i T h) :
    ∃ T' h', evC (callX E X (N + 1)) 52 m none L_tx_Copy_0 ⟨T, [], h⟩ = some (.normal, ⟨T', [], h'⟩) ∧ CInI p q ops.length rc P ops hB (i + 1) T' h' := by
  obtain ⟨t1, t2, tn, ti, gp, ⟨cs, gq, lc, at_⟩, nx, fr⟩ := I
  have ho := List.getElem?_eq_getElem hi
  obtain ⟨o, eo⟩ : ∃ o, ops[i] = o := ⟨_, rfl⟩
  rw [eo] at ho
  have mem := List.mem_of_getElem? ho
  obtain ⟨b, cb, eb, eP, ss, l32⟩ := (at_ i o ho).2 (Nat.le_refl _)
  have cg : cs[i * 35 + 33]? = some (.slice b o.l.length cb eb) := by
    have := congrArg (fun l => l[33]?) eP
    simp only [List.getElem?_take_of_lt (show 33 < 35 by omega), List.getElem?_drop] at this
    rw [this]; exact inV_33 o b cb eb l32
  obtain ⟨h1, b2, c2, e2, r1, k1, s1, w1⟩ := bclone_go e x N o.l (by have := sc o mem; omega) b cb eb h ss.src ss.nil
  have kn1 := k1.1
  have gp1 : h1.get p = some (.cells P .rw) := by rw [k1.2 _ (by omega), gp]
  have gq1 : h1.get q = some (.cells cs .rw) := by rw [k1.2 _ (by omega), gq]
  have hlt : i * 35 + 33 < cs.length := by omega
  have st : ∀ h i o', storeV h 1 (.ptr (some (i, o'))) (.slice b2 o.l.length c2 e2) = storeE (h.get i) h i o' [.slice b2 o.l.length c2 e2] := fun h i o' => m_storeV h 1 i o' _ rfl
  have se : ∀ h' i', storeE (some (.cells cs .rw)) h' i' (i * 35 + 33) [.slice b2 o.l.length c2 e2] = some (h'.put i' (.cells (cs.set (i * 35 + 33) (.slice b2 o.l.length c2 e2)) .rw)) := fun h' i' => by
    rw [m_storeE _ _ _ _ _ (by simp only [List.length_cons, List.length_nil]; omega), writeN_set]
    exact hlt
  have cc : decide ((i : Int) < (ops.length : Int)) = true := decide_eq_true (by omega)
  have wi : wr .i64 ((i : Int) + 1) = ((i + 1 : Nat) : Int) := by rw [wr_i64 (by omega)]; omega
  have ix : idx (i : Int) ops.length = some i := idxn hi
  obtain ⟨cs2, ec2⟩ : ∃ cs2, cs.set (i * 35 + 33) (.slice b2 o.l.length c2 e2) = cs2 := ⟨_, rfl⟩
  have parts := fun j => part35 cs i j (.slice b2 o.l.length c2 e2) 33 (by omega)
  rw [ec2] at se parts
  obtain ⟨h2, eh2⟩ : ∃ h2, h1.put q (.cells cs2 .rw) = h2 := ⟨_, rfl⟩
  have n2 : h2.next = h1.next := by rw [← eh2]; rfl
  have g2 : h2.get q = some (.cells cs2 .rw) := by rw [← eh2]; exact h_put_same _ _ _
  have f2 : ∀ j, j ≠ q → h2.get j = h1.get j := fun j hj => by rw [← eh2]; exact h_put_ne _ _ (Ne.symm hj)
  have lc2 : cs2.length = ops.length * 35 := by rw [← ec2, List.length_set, lc]
  have inv : ∀ j o', ops[j]? = some o' → (j < i + 1 → InC (fun k => hB.next ≤ k) h2 o' ((cs2.drop (j * 35)).take 35)) ∧ (i + 1 ≤ j → InC (fun k => k < hB.next ∧ k ≠ q) h2 o' ((cs2.drop (j * 35)).take 35)) := by
    intro j o' ho'
    rw [parts j]
    refine ⟨fun hj => ?_, fun hj => ?_⟩
    · by_cases hji : j = i
      · subst hji
        rw [ho] at ho'
        cases ho'
        rw [if_pos rfl, eP]
        refine ⟨b2, c2, e2, inV_s33 o b b2 cb c2 eb e2 l32, ?_, l32⟩
        have s3 := s1.toS (fun k => hB.next ≤ k) (fun q' z hz => by have := w1 q' z hz; omega)
        exact s3.mono2 (by omega) (fun k hk _ => f2 k (by omega)) (fun _ hk _ => hk)
      · rw [if_neg hji]
        exact itIn.mono ((at_ j o' ho').1 (by omega)) (by omega) (fun k hk hkn => by rw [f2 k (by omega), k1.2 _ hkn]) (fun _ hk _ => hk)
    · rw [if_neg (by omega)]
      exact itIn.mono ((at_ j o' ho').2 (by omega)) (by omega) (fun k hk hkn => by rw [f2 k hk.2, k1.2 _ hkn]) (fun _ hk _ => hk)
  have inv2 : ∃ cs, h2.get q = some (.cells cs .rw) ∧ cs.length = ops.length * 35 ∧ ∀ j o, ops[j]? = some o → (j < i + 1 → InC (fun k => hB.next ≤ k) h2 o ((cs.drop (j * 35)).take 35)) ∧ (i + 1 ≤ j → InC (fun k => k < hB.next ∧ k ≠ q) h2 o ((cs.drop (j * 35)).take 35)) := ⟨cs2, g2, lc2, inv⟩
  have gp2 : h2.get p = some (.cells P .rw) := by rw [f2 _ hpq, gp1]
  have fr2 : ∀ j, j < hB.next → j ≠ q → h2.get j = hB.get j := fun j h1' h2' => by rw [f2 _ h2', k1.2 _ (by omega), fr j h1' h2']
  clear inv parts at_
  obtain ⟨n, en⟩ : ∃ n, ops.length = n := ⟨_, rfl⟩
  rw [en] at tn hP cc ix inv2 ⊢
  generalize o.l.length = ol at *
  refine ⟨_, h2, by
    simp (config := {maxSteps := 2000000}) (disch := first | omega | (simp only [List.length_cons, List.length_nil, List.length_append, List.length_drop]; omega)) only [L_tx_Copy_0, t1, tn, ti, gp, gq, hP, cc, ix, cg, r1, gp1, gq1, st, se, eh2, wi, vbeq_slice, ↓x_fieldAddr, x_fieldV, Nat.zero_add, ↓s_evD, ↓s_dnil, ↓s_dL, ↓s_dR, ↓s_dRj, ↓s_dB, ↓s_bindD, s_bindD, s_finDx, s_addP0, ↓s_bump0, s_ok0, ↓s_ok1, s_okR0, ↓s_okR1, ↓s_okE, s_okE, s_okE1, s_nth0, s_nthS, Bool.and_self, ↓s_load, m_load, ↓m_load1, m_load1, ↓m_st, m_stE, ↓x_idxS, x_idxSE, x_addrE, ↓s_skip, ↓s_ops, ↓s_dops, ↓s_seq, ↓s_cond, ↓s_block, ↓s_nil, ↓s_op, ↓s_bindS, s_bindS, ↓s_bindE, s_bindE, s_norm, ↓s_condV, s_condV, s_block_normal, ↓s_getp, ↓s_getp0, ↓s_con, ↓s_os0, ↓s_os1, ↓s_mov, ↓s_bin, ↓s_call, s_same, b_lss, b_add, ↓iteN_true, ↓iteN_false, iteN_true, iteN_false, Nat.zero_add, Nat.reduceEqDiff, decide_true, decide_false]
    exact rfl, ⟨(by (simp only [s_getp, s_getp0, Nat.reduceEqDiff, decide_false, iteN_false, t1]; try rfl)), (by (simp only [s_getp, s_getp0, Nat.reduceEqDiff, decide_false, iteN_false, t2]; try rfl)), (by (simp only [s_getp, s_getp0, Nat.reduceEqDiff, decide_false, iteN_false, tn]; try rfl)), (by (simp only [s_getp, decide_true, iteN_true]; try rfl)), gp2, inv2, by omega, fr2⟩⟩

structure COutI (p q n rc : Nat) (P : List V) (ops : List OutQ) (hB : H) (i : Nat) (T : Tr V) (h : H) : Prop where
  t1 : evO T (.t 1) = .ptr (some (p, 0))
  t2 : evO T (.t 2) = .ptr (some (rc, 0))
  tn : evO T (.t 34) = .int .i64 (n : Int)
  ti : evO T (.t 35) = .int .i64 (i : Int)
  gp : h.get p = some (.cells P .rw)
  cs : ∃ cs, h.get q = some (.cells cs .rw) ∧ cs.length = n * 2 ∧ ∀ j o, ops[j]? = some o → (j < i → OutC (fun k => hB.next ≤ k) h o ((cs.drop (j * 2)).take 2)) ∧ (i ≤ j → OutC (fun k => k < hB.next ∧ k ≠ q) h o ((cs.drop (j * 2)).take 2))
  nx : hB.next ≤ h.next
  fr : ∀ j, j < hB.next → j ≠ q → h.get j = hB.get j
theorem cOut_round (e : E k_bytes_Clone = some f_bytes_Clone) (x : ∀ a h, X (.fn k_bytes_Clone) a h = none) (N m : Nat) (p q rc : Nat) (P : List V) (ops : List OutQ) (hl : ops.length ≤ 1000) (sc : ∀ o ∈ ops, o.l.length ≤ 2100) (c0 : Option Nat) (hP : P[2]? = some (.slice (some (q, 0)) ops.length none 2)) (hB : H) (hq : q < hB.next) (hpq : p ≠ q) (hp : p < hB.next) (i : Nat) (hi : i < ops.length) (T : Tr V) (h : H) (I : COutI p q ops.length rc P ops hB i T h) :
    ∃ T' h', evC (callX E X (N + 1)) 52 m none L_tx_Copy_1 ⟨T, [], h⟩ = some (.normal, ⟨T', [], h'⟩) ∧ COutI p q ops.length rc P ops hB (i + 1) T' h' := by
  obtain ⟨t1, t2, tn, ti, gp, ⟨cs, gq, lc, at_⟩, nx, fr⟩ := I
  have ho := List.getElem?_eq_getElem hi
  obtain ⟨o, eo⟩ : ∃ o, ops[i] = o := ⟨_, rfl⟩
  rw [eo] at ho
  have mem := List.mem_of_getElem? ho
  obtain ⟨b, cb, eb, eP, ss⟩ := (at_ i o ho).2 (Nat.le_refl _)
  have cg : cs[i * 2 + 1]? = some (.slice b o.l.length cb eb) := by
    have := congrArg (fun l => l[1]?) eP
    simp only [List.getElem?_take_of_lt (show 1 < 2 by omega), List.getElem?_drop] at this
    rw [this]; rfl
  obtain ⟨h1, b2, c2, e2, r1, k1, s1, w1⟩ := bclone_go e x N o.l (by have := sc o mem; omega) b cb eb h ss.src ss.nil
  have kn1 := k1.1
  have gp1 : h1.get p = some (.cells P .rw) := by rw [k1.2 _ (by omega), gp]
  have gq1 : h1.get q = some (.cells cs .rw) := by rw [k1.2 _ (by omega), gq]
  have hlt : i * 2 + 1 < cs.length := by omega
  have st : ∀ h i o', storeV h 1 (.ptr (some (i, o'))) (.slice b2 o.l.length c2 e2) = storeE (h.get i) h i o' [.slice b2 o.l.length c2 e2] := fun h i o' => m_storeV h 1 i o' _ rfl
  have se : ∀ h' i', storeE (some (.cells cs .rw)) h' i' (i * 2 + 1) [.slice b2 o.l.length c2 e2] = some (h'.put i' (.cells (cs.set (i * 2 + 1) (.slice b2 o.l.length c2 e2)) .rw)) := fun h' i' => by
    rw [m_storeE _ _ _ _ _ (by simp only [List.length_cons, List.length_nil]; omega), writeN_set]
    exact hlt
  have cc : decide ((i : Int) < (ops.length : Int)) = true := decide_eq_true (by omega)
  have wi : wr .i64 ((i : Int) + 1) = ((i + 1 : Nat) : Int) := by rw [wr_i64 (by omega)]; omega
  have ix : idx (i : Int) ops.length = some i := idxn hi
  obtain ⟨cs2, ec2⟩ : ∃ cs2, cs.set (i * 2 + 1) (.slice b2 o.l.length c2 e2) = cs2 := ⟨_, rfl⟩
  have parts := fun j => part2 cs i j (.slice b2 o.l.length c2 e2) 1 (by omega)
  rw [ec2] at se parts
  obtain ⟨h2, eh2⟩ : ∃ h2, h1.put q (.cells cs2 .rw) = h2 := ⟨_, rfl⟩
  have n2 : h2.next = h1.next := by rw [← eh2]; rfl
  have g2 : h2.get q = some (.cells cs2 .rw) := by rw [← eh2]; exact h_put_same _ _ _
  have f2 : ∀ j, j ≠ q → h2.get j = h1.get j := fun j hj => by rw [← eh2]; exact h_put_ne _ _ (Ne.symm hj)
  have lc2 : cs2.length = ops.length * 2 := by rw [← ec2, List.length_set, lc]
  have inv : ∀ j o', ops[j]? = some o' → (j < i + 1 → OutC (fun k => hB.next ≤ k) h2 o' ((cs2.drop (j * 2)).take 2)) ∧ (i + 1 ≤ j → OutC (fun k => k < hB.next ∧ k ≠ q) h2 o' ((cs2.drop (j * 2)).take 2)) := by
    intro j o' ho'
    rw [parts j]
    refine ⟨fun hj => ?_, fun hj => ?_⟩
    · by_cases hji : j = i
      · subst hji
        rw [ho] at ho'
        cases ho'
        rw [if_pos rfl, eP]
        refine ⟨b2, c2, e2, rfl, ?_⟩
        have s3 := s1.toS (fun k => hB.next ≤ k) (fun q' z hz => by have := w1 q' z hz; omega)
        exact s3.mono2 (by omega) (fun k hk _ => f2 k (by omega)) (fun _ hk _ => hk)
      · rw [if_neg hji]
        exact itOut.mono ((at_ j o' ho').1 (by omega)) (by omega) (fun k hk hkn => by rw [f2 k (by omega), k1.2 _ hkn]) (fun _ hk _ => hk)
    · rw [if_neg (by omega)]
      exact itOut.mono ((at_ j o' ho').2 (by omega)) (by omega) (fun k hk hkn => by rw [f2 k hk.2, k1.2 _ hkn]) (fun _ hk _ => hk)
  have inv2 : ∃ cs, h2.get q = some (.cells cs .rw) ∧ cs.length = ops.length * 2 ∧ ∀ j o, ops[j]? = some o → (j < i + 1 → OutC (fun k => hB.next ≤ k) h2 o ((cs.drop (j * 2)).take 2)) ∧ (i + 1 ≤ j → OutC (fun k => k < hB.next ∧ k ≠ q) h2 o ((cs.drop (j * 2)).take 2)) := ⟨cs2, g2, lc2, inv⟩
  have gp2 : h2.get p = some (.cells P .rw) := by rw [f2 _ hpq, gp1]
  have fr2 : ∀ j, j < hB.next → j ≠ q → h2.get j = hB.get j := fun j h1' h2' => by rw [f2 _ h2', k1.2 _ (by omega), fr j h1' h2']
  clear inv parts at_
  obtain ⟨n, en⟩ : ∃ n, ops.length = n := ⟨_, rfl⟩
  rw [en] at tn hP cc ix inv2 ⊢
  generalize o.l.length = ol at *
  refine ⟨_, h2, by
    simp (config := {maxSteps := 2000000}) (disch := first | omega | (simp only [List.length_cons, List.length_nil, List.length_append, List.length_drop]; omega)) only [L_tx_Copy_1, t1, tn, ti, gp, gq, hP, cc, ix, cg, r1, gp1, gq1, st, se, eh2, wi, vbeq_slice, ↓x_fieldAddr, x_fieldV, Nat.zero_add, ↓s_evD, ↓s_dnil, ↓s_dL, ↓s_dR, ↓s_dRj, ↓s_dB, ↓s_bindD, s_bindD, s_finDx, s_addP0, ↓s_bump0, s_ok0, ↓s_ok1, s_okR0, ↓s_okR1, ↓s_okE, s_okE, s_okE1, s_nth0, s_nthS, Bool.and_self, ↓s_load, m_load, ↓m_load1, m_load1, ↓m_st, m_stE, ↓x_idxS, x_idxSE, x_addrE, ↓s_skip, ↓s_ops, ↓s_dops, ↓s_seq, ↓s_cond, ↓s_block, ↓s_nil, ↓s_op, ↓s_bindS, s_bindS, ↓s_bindE, s_bindE, s_norm, ↓s_condV, s_condV, s_block_normal, ↓s_getp, ↓s_getp0, ↓s_con, ↓s_os0, ↓s_os1, ↓s_mov, ↓s_bin, ↓s_call, s_same, b_lss, b_add, ↓iteN_true, ↓iteN_false, iteN_true, iteN_false, Nat.zero_add, Nat.reduceEqDiff, decide_true, decide_false]
    exact rfl, ⟨(by (simp only [s_getp, s_getp0, Nat.reduceEqDiff, decide_false, iteN_false, t1]; try rfl)), (by (simp only [s_getp, s_getp0, Nat.reduceEqDiff, decide_false, iteN_false, t2]; try rfl)), (by (simp only [s_getp, s_getp0, Nat.reduceEqDiff, decide_false, iteN_false, tn]; try rfl)), (by (simp only [s_getp, decide_true, iteN_true]; try rfl)), gp2, inv2, by omega, fr2⟩⟩
end Go.Eng
namespace Go.Eng
open Go
variable {E : Nat → Option Fn} {X : Orc}
set_option linter.unusedSimpArgs false
set_option linter.unusedVariables false
structure EnCp (E : Nat → Option Fn) : Prop where
  cp : E k_tx_Copy = some f_tx_Copy
  ci : E k_slices_Clone_api_In_api_In = some f_slices_Clone_api_In_api_In
  co : E k_slices_Clone_api_Out_api_Out = some f_slices_Clone_api_Out_api_Out
  cl : E k_bytes_Clone = some f_bytes_Clone
structure NoCp (X : Orc) : Prop where
  cp : ∀ a h, X (.fn k_tx_Copy) a h = none
  ci : ∀ a h, X (.fn k_slices_Clone_api_In_api_In) a h = none
  co : ∀ a h, X (.fn k_slices_Clone_api_Out_api_Out) a h = none
  cl : ∀ a h, X (.fn k_bytes_Clone) a h = none
structure CpH (h h' : H) (t : TxQ) (q r : Nat) (cs ds : List V) : Prop where
  q1 : h.next ≤ q
  r1 : h.next ≤ r
  qr : q ≠ r
  q2 : q < h'.next
  r2 : r < h'.next
  gq : h'.get q = some (.cells cs .rw)
  gr : h'.get r = some (.cells ds .rw)
  lc : cs.length = t.ins.length * 35
  ld : ds.length = t.outs.length * 2
  ai : ∀ i o, t.ins[i]? = some o → InC (fun j => h.next ≤ j ∧ j ≠ q ∧ j ≠ r) h' o ((cs.drop (i * 35)).take 35)
  ao : ∀ i o, t.outs[i]? = some o → OutC (fun j => h.next ≤ j ∧ j ≠ q ∧ j ≠ r) h' o ((ds.drop (i * 2)).take 2)
set_option maxHeartbeats 100000000 in
theorem txcopy_go (e : EnCp E) (x : NoCp X) (N : Nat) (hN : 1000 < N) (t : TxQ) (g : gtOk t) (ni : 0 < t.ins.length) (no : 0 < t.outs.length) (P : List V) (h : H) (tc : TxC (fun j => j < h.next) h t P) :
    ∃ h' cs ds, callX E X (N + 2) (.fn k_tx_Copy) [.agg P] h = some (.agg (txV t (some (h.next + 3, 0)) (some (h.next + 5, 0)) none none 35 2), h') ∧ Kp h h' ∧ CpH h h' t (h.next + 3) (h.next + 5) cs ds := by
  rw [x_cfn e.cp _ _ (Nat.le_of_ble_eq_true rfl) (x.cp _ _)]
  rw [show ([.int .u32 0, .slice none 0 (some 0) 0, .slice none 0 (some 0) 0, .int .u32 0] : List V) = Z4 from rfl]
  have ca' : ∀ l : List V, (V.agg l).cells = l := fun _ => rfl
  obtain ⟨hb, ehb⟩ : ∃ hb, (h.new (.cells P .rw)).new (.cells Z4 .rw) = hb := ⟨_, rfl⟩
  have kb : Kp h hb := by rw [← ehb]; (repeat (first | exact Kp.refl _ | refine Kp.put ?_ _ (by first | omega | (simp only [h_next_put, h_next_new, h_next_del]; omega)) | refine Kp.del ?_ (by first | omega | (simp only [h_next_put, h_next_new, h_next_del]; omega)) | refine Kp.trans ?_ (Kp.new _ _)))
  have nb : hb.next = h.next + 2 := by rw [← ehb]; rfl
  have g0 : hb.get h.next = some (.cells P .rw) := by rw [← ehb]; (simp (disch := omega) only [h_new_get, h_next_new, Nat.add_eq_left, decide_true, decide_false, iteN_true, iteN_false, reduceCtorEq, ]; try rfl)
  have gz : hb.get (h.next + 1) = some (.cells Z4 .rw) := by rw [← ehb]; (simp (disch := omega) only [h_new_get, h_next_new, decide_true, iteN_true, ]; try rfl)
  have tcb : TxC (fun j => j < h.next) hb t P := itTx.mono tc kb.1 (fun j _ hj => kb.2 _ hj) (fun _ hj _ => hj)
  obtain ⟨a, b, ca, cb, ea, eb, eP, ra, rb⟩ := tcb
  obtain ⟨gi, go_, si, so⟩ := g
  obtain ⟨cs0, c1, lc0, at0⟩ := iclone_go e.ci x.ci N t.ins ni (by omega) a ca ea (fun j => j < h.next) hb ra
  obtain ⟨h1, eh1⟩ : ∃ h1, (hb.new (.cells [] .rw)).new (.cells cs0 .rw) = h1 := ⟨_, rfl⟩
  rw [eh1] at c1
  have k1 : Kp hb h1 := by rw [← eh1]; (repeat (first | exact Kp.refl _ | refine Kp.put ?_ _ (by first | omega | (simp only [h_next_put, h_next_new, h_next_del]; omega)) | refine Kp.del ?_ (by first | omega | (simp only [h_next_put, h_next_new, h_next_del]; omega)) | refine Kp.trans ?_ (Kp.new _ _)))
  have n1 : h1.next = hb.next + 2 := by rw [← eh1]; rfl
  obtain ⟨q, eq⟩ : ∃ q, hb.next + 1 = q := ⟨_, rfl⟩
  rw [eq] at c1
  have gq1 : h1.get q = some (.cells cs0 .rw) := by rw [← eh1, ← eq]; (simp (disch := omega) only [h_new_get, h_next_new, decide_true, iteN_true, ]; try rfl)
  have rb1 : RowG (fun j => j < h.next) 2 OutC h1 t.outs b eb := rb.mono2 itOut k1.1 (fun j hj hn => k1.2 _ hn) (fun _ hj _ => hj)
  obtain ⟨ds0, c2, ld0, bt0⟩ := oclone_go e.co x.co N t.outs no (by omega) b cb eb (fun j => j < h.next) h1 rb1
  obtain ⟨h2, eh2⟩ : ∃ h2, (h1.new (.cells [] .rw)).new (.cells ds0 .rw) = h2 := ⟨_, rfl⟩
  rw [eh2] at c2
  have k2 : Kp h1 h2 := by rw [← eh2]; (repeat (first | exact Kp.refl _ | refine Kp.put ?_ _ (by first | omega | (simp only [h_next_put, h_next_new, h_next_del]; omega)) | refine Kp.del ?_ (by first | omega | (simp only [h_next_put, h_next_new, h_next_del]; omega)) | refine Kp.trans ?_ (Kp.new _ _)))
  have n2 : h2.next = h1.next + 2 := by rw [← eh2]; rfl
  obtain ⟨r, er⟩ : ∃ r, h1.next + 1 = r := ⟨_, rfl⟩
  rw [er] at c2
  have gr2 : h2.get r = some (.cells ds0 .rw) := by rw [← eh2, ← er]; (simp (disch := omega) only [h_new_get, h_next_new, decide_true, iteN_true, ]; try rfl)
  have gq2 : h2.get q = some (.cells cs0 .rw) := by rw [k2.2 _ (by omega), gq1]
  have g1 : h1.get h.next = some (.cells P .rw) := by rw [k1.2 _ (by omega), g0]
  have g2 : h2.get h.next = some (.cells P .rw) := by rw [k2.2 _ (by omega), g1]
  have g2z : h2.get (h.next + 1) = some (.cells Z4 .rw) := by rw [k2.2 _ (by omega), k1.2 _ (by omega), gz]
  obtain ⟨h4, eh4⟩ : ∃ h4, (h2.put h.next (.cells [.int .u32 (t.ver : Int), .slice (some (q, 0)) t.ins.length none 35, .slice b t.outs.length cb eb, .int .u32 (t.lock : Int)] .rw)).put h.next (.cells [.int .u32 (t.ver : Int), .slice (some (q, 0)) t.ins.length none 35, .slice (some (r, 0)) t.outs.length none 2, .int .u32 (t.lock : Int)] .rw) = h4 := ⟨_, rfl⟩
  have n4 : h4.next = h2.next := by rw [← eh4]; rfl
  have g4 : h4.get h.next = some (.cells (txV t (some (q, 0)) (some (r, 0)) none none 35 2) .rw) := by rw [← eh4]; exact h_put_same _ _ _
  have f4 : ∀ j, j ≠ h.next → h4.get j = h2.get j := fun j hj => by rw [← eh4, h_put_ne _ _ (Ne.symm hj), h_put_ne _ _ (Ne.symm hj)]
  have F4 : ∀ j, j < h.next → h4.get j = h.get j := fun j hj => by rw [f4 _ (by omega), k2.2 _ (by omega), k1.2 _ (by omega), kb.2 _ hj]
  obtain ⟨P2, eP2⟩ : ∃ P2, txV t (some (q, 0)) (some (r, 0)) none none 35 2 = P2 := ⟨_, rfl⟩
  have p1 : P2[1]? = some (.slice (some (q, 0)) t.ins.length none 35) := by rw [← eP2]; rfl
  have p2 : P2[2]? = some (.slice (some (r, 0)) t.outs.length none 2) := by rw [← eP2]; rfl
  have fP : Fit 4 P2 := by rw [← eP2]; exact ⟨rfl, rfl⟩
  rw [eP2] at g4
  have fin : ∀ T, CInI h.next q t.ins.length (h.next + 1) P2 t.ins h4 0 T h4 → ∃ h' cs ds, fnEnd [.cell 2 (some 4)] (bindE (blockE 0 (loopN (evC (callX E X (N + 1)) 52 (N + 1) none L_tx_Copy_0) (N + 1) ⟨T, [], h4⟩)) (evC (callX E X (N + 1)) 52 (N + 1) none R_tx_Copy_1)) = some (.agg P2, h') ∧ Kp h h' ∧ CpH h h' t q r cs ds := by
    intro T I
    obtain ⟨T5, h5, rr, J⟩ := loop_go (f := evC (callX E X (N + 1)) 52 (N + 1) none L_tx_Copy_0) (CInI h.next q t.ins.length (h.next + 1) P2 t.ins h4) t.ins.length (.exit 0) (by intro h; cases h) (CInI h.next q t.ins.length (h.next + 1) P2 t.ins h4 t.ins.length) (fun i T h' hi I => cIn_round e.cl x.cl N (N + 1) h.next q (h.next + 1) P2 t.ins (by omega) si none p1 h4 (by omega) (by omega) (by omega) i hi T h' I) (fun T h' I => by
      obtain ⟨t1, t2, tn, ti, gp, cc, nx, fr⟩ := I
      have c0 : decide ((t.ins.length : Int) < (t.ins.length : Int)) = false := decide_eq_false (by omega)
      obtain ⟨n, en⟩ : ∃ n, t.ins.length = n := ⟨_, rfl⟩
      rw [en] at tn ti c0 cc ⊢
      exact ⟨_, h', by
        simp (config := {maxSteps := 2000000}) (disch := first | omega | (simp only [List.length_cons, List.length_nil, List.length_append, List.length_drop]; omega)) only [L_tx_Copy_0, tn, ti, c0, ↓s_ops, ↓s_seq, ↓s_cond, ↓s_exit, ↓s_nil, ↓s_op, ↓s_bindS, s_bindS, ↓s_bindE, s_bindE, s_bindE_exit, s_norm, ↓s_condV, s_condV, ↓s_getp, ↓s_bin, s_same, b_lss, ↓iteN_true, ↓iteN_false, iteN_true, iteN_false, decide_true]
        exact rfl, ⟨(by (simp only [s_getp, Nat.reduceEqDiff, decide_false, iteN_false, t1]; try rfl)), (by (simp only [s_getp, Nat.reduceEqDiff, decide_false, iteN_false, t2]; try rfl)), (by (simp only [s_getp, Nat.reduceEqDiff, decide_false, iteN_false, tn]; try rfl)), (by (simp only [s_getp, Nat.reduceEqDiff, decide_false, iteN_false, ti]; try rfl)), gp, cc, nx, fr⟩⟩) t.ins.length 0 (by omega) (N + 1) (by omega) T h4 I
    rw [rr]
    obtain ⟨t1, t2, tn, ti, g5, ⟨cs, gq5, lc5, at5⟩, nx5, fr5⟩ := J
    have gr5 : h5.get r = some (.cells ds0 .rw) := by rw [fr5 _ (by omega) (by omega), f4 _ (by omega), gr2]
    have fin1 : ∀ T, COutI h.next r t.outs.length (h.next + 1) P2 t.outs h5 0 T h5 → ∃ h' ds, fnEnd [.cell 2 (some 4)] (bindE (blockE 2 (loopN (evC (callX E X (N + 1)) 52 (N + 1) none L_tx_Copy_1) (N + 1) ⟨T, [], h5⟩)) (evC (callX E X (N + 1)) 52 (N + 1) none R_tx_Copy_0)) = some (.agg P2, h') ∧ Kp h h' ∧ CpH h h' t q r cs ds := by
      intro T I
      obtain ⟨T6, h6, rr, J⟩ := loop_go (f := evC (callX E X (N + 1)) 52 (N + 1) none L_tx_Copy_1) (COutI h.next r t.outs.length (h.next + 1) P2 t.outs h5) t.outs.length (.exit 2) (by intro h; cases h) (COutI h.next r t.outs.length (h.next + 1) P2 t.outs h5 t.outs.length) (fun i T h' hi I => cOut_round e.cl x.cl N (N + 1) h.next r (h.next + 1) P2 t.outs (by omega) so none p2 h5 (by omega) (by omega) (by omega) i hi T h' I) (fun T h' I => by
        obtain ⟨t1, t2, tn, ti, gp, cc, nx, fr⟩ := I
        have c0 : decide ((t.outs.length : Int) < (t.outs.length : Int)) = false := decide_eq_false (by omega)
        obtain ⟨n, en⟩ : ∃ n, t.outs.length = n := ⟨_, rfl⟩
        rw [en] at tn ti c0 cc ⊢
        exact ⟨_, h', by
          simp (config := {maxSteps := 2000000}) (disch := first | omega | (simp only [List.length_cons, List.length_nil, List.length_append, List.length_drop]; omega)) only [L_tx_Copy_1, tn, ti, c0, ↓s_ops, ↓s_seq, ↓s_cond, ↓s_exit, ↓s_nil, ↓s_op, ↓s_bindS, s_bindS, ↓s_bindE, s_bindE, s_bindE_exit, s_norm, ↓s_condV, s_condV, ↓s_getp, ↓s_bin, s_same, b_lss, ↓iteN_true, ↓iteN_false, iteN_true, iteN_false, decide_true]
          exact rfl, ⟨(by (simp only [s_getp, Nat.reduceEqDiff, decide_false, iteN_false, t1]; try rfl)), (by (simp only [s_getp, Nat.reduceEqDiff, decide_false, iteN_false, t2]; try rfl)), (by (simp only [s_getp, Nat.reduceEqDiff, decide_false, iteN_false, tn]; try rfl)), (by (simp only [s_getp, Nat.reduceEqDiff, decide_false, iteN_false, ti]; try rfl)), gp, cc, nx, fr⟩⟩) t.outs.length 0 (by omega) (N + 1) (by omega) T h5 I
      rw [rr]
      obtain ⟨t1, t2, _, _, g6, ⟨ds, gr6, ld6, bt6⟩, nx6, fr6⟩ := J
      have gz6 : h6.get (h.next + 1) = some (.cells Z4 .rw) := by rw [fr6 _ (by omega) (by omega), fr5 _ (by omega) (by omega), f4 _ (by omega), g2z]
      have st := fun h i => fit_st fP h i
      have pu := fun h i => fit_put fP h i Z4 rfl
      have ld := fun m => fit_ld fP m
      obtain ⟨h7, eh7⟩ : ∃ h7, h6.put (h.next + 1) (.cells P2 .rw) = h7 := ⟨_, rfl⟩
      have n7 : h7.next = h6.next := by rw [← eh7]; rfl
      have f7 : ∀ j, j ≠ h.next + 1 → h7.get j = h6.get j := fun j hj => by rw [← eh7, h_put_ne _ _ (Ne.symm hj)]
      have g7 : h7.get (h.next + 1) = some (.cells P2 .rw) := by rw [← eh7]; exact h_put_same _ _ _
      refine ⟨h7, ds, ?_, ⟨by omega, fun j hj => by rw [f7 _ (by omega), fr6 _ (by omega) (by omega), fr5 _ (by omega) (by omega), F4 _ hj]⟩, ⟨by omega, by omega, by omega, by omega, by omega, by rw [f7 _ (by omega), fr6 _ (by omega) (by omega), gq5], by rw [f7 _ (by omega), gr6], lc5, ld6, fun i o ho => ?_, fun i o ho => ?_⟩⟩
      · generalize Z4 = z4 at *
        simp (config := {maxSteps := 2000000}) (disch := first | omega | (simp only [List.length_cons, List.length_nil, List.length_append, List.length_drop]; omega)) only [R_tx_Copy_0, t1, t2, g6, ld, gz6, st, pu, eh7, g7, ↓s_load, m_load, ↓m_st, m_stE, s_resc, s_consR, s_res0, ↓s_ops, ↓s_seq, ↓s_ret, ↓s_nil, ↓s_op, ↓s_bindS, s_bindS, ↓s_bindE, s_bindE, s_norm, s_block_exit, ↓s_getp, ↓s_getp0, s_same, s_end, s_res0, s_tup1, ↓iteN_true, ↓iteN_false, iteN_true, iteN_false, Nat.reduceEqDiff, decide_true, decide_false, if_true]
        try rfl
      · have hi := (List.getElem?_eq_some_iff.1 ho).1
        refine itIn.mono ((at5 i o ho).1 hi) (by omega) (fun j hj hn => ?_) (fun j hj _ => by refine ⟨?_, ?_, ?_⟩ <;> omega)
        rw [f7 _ (by omega), fr6 _ hn (by omega)]
      · have hi := (List.getElem?_eq_some_iff.1 ho).1
        refine itOut.mono ((bt6 i o ho).1 hi) (by omega) (fun j hj hn => ?_) (fun j hj _ => by refine ⟨?_, ?_, ?_⟩ <;> omega)
        rw [f7 _ (by omega)]
    have inv5 : ∃ cs, h5.get r = some (.cells cs .rw) ∧ cs.length = t.outs.length * 2 ∧ ∀ j o, t.outs[j]? = some o → (j < 0 → OutC (fun k => h5.next ≤ k) h5 o ((cs.drop (j * 2)).take 2)) ∧ (0 ≤ j → OutC (fun k => k < h5.next ∧ k ≠ r) h5 o ((cs.drop (j * 2)).take 2)) := by
      refine ⟨ds0, gr5, ld0, fun j o ho => ⟨fun hj => absurd hj (Nat.not_lt_zero _), fun _ => ?_⟩⟩
      refine itOut.mono (bt0 j o ho) (by omega) (fun k hk _ => ?_) (fun k hk _ => by refine ⟨?_, ?_⟩ <;> omega)
      rw [fr5 _ (by omega) (by omega), F4 _ hk, k1.2 _ (by omega), kb.2 _ hk]
    obtain ⟨R, eR⟩ : ∃ R, R_tx_Copy_0 = R := ⟨_, rfl⟩
    obtain ⟨Lo, eL⟩ : ∃ R, L_tx_Copy_1 = R := ⟨_, rfl⟩
    rw [eR, eL] at fin1
    have fin1' : ∀ T, _ → _ → _ → _ → ∃ h' cs ds, _ ∧ Kp h h' ∧ CpH h h' t q r cs ds := fun T q1 q2 qn qi => let ⟨h', ds, hh⟩ := fin1 T ⟨q1, q2, qn, qi, g5, inv5, Nat.le_refl _, fun _ _ _ => rfl⟩; ⟨h', cs, ds, hh⟩
    clear fin1
    obtain ⟨n, en⟩ : ∃ n, t.outs.length = n := ⟨_, rfl⟩
    rw [en] at p2 fin1'
    simp (config := {maxSteps := 2000000}) (disch := first | omega | (simp only [List.length_cons, List.length_nil, List.length_append, List.length_drop]; omega)) only [R_tx_Copy_1, eR, eL, t1, g5, p2, ↓s_len, x_lenS, ↓x_fieldAddr, x_fieldV, Nat.zero_add, ↓l_loop, ↓l_succ, ↓s_load, m_load, ↓m_load1, m_load1, x_lenS, ↓s_len, ↓s_ops, ↓s_seq, ↓s_block, ↓s_nil, ↓s_op, ↓s_bindS, s_bindS, ↓s_bindE, s_bindE, s_norm, s_block_exit, ↓s_getp, ↓s_con, ↓s_mov, s_same, ↓iteN_true, iteN_true, Nat.zero_add, decide_true, if_true]
    exact fin1' _ (by (simp only [s_getp, Nat.reduceEqDiff, decide_false, iteN_false, t1]; try rfl)) (by (simp only [s_getp, Nat.reduceEqDiff, decide_false, iteN_false, t2]; try rfl)) (by (simp only [s_getp, Nat.reduceEqDiff, decide_false, decide_true, iteN_false, iteN_true]; try rfl)) (by (simp only [s_getp, decide_true, iteN_true]; try rfl))
  have inv4 : ∃ cs, h4.get q = some (.cells cs .rw) ∧ cs.length = t.ins.length * 35 ∧ ∀ j o, t.ins[j]? = some o → (j < 0 → InC (fun k => h4.next ≤ k) h4 o ((cs.drop (j * 35)).take 35)) ∧ (0 ≤ j → InC (fun k => k < h4.next ∧ k ≠ q) h4 o ((cs.drop (j * 35)).take 35)) := by
    refine ⟨cs0, by rw [f4 _ (by omega), gq2], lc0, fun j o ho => ⟨fun hj => absurd hj (Nat.not_lt_zero _), fun _ => ?_⟩⟩
    refine itIn.mono (at0 j o ho) (by omega) (fun k hk _ => ?_) (fun k hk _ => by refine ⟨?_, ?_⟩ <;> omega)
    rw [F4 _ hk, kb.2 _ hk]
  obtain ⟨R, eR⟩ : ∃ R, R_tx_Copy_1 = R := ⟨_, rfl⟩
  obtain ⟨Lo, eL⟩ : ∃ R, L_tx_Copy_0 = R := ⟨_, rfl⟩
  rw [eR, eL] at fin ⊢
  have fin' := fun T q1 q2 qn qi => fin T ⟨q1, q2, qn, qi, g4, inv4, Nat.le_refl _, fun _ _ _ => rfl⟩
  clear fin
  have eq3 : h.next + 3 = q := by omega
  have er5 : h.next + 5 = r := by omega
  rw [eq3, er5, eP2]
  unfold txV at eP
  rw [eP] at g0 g1 g2
  have stS : ∀ h i o' (a : Option (Nat × Nat)) n c e', storeV h 1 (.ptr (some (i, o'))) (.slice a n c e') = storeE (h.get i) h i o' [.slice a n c e'] := fun h i o' a n c e' => m_storeV h 1 i o' _ rfl
  obtain ⟨n, en⟩ : ∃ n, t.ins.length = n := ⟨_, rfl⟩
  obtain ⟨m, em⟩ : ∃ n, t.outs.length = n := ⟨_, rfl⟩
  rw [en] at c1 eh4 p1 g0 g1 g2 fin'
  rw [em] at c2 eh4 g0 g1 g2
  rw [eP, en, em] at ehb
  rw [eP, en, em]
  generalize Z4 = z4 at *
  generalize V.int .u32 (t.ver : Int) = vv at *
  generalize V.int .u32 (t.lock : Int) = vl at *
  simp (config := {maxSteps := 2000000}) (disch := first | omega | (simp only [List.length_cons, List.length_nil, List.length_append, List.length_drop]; omega)) only [ca', ehb, g0, c1, g1, c2, g2, stS, eh4, g4, p1, ↓s_box, ↓s_len, x_lenS, vbeq_slice, ↓x_fieldAddr, x_fieldV, Nat.zero_add, ↓s_evD, ↓s_dnil, ↓s_dL, ↓s_dR, ↓s_dRj, ↓s_dB, ↓s_bindD, s_bindD, s_finDx, s_addP0, ↓s_bump0, s_ok0, ↓s_ok1, s_okR0, ↓s_okR1, ↓s_okE, s_okE, s_okE1, s_nth0, s_nthS, Bool.and_self, ↓l_loop, ↓l_succ, ↓h_put_get, h_next_new, ↓s_load, m_load, ↓m_load1, m_load1, ↓m_st, m_stE, m_storeE, w_zero, w_succ, ↓s_alloc, x_lenS, ↓s_len, List.length_cons, List.length_nil, List.cons_append, List.drop_succ_cons, List.drop_zero, List.nil_append, ↓s_ops, ↓s_dops, ↓s_seq, ↓s_block, ↓s_nil, ↓s_op, ↓s_bindS, s_bindS, ↓s_bindE, s_bindE, s_norm, ↓s_getp, ↓s_getp0, ↓s_get, ↓s_con, ↓s_os0, ↓s_os1, ↓s_list0, ↓s_list1, ↓s_mov, ↓s_call, s_same, ↓iteN_true, ↓iteN_false, iteN_true, iteN_false, Nat.zero_add, List.nil_append, Nat.reduceEqDiff, decide_true, decide_false, List.getElem?_cons_zero, List.getElem?_cons_succ]
  exact fin' _ (by (simp only [s_getp, s_getp0, Nat.reduceEqDiff, decide_false, decide_true, iteN_false, iteN_true]; try rfl)) (by (simp only [s_getp, s_getp0, Nat.reduceEqDiff, decide_false, decide_true, iteN_false, iteN_true]; try rfl)) (by (simp only [s_getp, Nat.reduceEqDiff, decide_false, decide_true, iteN_false, iteN_true]; try rfl)) (by (simp only [s_getp, decide_true, iteN_true]; try rfl))
end Go.Eng
