/- What functions of the program come to: own work. -/
import Derived.Test.YtcgfhdhjanmgaaaMrL
namespace Go.Eng
open Go
variable {E : Nat → Option Fn} {X : Orc}
set_option linter.unusedSimpArgs false
set_option linter.unusedVariables false
theorem byt_app {a b : List Nat} (ha : byt a = true) (hb : byt b = true) : byt (a ++ b) = true := by
  rw [byt_iff] at *
  intro x hx
  rcases List.mem_append.1 hx with h | h
  · exact ha x h
  · exact hb x h
def HasRtw (E : Nat → Option Fn) (X : Orc) : Prop := ∀ (N : Nat) (l : List Nat) (a : Option (Nat × Nat)) (c : Option Nat) (h : H) (ez : Nat), SrcH h a ez l → byt l = true → l.length ≤ 100000 → callX E X (N + 1) (.fn k_purserref04_Twice) [.slice a l.length c ez] h = some (.agg (ofI .u8 (tw l)), h)
theorem rtw64 (hx : HasRtw E X) (N q : Nat) (P : List Nat) (hP : P.length = 64) (bP : byt P = true) (c : Option Nat) (md : Md) (h : H) (hq : q < h.next) (g : h.get q = some (.cells (ofI .u8 P) md)) : callX E X (N + 1) (.fn k_purserref04_Twice) [.slice (some (q, 0)) 64 c 1] h = some (.agg (ofI .u8 (tw P)), h) := by
  have := hx N P (some (q, 0)) c h 1 (.inr ⟨q, 0, _, md, rfl, rfl, hq, g, by rw [ofI_len]; omega, by rw [List.drop_zero]; exact List.take_of_length_le (by rw [ofI_len]; exact Nat.le_refl _)⟩) bP (by omega)
  rw [hP] at this; exact this
theorem rtwo_go (e : E k_purserref08_two = some f_purserref08_two) (x : ∀ a h, X (.fn k_purserref08_two) a h = none) (hx : HasRtw E X) (N : Nat) (A B : List Nat) (hA : A.length = 32) (hB : B.length = 32) (bA : byt A = true) (bB : byt B = true) (h : H) :
    ∃ h', callX E X (N + 2) (.fn k_purserref08_two) [.agg (ofI .u8 A), .agg (ofI .u8 B)] h = some (.agg (ofI .u8 (tw (A ++ B))), h') ∧ Kp h h' := by
  rw [x_cfn e _ _ (Nat.le_of_ble_eq_true rfl) (x _ _)]
  rw [← z32e]
  have lt := tw_len (A ++ B)
  obtain ⟨Z, eZ⟩ : ∃ Z, ofI .u8 (List.replicate 32 0) = Z := ⟨_, rfl⟩
  rw [eZ]
  have ca' : ∀ l : List V, (V.agg l).cells = l := fun _ => rfl
  obtain ⟨h1, e1⟩ : ∃ h1, ((h.new (.cells (ofI .u8 A) .rw)).new (.cells (ofI .u8 B) .rw)).new (.cells Z .rw) = h1 := ⟨_, rfl⟩
  have n1 : h1.next = h.next + 3 := by rw [← e1]; rfl
  have gA : h1.get h.next = some (.cells (ofI .u8 A) .rw) := by rw [← e1]; (simp (disch := omega) only [h_new_get, h_next_new, Nat.add_assoc, Nat.add_eq_left, Nat.reduceAdd, decide_true, decide_false, iteN_true, iteN_false, Nat.reduceAdd, reduceCtorEq, ]; try rfl)
  have gB : h1.get (h.next + 1) = some (.cells (ofI .u8 B) .rw) := by rw [← e1]; (simp (disch := omega) only [h_new_get, h_next_new, Nat.add_assoc, Nat.add_left_cancel_iff, Nat.reduceAdd, decide_true, decide_false, iteN_true, iteN_false, Nat.reduceEqDiff, Nat.reduceAdd, ]; try rfl)
  have gz : h1.get (h.next + 2) = some (.cells Z .rw) := by rw [← e1]; (simp (disch := omega) only [h_new_get, h_next_new, Nat.add_assoc, Nat.reduceAdd, decide_true, iteN_true, Nat.reduceAdd, ]; try rfl)
  have k1 : Kp h h1 := by rw [← e1]; (repeat (first | exact Kp.refl _ | refine Kp.put ?_ _ (by first | omega | (simp only [h_next_put, h_next_new, h_next_del]; omega)) | refine Kp.del ?_ (by first | omega | (simp only [h_next_put, h_next_new, h_next_del]; omega)) | refine Kp.trans ?_ (Kp.new _ _)))
  obtain ⟨h2, e2⟩ : ∃ h2, h1.new (.cells [] .rw) = h2 := ⟨_, rfl⟩
  have n2 : h2.next = h.next + 4 := by rw [← e2, h_next_new, n1]
  have k2 : Kp h1 h2 := by rw [← e2]; exact Kp.new _ _
  have g23 : h2.get (h.next + 3) = some (.cells [] .rw) := by rw [← e2]; exact h_new_same' _ _ n1
  have sA : srcCells h2 1 (.slice (some (h.next, 0)) 32 (some 32) 1) = some (32, ofI .u8 A) := by
    rw [m_src, k2.2 _ (by omega), gA, srcI _ _ _ _ _ (by omega), List.drop_zero, take_all _ _ (by omega)]
  obtain ⟨h3, e3⟩ : ∃ h3, h2.new (.cells (ofI .u8 A) .rw) = h3 := ⟨_, rfl⟩
  have ap1 : appendC h2 1 1 (.slice (some (h.next + 3, 0)) 0 (some 0) 1) (some (32, ofI .u8 A)) = some (.slice (some (h.next + 4, 0)) 32 none 1, h3) := by
    rw [appF_of _ _ _ _ _ _ _ _ (by omega) (by omega), g23, appF0, n2, e3]
  have n3 : h3.next = h.next + 5 := by rw [← e3, h_next_new, n2]
  have k3 : Kp h2 h3 := by rw [← e3]; (repeat (first | exact Kp.refl _ | refine Kp.put ?_ _ (by first | omega | (simp only [h_next_put, h_next_new, h_next_del]; omega)) | refine Kp.del ?_ (by first | omega | (simp only [h_next_put, h_next_new, h_next_del]; omega)) | refine Kp.trans ?_ (Kp.new _ _)))
  have g3 : h3.get (h.next + 4) = some (.cells (ofI .u8 A) .rw) := by rw [← e3]; exact h_new_same' _ _ n2
  have sB : srcCells h3 1 (.slice (some (h.next + 1, 0)) 32 (some 32) 1) = some (32, ofI .u8 B) := by
    rw [m_src, k3.2 _ (by omega), k2.2 _ (by omega), gB, srcI _ _ _ _ _ (by omega), List.drop_zero, take_all _ _ (by omega)]
  obtain ⟨h4, e4⟩ : ∃ h4, (h3.del (h.next + 4)).new (.cells (ofI .u8 (A ++ B)) .sh) = h4 := ⟨_, rfl⟩
  have ap2 : appendC h3 1 1 (.slice (some (h.next + 4, 0)) 32 none 1) (some (32, ofI .u8 B)) = some (.slice (some (h.next + 5, 0)) 64 none 1, h4) := by
    rw [appU_of _ _ _ _ _ _ (by omega), g3, appUIw _ _ _ _ _ _ _ (by omega), take_all _ _ (by omega), n3, e4]
  have n4 : h4.next = h.next + 6 := by rw [← e4, h_next_new, h_next_del, n3]
  have f4 : ∀ j, j < h.next + 4 → h4.get j = h1.get j ∨ j = h.next + 3 := fun j hj => by
    by_cases hj3 : j = h.next + 3
    · exact .inr hj3
    · left; rw [← e4, h_new_ne _ _ (by rw [h_next_del]; omega), h_del_ne _ (by omega), k3.2 _ (by omega), k2.2 _ (by omega)]
  have g4 : h4.get (h.next + 5) = some (.cells (ofI .u8 (A ++ B)) .sh) := by rw [← e4]; exact h_new_same' _ _ (by rw [h_next_del, n3])
  have g4z : h4.get (h.next + 2) = some (.cells Z .rw) := by rw [(f4 _ (by omega)).resolve_right (by omega), gz]
  have t4 := rtw64 hx N (h.next + 5) (A ++ B) (by rw [List.length_append]; omega) (byt_app bA bB) none .sh h4 (by omega) g4
  obtain ⟨TW, eT⟩ : ∃ l, tw (A ++ B) = l := ⟨_, rfl⟩
  rw [eT] at t4 lt ⊢
  have st : ∀ h i, storeV h 32 (.ptr (some (i, 0))) (.agg (ofI .u8 TW)) = storeE (h.get i) h i 0 (ofI .u8 TW) := fun h i => st32 h i 0 _ lt
  have pu : ∀ h i, storeE (some (.cells Z .rw)) h i 0 (ofI .u8 TW) = some (h.put i (.cells (ofI .u8 TW) .rw)) := fun h i => by
    rw [m_storeE _ _ _ _ _ (by rw [← eZ, ofI_len, ofI_len, lt, List.length_replicate]; omega), ← eZ, wrAll _ _ _ (by rw [List.length_replicate, lt])]
  have lds : ∀ m, loadE (some (.cells (ofI .u8 TW) m)) (some 32) 0 = some (.agg (ofI .u8 TW)) := fun m => by rw [m_loadN, x_readAll _ 32 (by rw [ofI_len, lt])]
  have sb0 : ∀ (g : H) m, slcB (some (.cells (ofI .u8 A) m)) 32 1 h.next 0 none none g = some (.slice (some (h.next, 0)) 32 (some 32) 1, g) := fun h m => slcB_nn _ _ _ _ _ _ (by rw [ofI_len]; omega)
  have sb1 : ∀ (g : H) m, slcB (some (.cells (ofI .u8 B) m)) 32 1 (h.next + 1) 0 none none g = some (.slice (some (h.next + 1, 0)) 32 (some 32) 1, g) := fun h m => slcB_nn _ _ _ _ _ _ (by rw [ofI_len]; omega)
  have g2A : h2.get h.next = some (.cells (ofI .u8 A) .rw) := by rw [k2.2 _ (by omega), gA]
  have g1B : h2.get (h.next + 1) = some (.cells (ofI .u8 B) .rw) := by rw [k2.2 _ (by omega), gB]
  have g3B : h3.get (h.next + 1) = some (.cells (ofI .u8 B) .rw) := by rw [k3.2 _ (by omega), g1B]
  refine ⟨h4.put (h.next + 2) (.cells (ofI .u8 TW) .rw), ?_, ⟨by show h.next ≤ h4.next; omega, fun j hj => by rw [h_put_ne _ _ (by omega), (f4 _ (by omega)).resolve_right (by omega), k1.2 _ hj]⟩⟩
  generalize ofI .u8 TW = S0 at *
  generalize ofI .u8 (A ++ B) = CAB at *
  generalize ofI .u8 A = CA at *
  generalize ofI .u8 B = CB at *
  simp (config := {maxSteps := 2000000}) (disch := first | omega | (simp only [List.length_cons, List.length_nil, List.length_append, List.length_drop]; omega)) only [ca', e1, n1, g2A, g3B, sb0, sb1, e2, sA, ap1, sB, ap2, t4, g4z, st, pu, lds, ↓s_append, ↓x_slcA, x_slcAE, x_M0, ↓s_box, Nat.zero_add, ↓h_put_get, h_next_new, Nat.add_assoc, m_load, ↓m_st, m_stE, ↓s_alloc, ↓x_buildS, x_buildE, ↓x_P0, x_fill0, Nat.reduceAdd, s_resc, s_consR, s_res0, ↓s_ops, ↓s_seq, ↓s_ret, ↓s_nil, ↓s_op, ↓s_bindS, s_bindS, ↓s_bindE, s_bindE, s_norm, ↓s_getp, ↓s_getp0, ↓s_get, ↓s_os0, ↓s_os1, ↓s_list0, ↓s_list1, ↓s_mov, ↓s_call, s_end, s_res0, s_tup1, ↓iteN_true, ↓iteN_false, iteN_true, iteN_false, Nat.zero_add, Nat.reduceEqDiff, decide_true, decide_false]

def szN (n : Nat) : Nat → Nat
  | 0 => n
  | k + 1 => (szN n k + 1) / 2
theorem szN_le (n k : Nat) (h : 0 < n) : szN n k ≤ n ∧ 0 < szN n k := by
  induction k with
  | zero => exact ⟨Nat.le_refl _, h⟩
  | succ k ih => show (szN n k + 1) / 2 ≤ n ∧ 0 < (szN n k + 1) / 2; omega
def lvL (l : List (List Nat)) : Nat → List (List Nat)
  | 0 => l
  | k + 1 => up (lvL l k)
theorem lvL_len (l : List (List Nat)) (k : Nat) : (lvL l k).length = szN l.length k := by
  induction k with
  | zero => rfl
  | succ k ih => show (up (lvL l k)).length = (szN l.length k + 1) / 2; rw [up_len, ih]
theorem lvL_ok (l : List (List Nat)) (ok : ∀ o ∈ l, o.length = 32 ∧ byt o = true) (k : Nat) : ∀ o ∈ lvL l k, o.length = 32 ∧ byt o = true := by
  cases k with
  | zero => exact ok
  | succ k =>
    intro o ho
    obtain ⟨p, _, rfl⟩ := List.mem_map.1 ho
    exact ⟨tw_len p, tw_byt p⟩
theorem lvL_up (l : List (List Nat)) (k : Nat) : lvL (up l) k = lvL l (k + 1) := by
  induction k with
  | zero => rfl
  | succ k ih => show up (lvL (up l) k) = up (lvL l (k + 1)); rw [ih]
structure SzI (n lev : Nat) (h0 : H) (i : Nat) (T : Tr V) (h : H) : Prop where
  t0 : evO T (.t 0) = .int .i64 (szN n i : Int)
  t1 : evO T (.t 1) = .int .i64 (lev : Int)
  t5 : evO T (.t 5) = .int .i64 (i : Int)
  hh : h = h0
theorem rsize_go (e : E k_purserref08_size = some f_purserref08_size) (x : ∀ a h, X (.fn k_purserref08_size) a h = none) (N : Nat) (hN : 100 < N) (n lev : Nat) (h0' : 0 < n) (hn : n < 1000000) (hl : lev < 100) (h : H) :
    callX E X (N + 1) (.fn k_purserref08_size) [.int .i64 (n : Int), .int .i64 (lev : Int)] h = some (.int .i64 (szN n lev : Int), h) := by
  rw [x_cfn e _ _ (Nat.le_of_ble_eq_true rfl) (x _ _)]
  have fin : ∀ T, evO T (.t 0) = .int .i64 (szN n 0 : Int) → evO T (.t 1) = .int .i64 (lev : Int) → evO T (.t 5) = .int .i64 ((0 : Nat) : Int) → fnEnd [.tmp 4] (bindE (blockE 0 (loopN (evC (callX E X N) 15 N none L_purserref08_size_0) N ⟨T, [], h⟩)) (evC (callX E X N) 15 N none R_purserref08_size_0)) = some (.int .i64 (szN n lev : Int), h) := by
    intro T t0 t1 t5
    obtain ⟨T', h', r, J⟩ := loop_go (f := evC (callX E X N) 15 N none L_purserref08_size_0) (SzI n lev h) lev (.exit 0) (by intro h; cases h) (SzI n lev h lev) (fun i T h' hi I => by
      obtain ⟨t0, t1, t5, rfl⟩ := I
      have c0 : decide ((i : Int) < (lev : Int)) = true := decide_eq_true (by omega)
      have wi : wr .i64 ((i : Int) + 1) = ((i + 1 : Nat) : Int) := by rw [wr_i64 (by omega)]; omega
      have sl := szN_le n i h0'
      have w1 : wr .i64 ((szN n i : Int) + 1) = ((szN n i + 1 : Nat) : Int) := by rw [wr_i64 (by omega)]; omega
      have qu := quo2 (szN n i + 1) (by omega)
      have e1 : (szN n i + 1) / 2 = szN n (i + 1) := rfl
      rw [e1] at qu
      refine ⟨_, _, by
        simp (config := {maxSteps := 2000000}) (disch := first | omega | (simp only [List.length_cons, List.length_nil, List.length_append, List.length_drop]; omega)) only [L_purserref08_size_0, t0, t1, t5, c0, wi, w1, qu, ↓s_skip, ↓s_ops, ↓s_seq, ↓s_cond, ↓s_block, ↓s_nil, ↓s_op, ↓s_bindS, s_bindS, ↓s_bindE, s_bindE, s_norm, ↓s_condV, s_condV, s_block_normal, ↓s_getp, ↓s_con, ↓s_mov, ↓s_bin, s_same, b_lss, b_add, ↓iteN_true, ↓iteN_false, iteN_true, iteN_false, Nat.reduceEqDiff, decide_true, decide_false]
        exact rfl, (by (simp only [s_getp, Nat.reduceEqDiff, decide_false, decide_true, iteN_false, iteN_true]; try rfl)), (by (simp only [s_getp, Nat.reduceEqDiff, decide_false, iteN_false, t1]; try rfl)), (by (simp only [s_getp, decide_true, iteN_true]; try rfl)), rfl⟩) (fun T h' I => by
      obtain ⟨t0, t1, t5, rfl⟩ := I
      have c0 : decide ((lev : Int) < (lev : Int)) = false := decide_eq_false (by omega)
      refine ⟨_, _, by
        simp (config := {maxSteps := 2000000}) (disch := first | omega | (simp only [List.length_cons, List.length_nil, List.length_append, List.length_drop]; omega)) only [L_purserref08_size_0, t1, t5, c0, ↓s_ops, ↓s_seq, ↓s_cond, ↓s_exit, ↓s_nil, ↓s_op, ↓s_bindS, s_bindS, ↓s_bindE, s_bindE, s_bindE_exit, s_norm, ↓s_condV, s_condV, ↓s_getp, ↓s_mov, ↓s_bin, s_same, b_lss, ↓iteN_true, ↓iteN_false, iteN_true, iteN_false, Nat.reduceEqDiff, decide_true, decide_false]
        exact rfl, (by (simp only [s_getp, Nat.reduceEqDiff, decide_false, iteN_false, t0]; try rfl)), (by (simp only [s_getp, Nat.reduceEqDiff, decide_false, iteN_false, t1]; try rfl)), (by (simp only [s_getp, Nat.reduceEqDiff, decide_false, iteN_false, t5]; try rfl)), rfl⟩) lev 0 (by omega) N (by omega) T h ⟨t0, t1, t5, rfl⟩
    obtain ⟨u0, u1, u5, rfl⟩ := J
    rw [r]
    simp (config := {maxSteps := 2000000}) (disch := first | omega | (simp only [List.length_cons, List.length_nil, List.length_append, List.length_drop]; omega)) only [R_purserref08_size_0, u0, s_res0, ↓s_ops, ↓s_seq, ↓s_ret, ↓s_nil, ↓s_op, ↓s_bindS, s_bindS, ↓s_bindE, s_bindE, s_norm, s_block_exit, ↓s_getp, ↓s_mov, s_end, s_res0, s_res1, s_tup1, ↓iteN_true, iteN_true, decide_true, if_true]
  obtain ⟨R, eR⟩ : ∃ R, R_purserref08_size_0 = R := ⟨_, rfl⟩
  obtain ⟨Lo, eL⟩ : ∃ R, L_purserref08_size_0 = R := ⟨_, rfl⟩
  rw [eR, eL] at fin ⊢
  simp (config := {maxSteps := 2000000}) (disch := first | omega | (simp only [List.length_cons, List.length_nil, List.length_append, List.length_drop]; omega)) only [Nat.zero_add, ↓l_loop, ↓s_ops, ↓s_seq, ↓s_block, ↓s_nil, ↓s_op, ↓s_bindS, s_bindS, ↓s_bindE, s_bindE, s_norm, ↓s_con, ↓s_list0, ↓s_list1, ↓s_mov, Nat.zero_add]
  exact fin _ (by (simp only [s_getp, Nat.reduceEqDiff, decide_false, decide_true, iteN_false, iteN_true, s_get]; try rfl)) (by (simp only [s_getp, Nat.reduceEqDiff, decide_false, decide_true, iteN_false, iteN_true, s_get]; try rfl)) (by (simp only [s_getp, decide_true, iteN_true]; try rfl))
structure DpI (n : Nat) (h0 : H) (i : Nat) (T : Tr V) (h : H) : Prop where
  t0 : evO T (.t 0) = .int .i64 (n : Int)
  t3 : evO T (.t 3) = .int .i64 (i : Int)
  t4 : evO T (.t 4) = .int .u64 ((2 ^ i : Nat) : Int)
  hh : h = h0
theorem rdepth_go (e : E k_purserref08_Depth = some f_purserref08_Depth) (x : ∀ a h, X (.fn k_purserref08_Depth) a h = none) (N : Nat) (hN : 100 < N) (n : Nat) (hn : n < 9223372036854775808) (h : H) :
    callX E X (N + 1) (.fn k_purserref08_Depth) [.int .i64 (n : Int)] h = some (.int .i64 (dpN n : Int), h) := by
  rw [x_cfn e _ _ (Nat.le_of_ble_eq_true rfl) (x _ _)]
  by_cases h2 : n < 2
  · have c0 : decide ((n : Int) < 2) = true := decide_eq_true (by omega)
    rw [dpN_1 n (by omega)]
    simp (config := {maxSteps := 2000000}) (disch := first | omega | (simp only [List.length_cons, List.length_nil, List.length_append, List.length_drop]; omega)) only [c0, Int.cast_ofNat_Int, s_res0, ↓s_ops, ↓s_seq, ↓s_cond, ↓s_ret, ↓s_nil, ↓s_op, ↓s_bindS, s_bindS, ↓s_bindE, s_bindE, s_bindE_ret, s_norm, ↓s_condV, s_condV, ↓s_getp, ↓s_get, ↓s_con, ↓s_list0, ↓s_list1, ↓s_mov, ↓s_bin, s_same, b_lss, s_end, s_res0, s_res1, s_tup1, ↓iteN_true, ↓iteN_false, iteN_true, iteN_false, Nat.reduceEqDiff, decide_true, decide_false]
  have c0 : decide ((n : Int) < 2) = false := decide_eq_false (by omega)
  have d63 := dpN_le 63 n (by have : (2 : Nat) ^ 63 = 9223372036854775808 := rfl; omega)
  have fin : ∀ T, evO T (.t 0) = .int .i64 (n : Int) → evO T (.t 3) = .int .i64 ((0 : Nat) : Int) → evO T (.t 4) = .int .u64 ((2 ^ 0 : Nat) : Int) → fnEnd [.tmp 2] (bindE (blockE 0 (loopN (evC (callX E X N) 16 N none L_purserref08_Depth_0) N ⟨T, [], h⟩)) (evC (callX E X N) 16 N none R_purserref08_Depth_0)) = some (.int .i64 (dpN n : Int), h) := by
    intro T t0 t3 t4
    have wu : wr .u64 (n : Int) = (n : Int) := u64n _ (by omega)
    obtain ⟨T', h', r, J⟩ := loop_go (f := evC (callX E X N) 16 N none L_purserref08_Depth_0) (DpI n h) (dpN n) (.exit 0) (by intro h; cases h) (DpI n h (dpN n)) (fun i T h' hi I => by
      obtain ⟨t0, t3, t4, rfl⟩ := I
      have lt : 2 ^ i < n := by
        rcases Nat.lt_or_ge (2 ^ i) n with h | h
        · exact h
        · have := dpN_le i n h; omega
      have p : 2 ^ (i + 1) = 2 * 2 ^ i := by rw [Nat.pow_succ, Nat.mul_comm]
      obtain ⟨z, ez⟩ : ∃ z, 2 ^ i = z := ⟨_, rfl⟩
      rw [ez] at p lt t4
      have c1 : decide ((z : Int) < (n : Int)) = true := decide_eq_true (by omega)
      have w1 : wr .i64 ((i : Int) + 1) = ((i + 1 : Nat) : Int) := by rw [wr_i64 (by omega)]; omega
      have w2 : wr .u64 (2 * (z : Int)) = ((2 * z : Nat) : Int) := by
        rw [show (2 * (z : Int)) = ((2 * z : Nat) : Int) by omega]
        exact u64n _ (by omega)
      refine ⟨_, _, by
        simp (config := {maxSteps := 2000000}) (disch := first | omega | (simp only [List.length_cons, List.length_nil, List.length_append, List.length_drop]; omega)) only [L_purserref08_Depth_0, t0, t3, t4, wu, c1, w1, w2, ↓x_conv, x_convV, ↓s_skip, ↓s_ops, ↓s_seq, ↓s_cond, ↓s_block, ↓s_nil, ↓s_op, ↓s_bindS, s_bindS, ↓s_bindE, s_bindE, s_norm, ↓s_condV, s_condV, s_block_normal, ↓s_getp, ↓s_con, ↓s_mov, ↓s_bin, s_same, b_lss, b_add, b_mul, ↓iteN_true, ↓iteN_false, iteN_true, iteN_false, Nat.reduceEqDiff, decide_true, decide_false]
        exact rfl, (by (simp only [s_getp, Nat.reduceEqDiff, decide_false, iteN_false, t0]; try rfl)), (by (simp only [s_getp, Nat.reduceEqDiff, decide_false, decide_true, iteN_false, iteN_true]; try rfl)), by rw [p]; (simp only [s_getp, decide_true, iteN_true]; try rfl), rfl⟩) (fun T h' I => by
      obtain ⟨t0, t3, t4, rfl⟩ := I
      have ge := le_dpN n n (Nat.le_refl _)
      have t4' := t4
      obtain ⟨z, ez⟩ : ∃ z, 2 ^ dpN n = z := ⟨_, rfl⟩
      rw [ez] at ge t4'
      have c1 : decide ((z : Int) < (n : Int)) = false := decide_eq_false (by omega)
      refine ⟨_, _, by
        simp (config := {maxSteps := 2000000}) (disch := first | omega | (simp only [List.length_cons, List.length_nil, List.length_append, List.length_drop]; omega)) only [L_purserref08_Depth_0, t0, t4', wu, c1, ↓x_conv, x_convV, ↓s_ops, ↓s_seq, ↓s_cond, ↓s_exit, ↓s_nil, ↓s_op, ↓s_bindS, s_bindS, ↓s_bindE, s_bindE, s_bindE_exit, s_norm, ↓s_condV, s_condV, ↓s_getp, ↓s_mov, ↓s_bin, s_same, b_lss, ↓iteN_true, ↓iteN_false, iteN_true, iteN_false, Nat.reduceEqDiff, decide_true, decide_false]
        exact rfl, (by (simp only [s_getp, Nat.reduceEqDiff, decide_false, iteN_false, t0]; try rfl)), (by (simp only [s_getp, Nat.reduceEqDiff, decide_false, iteN_false, t3]; try rfl)), (by (simp only [s_getp, Nat.reduceEqDiff, decide_false, iteN_false, t4]; try rfl)), rfl⟩) (dpN n) 0 (by omega) N (by omega) T h ⟨t0, t3, t4, rfl⟩
    obtain ⟨u0, u3, u4, rfl⟩ := J
    rw [r]
    simp (config := {maxSteps := 2000000}) (disch := first | omega | (simp only [List.length_cons, List.length_nil, List.length_append, List.length_drop]; omega)) only [R_purserref08_Depth_0, u3, s_res0, ↓s_ops, ↓s_seq, ↓s_ret, ↓s_nil, ↓s_op, ↓s_bindS, s_bindS, ↓s_bindE, s_bindE, s_norm, s_block_exit, ↓s_getp, ↓s_mov, s_end, s_res0, s_res1, s_tup1, ↓iteN_true, iteN_true, decide_true, if_true]
  obtain ⟨R, eR⟩ : ∃ R, R_purserref08_Depth_0 = R := ⟨_, rfl⟩
  obtain ⟨Lo, eL⟩ : ∃ R, L_purserref08_Depth_0 = R := ⟨_, rfl⟩
  rw [eR, eL] at fin ⊢
  simp (config := {maxSteps := 2000000}) (disch := first | omega | (simp only [List.length_cons, List.length_nil, List.length_append, List.length_drop]; omega)) only [c0, ↓l_loop, ↓s_skip, ↓s_ops, ↓s_seq, ↓s_cond, ↓s_block, ↓s_nil, ↓s_op, ↓s_bindS, s_bindS, ↓s_bindE, s_bindE, s_norm, ↓s_condV, s_condV, ↓s_getp, ↓s_get, ↓s_con, ↓s_list0, ↓s_list1, ↓s_mov, ↓s_bin, s_same, b_lss, ↓iteN_true, ↓iteN_false, iteN_true, iteN_false, Nat.reduceEqDiff, decide_true, decide_false]
  exact fin _ (by (simp only [s_getp, Nat.reduceEqDiff, decide_false, decide_true, iteN_false, iteN_true, s_get]; try rfl)) (by (simp only [s_getp, Nat.reduceEqDiff, decide_false, decide_true, iteN_false, iteN_true]; try rfl)) (by (simp only [s_getp, decide_true, iteN_true]; try rfl))
end Go.Eng
namespace Go.Eng
open Go
variable {E : Nat → Option Fn} {X : Orc}
set_option linter.unusedSimpArgs false
set_option linter.unusedVariables false
structure EnNd (E : Nat → Option Fn) : Prop where
  two : E k_purserref08_two = some f_purserref08_two
  sz : E k_purserref08_size = some f_purserref08_size
  nd : E k_purserref08_node = some f_purserref08_node
  dp : E k_purserref08_Depth = some f_purserref08_Depth
structure NoNd (X : Orc) : Prop where
  two : ∀ a h, X (.fn k_purserref08_two) a h = none
  sz : ∀ a h, X (.fn k_purserref08_size) a h = none
  nd : ∀ a h, X (.fn k_purserref08_node) a h = none
  dp : ∀ a h, X (.fn k_purserref08_Depth) a h = none
set_option maxHeartbeats 1000000 in
theorem node_go (e : EnNd E) (x : NoNd X) (hx : HasRtw E X) (l : List (List Nat)) (ok : ∀ o ∈ l, o.length = 32 ∧ byt o = true) (hl0 : 0 < l.length) (hl : l.length ≤ 1000) (a : Option (Nat × Nat)) (c : Option Nat) (ez : Nat) : ∀ (lev n K : Nat) (A : List Nat), lev < 90 → 1000 + lev < K → (lvL l lev)[n]? = some A → ∀ h, HsR 32 h a ez l →
    ∃ h', callX E X (K + 1) (.fn k_purserref08_node) [.slice a l.length c ez, .int .i64 (lev : Int), .int .i64 (n : Int)] h = some (.agg (ofI .u8 A), h') ∧ Kp h h' := by
  intro lev
  induction lev with
  | zero =>
    intro n K A _ hK hA h S
    rw [x_cfn e.nd _ _ (Nat.le_of_ble_eq_true rfl) (x.nd _ _)]
    have hn := (List.getElem?_eq_some_iff.1 hA).1
    have hn' : n < l.length := hn
    rcases S with S | ⟨q, off, vs, md, rfl, rfl, hq, gq, rb⟩
    · rw [S] at hn'; cases hn'
    have lA := rowB_ld rb hA (by decide) md
    have hA32 := (rb.2 _ _ hA).2
    obtain ⟨Z, eZ⟩ : ∃ Z, ofI .u8 (List.replicate 32 0) = Z := ⟨_, rfl⟩
    have al3 : ∀ (Q : Orc) (T : Tr V) (h : H), Eng.step (.alloc [.int .u8 0, .int .u8 0, .int .u8 0, .int .u8 0, .int .u8 0, .int .u8 0, .int .u8 0, .int .u8 0, .int .u8 0, .int .u8 0, .int .u8 0, .int .u8 0, .int .u8 0, .int .u8 0, .int .u8 0, .int .u8 0, .int .u8 0, .int .u8 0, .int .u8 0, .int .u8 0, .int .u8 0, .int .u8 0, .int .u8 0, .int .u8 0, .int .u8 0, .int .u8 0, .int .u8 0, .int .u8 0, .int .u8 0, .int .u8 0, .int .u8 0, .int .u8 0]) Q T h = some (.ptr (some (h.next, 0)), h.new (.cells Z .rw)) := fun Q T h => by rw [← eZ]; rfl
    have st : ∀ h i, storeV h 32 (.ptr (some (i, 0))) (.agg (ofI .u8 A)) = storeE (h.get i) h i 0 (ofI .u8 A) := fun h i => st32 h i 0 _ hA32
    have pu : ∀ h i, storeE (some (.cells Z .rw)) h i 0 (ofI .u8 A) = some (h.put i (.cells (ofI .u8 A) .rw)) := fun h i => by
      rw [m_storeE _ _ _ _ _ (by rw [← eZ, ofI_len, ofI_len, hA32, List.length_replicate]; omega), ← eZ, wrAll _ _ _ (by rw [List.length_replicate, hA32])]
    have ld : ∀ m, loadE (some (.cells (ofI .u8 A) m)) (some 32) 0 = some (.agg (ofI .u8 A)) := fun m => by rw [m_loadN, x_readAll _ 32 (by rw [ofI_len, hA32])]
    have z0 : decide ((0 : Int) = 0) = true := rfl
    have ix : idx (n : Int) l.length = some n := idxn hn'
    have zq : (h.next = q) = False := eq_false (by omega)
    obtain ⟨g, cg⟩ := cel h A
    have q1 := cg.eq
    rw [eZ] at q1
    refine ⟨g, ?_, cg.kp⟩
    have gg := cg.gt
    generalize ofI .u8 A = CA at *
    obtain ⟨L, eL⟩ : ∃ n, l.length = n := ⟨_, rfl⟩
    rw [eL] at ix ⊢
    simp (config := {maxSteps := 2000000}) (disch := first | omega | (simp only [List.length_cons, List.length_nil, List.length_append, List.length_drop]; omega)) only [↓al3, ix, gq, zq, lA, st, pu, q1, gg, ld, Nat.zero_add, ↓h_new_get, ↓s_load, m_load, ↓m_st, m_stE, ↓x_idxS, x_idxSE, x_addrE, Nat.reduceAdd, Int.cast_ofNat_Int, s_resc, s_consR, s_res0, ↓s_ops, ↓s_seq, ↓s_cond, ↓s_ret, ↓s_nil, ↓s_op, ↓s_bindS, s_bindS, ↓s_bindE, s_bindE, s_bindE_ret, s_norm, ↓s_condV, s_condV, ↓s_getp, ↓s_getp0, ↓s_get, ↓s_con, ↓s_list0, ↓s_list1, ↓s_mov, ↓s_bin, s_same, b_eql, s_end, s_res0, s_tup1, ↓iteN_true, ↓iteN_false, iteN_true, iteN_false, Nat.zero_add, Nat.reduceEqDiff, decide_true, decide_false]
  | succ lev ih =>
    intro n K A hlev hK hA h S
    rw [x_cfn e.nd _ _ (Nat.le_of_ble_eq_true rfl) (x.nd _ _)]
    obtain ⟨K, rfl⟩ : ∃ j, K = j + 1 := ⟨K - 1, by omega⟩
    have hA' : (prs (lvL l lev)).map tw = up (lvL l lev) := rfl
    have hAu : (up (lvL l lev))[n]? = some A := hA
    rw [← hA', List.getElem?_map] at hAu
    obtain ⟨P, hP, eA⟩ := Option.map_eq_some_iff.1 hAu
    have pl := prs_len _ (lvL l lev) rfl
    have hn := (List.getElem?_eq_some_iff.1 hP).1
    have hB : (lvL l lev)[2 * n]? = some ((lvL l lev)[2 * n]'(by omega)) := List.getElem?_eq_getElem (by omega)
    obtain ⟨B, eB⟩ : ∃ B, (lvL l lev)[2 * n]'(by omega) = B := ⟨_, rfl⟩
    rw [eB] at hB
    clear eB
    have pg := prs_get n _ B hB
    rw [hP] at pg
    have eP : P = B ++ ((lvL l lev)[2 * n + 1]?).getD B := Option.some.inj pg
    have okB := lvL_ok l ok lev B (List.mem_of_getElem? hB)
    have ll := lvL_len l lev
    have sl := szN_le l.length lev hl0
    obtain ⟨Z, eZ⟩ : ∃ Z, ofI .u8 (List.replicate 32 0) = Z := ⟨_, rfl⟩
    have al3 : ∀ (Q : Orc) (T : Tr V) (h : H), Eng.step (.alloc [.int .u8 0, .int .u8 0, .int .u8 0, .int .u8 0, .int .u8 0, .int .u8 0, .int .u8 0, .int .u8 0, .int .u8 0, .int .u8 0, .int .u8 0, .int .u8 0, .int .u8 0, .int .u8 0, .int .u8 0, .int .u8 0, .int .u8 0, .int .u8 0, .int .u8 0, .int .u8 0, .int .u8 0, .int .u8 0, .int .u8 0, .int .u8 0, .int .u8 0, .int .u8 0, .int .u8 0, .int .u8 0, .int .u8 0, .int .u8 0, .int .u8 0, .int .u8 0]) Q T h = some (.ptr (some (h.next, 0)), h.new (.cells Z .rw)) := fun Q T h => by rw [← eZ]; rfl
    have stG : ∀ (l : List Nat) (_ : l.length = 32) h i, storeV h 32 (.ptr (some (i, 0))) (.agg (ofI .u8 l)) = storeE (h.get i) h i 0 (ofI .u8 l) := fun l hl h i => st32 h i 0 _ hl
    have puZ : ∀ (l : List Nat) (_ : l.length = 32) h i, storeE (some (.cells Z .rw)) h i 0 (ofI .u8 l) = some (h.put i (.cells (ofI .u8 l) .rw)) := fun l hl h i => by
      rw [m_storeE _ _ _ _ _ (by rw [← eZ, ofI_len, ofI_len, hl, List.length_replicate]; omega), ← eZ, wrAll _ _ _ (by rw [List.length_replicate, hl])]
    have puG : ∀ (z l : List Nat) (_ : z.length = l.length) h i, storeE (some (.cells (ofI .u8 z) .rw)) h i 0 (ofI .u8 l) = some (h.put i (.cells (ofI .u8 l) .rw)) := fun z l hl h i => by
      rw [m_storeE _ _ _ _ _ (by rw [ofI_len, ofI_len, hl]; omega), wrAll _ _ _ hl]
    have ldG : ∀ (l : List Nat) (_ : l.length = 32) m, loadE (some (.cells (ofI .u8 l) m)) (some 32) 0 = some (.agg (ofI .u8 l)) := fun l hl m => by rw [m_loadN, x_readAll _ 32 (by rw [ofI_len, hl])]
    -- the heap with the result's cell
    obtain ⟨b, eb⟩ : ∃ b, h.next = b := ⟨_, rfl⟩
    obtain ⟨h1, e1⟩ : ∃ h1, h.new (.cells Z .rw) = h1 := ⟨_, rfl⟩
    have n1 : h1.next = b + 1 := by rw [← e1, ← eb]; rfl
    have k1 : Kp h h1 := by rw [← e1]; (repeat (first | exact Kp.refl _ | refine Kp.put ?_ _ (by first | omega | (simp only [h_next_put, h_next_new, h_next_del]; omega)) | refine Kp.del ?_ (by first | omega | (simp only [h_next_put, h_next_new, h_next_del]; omega)) | refine Kp.trans ?_ (Kp.new _ _)))
    have g1 : h1.get b = some (.cells Z .rw) := by rw [← e1, ← eb]; exact h_new_same _ _
    obtain ⟨h2, r2, k2⟩ := ih (2 * n) K B (by omega) (by omega) hB h1 (S.mono k1)
    have N2 := k2.1
    obtain ⟨g2, c2⟩ := cel h2 B
    have x2 := c2.nx
    obtain ⟨g3, c3⟩ := cel g2 B
    have x3 := c3.nx
    have K3 : Kp h g3 := ((k1.trans k2).trans c2.kp).trans c3.kp
    have zs := rsize_go e.sz x.sz K (by omega) l.length lev hl0 (by omega) (by omega) g3
    have q2 := c2.eq
    have q3 := c3.eq
    rw [eZ] at q2 q3
    have w1 : wr .i64 (((lev + 1 : Nat) : Int) - 1) = (lev : Int) := by rw [wr_i64 (by omega)]; omega
    have w2 : wr .i64 (2 * (n : Int)) = ((2 * n : Nat) : Int) := by rw [wr_i64 (by omega)]; omega
    have w3 : wr .i64 (((2 * n : Nat) : Int) + 1) = ((2 * n + 1 : Nat) : Int) := by rw [wr_i64 (by omega)]; omega
    have z0 : decide (((lev + 1 : Nat) : Int) = 0) = false := decide_eq_false (by omega)
    have stB := stG B okB.1
    have puB := puZ B okB.1
    have ldB := ldG B okB.1
    have lA : A.length = 32 := by rw [← eA, tw_len]
    have stA := stG A lA
    have puA := puZ A lA
    have ldA := ldG A lA
    have gB3 : g3.get h2.next = some (.cells (ofI .u8 B) .rw) := by rw [c3.kp.2 _ (by omega), c2.gt]
    have gg2 := c2.gt
    have gb3 : g3.get b = some (.cells Z .rw) := by rw [c3.kp.2 _ (by omega), c2.kp.2 _ (by omega), k2.2 _ (by omega), g1]
    by_cases hs : 2 * n + 1 < szN l.length lev
    · have cs : decide (((2 * n + 1 : Nat) : Int) < (szN l.length lev : Int)) = true := decide_eq_true (by omega)
      have hC : (lvL l lev)[2 * n + 1]? = some ((lvL l lev)[2 * n + 1]'(by omega)) := List.getElem?_eq_getElem (by omega)
      obtain ⟨C, eC⟩ : ∃ C, (lvL l lev)[2 * n + 1]'(by omega) = C := ⟨_, rfl⟩
      rw [eC] at hC
      clear eC
      have okC := lvL_ok l ok lev C (List.mem_of_getElem? hC)
      rw [hC] at eP
      have eP' : P = B ++ C := eP
      obtain ⟨h4, r4, k4⟩ := ih (2 * n + 1) K C (by omega) (by omega) hC g3 (S.mono K3)
      have N4 := k4.1
      obtain ⟨h5, e5⟩ : ∃ h5, h4.put g2.next (.cells (ofI .u8 C) .rw) = h5 := ⟨_, rfl⟩
      have n5 : h5.next = h4.next := by rw [← e5]; rfl
      have f5 : ∀ j, j ≠ g2.next → h5.get j = h4.get j := fun j hj => by rw [← e5, h_put_ne _ _ (Ne.symm hj)]
      have g4 : h4.get g2.next = some (.cells (ofI .u8 B) .rw) := by rw [k4.2 _ (by omega), c3.gt]
      have g5C : h5.get g2.next = some (.cells (ofI .u8 C) .rw) := by rw [← e5]; exact h_put_same _ _ _
      have g5B : h5.get h2.next = some (.cells (ofI .u8 B) .rw) := by rw [f5 _ (by omega), k4.2 _ (by omega), gB3]
      obtain ⟨h6, r6, k6⟩ := rtwo_go e.two x.two hx (K - 1) B C okB.1 okC.1 okB.2 okC.2 h5
      rw [show K - 1 + 2 = K + 1 by omega, ← eP', eA] at r6
      have g6 : h6.get b = some (.cells Z .rw) := by rw [k6.2 _ (by omega), f5 _ (by omega), k4.2 _ (by omega), gb3]
      have puC := puG B C (by rw [okB.1, okC.1])
      have stC := stG C okC.1
      have ldC := ldG C okC.1
      refine ⟨h6.put b (.cells (ofI .u8 A) .rw), ?_, ⟨by have := k6.1; show h.next ≤ h6.next; omega, fun j hj => by rw [h_put_ne _ _ (by omega), k6.2 _ (by omega), f5 _ (by omega), k4.2 _ (by omega), K3.2 _ hj]⟩⟩
      clear stG puZ puG ldG ih
      obtain ⟨L, eL⟩ : ∃ n, l.length = n := ⟨_, rfl⟩
      rw [eL] at r2 r4 zs cs ⊢
      generalize ofI .u8 A = CA at *
      generalize ofI .u8 B = CB at *
      generalize ofI .u8 C = CC at *
      generalize szN L lev = sz at *
      generalize hn2 : 2 * n = n2 at *
      clear hn2
      simp (config := {maxSteps := 2000000}) (disch := first | omega | (simp only [List.length_cons, List.length_nil, List.length_append, List.length_drop]; omega)) only [↓al3, eb, e1, z0, w1, w2, w3, r2, q2, q3, gg2, stB, puB, ldB, zs, cs, r4, g4, stC, puC, ldC, e5, g5C, g5B, r6, g6, stA, puA, ldA, ↓s_len, x_lenS, Nat.zero_add, ↓h_put_get, ↓h_new_get, ↓s_load, m_load, ↓m_st, m_stE, x_lenS, ↓s_len, Nat.reduceAdd, s_resc, s_consR, s_res0, ↓s_skip, ↓s_ops, ↓s_seq, ↓s_cond, ↓s_ret, ↓s_nil, ↓s_op, ↓s_bindS, s_bindS, ↓s_bindE, s_bindE, s_norm, ↓s_condV, s_condV, ↓s_getp, ↓s_getp0, ↓s_get, ↓s_con, ↓s_os0, ↓s_os1, ↓s_list0, ↓s_list1, ↓s_mov, ↓s_bin, ↓s_call, s_same, b_eql, b_lss, b_add, b_sub, b_mul, s_end, s_res0, s_tup1, ↓iteN_true, ↓iteN_false, iteN_true, iteN_false, Nat.zero_add, Nat.reduceEqDiff, decide_true, decide_false]
    · have cs : decide (((2 * n + 1 : Nat) : Int) < (szN l.length lev : Int)) = false := decide_eq_false (by omega)
      have hC : (lvL l lev)[2 * n + 1]? = none := List.getElem?_eq_none (by omega)
      rw [hC] at eP
      have eP' : P = B ++ B := eP
      obtain ⟨h6, r6, k6⟩ := rtwo_go e.two x.two hx (K - 1) B B okB.1 okB.1 okB.2 okB.2 g3
      rw [show K - 1 + 2 = K + 1 by omega, ← eP', eA] at r6
      have g6 : h6.get b = some (.cells Z .rw) := by rw [k6.2 _ (by omega), gb3]
      have g3C := c3.gt
      refine ⟨h6.put b (.cells (ofI .u8 A) .rw), ?_, ⟨by have := k6.1; show h.next ≤ h6.next; omega, fun j hj => by rw [h_put_ne _ _ (by omega), k6.2 _ (by omega), K3.2 _ hj]⟩⟩
      clear stG puZ puG ldG ih
      obtain ⟨L, eL⟩ : ∃ n, l.length = n := ⟨_, rfl⟩
      rw [eL] at r2 zs cs ⊢
      generalize ofI .u8 A = CA at *
      generalize ofI .u8 B = CB at *
      generalize szN L lev = sz at *
      generalize hn2 : 2 * n = n2 at *
      clear hn2
      simp (config := {maxSteps := 2000000}) (disch := first | omega | (simp only [List.length_cons, List.length_nil, List.length_append, List.length_drop]; omega)) only [↓al3, eb, e1, z0, w1, w2, w3, r2, q2, q3, gg2, stB, puB, ldB, zs, cs, gB3, g3C, r6, g6, stA, puA, ldA, ↓s_len, x_lenS, Nat.zero_add, ↓h_put_get, ↓h_new_get, ↓s_load, m_load, ↓m_st, m_stE, x_lenS, ↓s_len, Nat.reduceAdd, s_resc, s_consR, s_res0, ↓s_skip, ↓s_ops, ↓s_seq, ↓s_cond, ↓s_ret, ↓s_nil, ↓s_op, ↓s_bindS, s_bindS, ↓s_bindE, s_bindE, s_norm, ↓s_condV, s_condV, ↓s_getp, ↓s_getp0, ↓s_get, ↓s_con, ↓s_os0, ↓s_os1, ↓s_list0, ↓s_list1, ↓s_mov, ↓s_bin, ↓s_call, s_same, b_eql, b_lss, b_add, b_sub, b_mul, s_end, s_res0, s_tup1, ↓iteN_true, ↓iteN_false, iteN_true, iteN_false, Nat.zero_add, Nat.reduceEqDiff, decide_true, decide_false]
end Go.Eng
namespace Go.Eng
open Go
variable {E : Nat → Option Fn} {X : Orc}
set_option linter.unusedSimpArgs false
set_option linter.unusedVariables false
theorem lvL_rt : ∀ (k : Nat) (l : List (List Nat)), l.length ≤ k → 0 < l.length → (lvL l (dpN l.length))[0]? = some (rtL l) := by
  intro k
  induction k with
  | zero => intro l h h0; omega
  | succ k ih =>
    intro l h h0
    by_cases h1 : l.length ≤ 1
    · obtain ⟨x, rfl⟩ := List.length_eq_one_iff.1 (show l.length = 1 by omega)
      rw [dpN_1 _ h1, rtL_1]; rfl
    · rw [dpN_up _ (by omega), rtL_up l (by omega), ← lvL_up, ← up_len]
      exact ih (up l) (by rw [up_len]; omega) (by rw [up_len]; omega)
theorem depth_neg (e : E k_merkle_Depth = some f_merkle_Depth) (x : ∀ a h, X (.fn k_merkle_Depth) a h = none) (N : Nat) (hN : 100 < N) (n : Int) (hn : n < 0) (h : H) :
    callX E X (N + 1) (.fn k_merkle_Depth) [.int .i64 n] h = some (.int .i64 0, h) := by
  rw [x_cfn e _ _ (Nat.le_of_ble_eq_true rfl) (x _ _)]
  obtain ⟨N, rfl⟩ : ∃ m, N = m + 1 := ⟨N - 1, by omega⟩
  have c0 : decide ((1 : Int) < n) = false := decide_eq_false (by omega)
  simp (config := {maxSteps := 2000000}) (disch := first | omega | (simp only [List.length_cons, List.length_nil, List.length_append, List.length_drop]; omega)) only [L_merkle_Depth_0, R_merkle_Depth_0, l_succ, c0, ↓l_loop, ↓l_succ, l_exit, s_res0, ↓s_ops, ↓s_seq, ↓s_cond, ↓s_block, ↓s_exit, ↓s_ret, ↓s_nil, ↓s_op, ↓s_bindS, s_bindS, ↓s_bindE, s_bindE, s_bindE_exit, s_norm, ↓s_condV, s_condV, s_block_exit, ↓s_getp, ↓s_get, ↓s_con, ↓s_list0, ↓s_list1, ↓s_mov, ↓s_bin, s_same, b_gtr, s_end, s_res0, s_res1, s_tup1, ↓iteN_true, ↓iteN_false, iteN_true, iteN_false, Nat.reduceEqDiff, decide_true, decide_false, if_true]
theorem rdepth_neg (e : E k_purserref08_Depth = some f_purserref08_Depth) (x : ∀ a h, X (.fn k_purserref08_Depth) a h = none) (N : Nat) (n : Int) (hn : n < 0) (h : H) :
    callX E X (N + 1) (.fn k_purserref08_Depth) [.int .i64 n] h = some (.int .i64 0, h) := by
  rw [x_cfn e _ _ (Nat.le_of_ble_eq_true rfl) (x _ _)]
  have c0 : decide (n < 2) = true := decide_eq_true (by omega)
  simp (config := {maxSteps := 2000000}) (disch := first | omega | (simp only [List.length_cons, List.length_nil, List.length_append, List.length_drop]; omega)) only [c0, s_res0, ↓s_ops, ↓s_seq, ↓s_cond, ↓s_ret, ↓s_nil, ↓s_op, ↓s_bindS, s_bindS, ↓s_bindE, s_bindE, s_bindE_ret, s_norm, ↓s_condV, s_condV, ↓s_getp, ↓s_get, ↓s_con, ↓s_list0, ↓s_list1, ↓s_mov, ↓s_bin, s_same, b_lss, s_end, s_res0, s_res1, s_tup1, ↓iteN_true, ↓iteN_false, iteN_true, iteN_false, Nat.reduceEqDiff, decide_true, decide_false]
theorem root_err (e : EnRt E) (x : NoRt X) (N : Nat) (a : Option (Nat × Nat)) (c : Option Nat) (ez : Nat) (h : H) :
    ∃ h', callX E X (N + 1) (.fn k_merkle_Root) [.slice a 0 c ez] h = some (.tup [.agg (ofI .u8 (List.replicate 32 0)), .int .i64 80], h') ∧ Kp h h' := by
  rw [x_cfn e.rt _ _ (Nat.le_of_ble_eq_true rfl) (x.rt _ _)]
  obtain ⟨Z, eZ⟩ : ∃ Z, ofI .u8 (List.replicate 32 0) = Z := ⟨_, rfl⟩
  have al3 : ∀ (Q : Orc) (T : Tr V) (h : H), Eng.step (.alloc [.int .u8 0, .int .u8 0, .int .u8 0, .int .u8 0, .int .u8 0, .int .u8 0, .int .u8 0, .int .u8 0, .int .u8 0, .int .u8 0, .int .u8 0, .int .u8 0, .int .u8 0, .int .u8 0, .int .u8 0, .int .u8 0, .int .u8 0, .int .u8 0, .int .u8 0, .int .u8 0, .int .u8 0, .int .u8 0, .int .u8 0, .int .u8 0, .int .u8 0, .int .u8 0, .int .u8 0, .int .u8 0, .int .u8 0, .int .u8 0, .int .u8 0, .int .u8 0]) Q T h = some (.ptr (some (h.next, 0)), h.new (.cells Z .rw)) := fun Q T h => by rw [← eZ]; rfl
  have bu : ∀ (Q : Orc) (T : Tr V) (h : H), Eng.step (.build [.int .u8 0, .int .u8 0, .int .u8 0, .int .u8 0, .int .u8 0, .int .u8 0, .int .u8 0, .int .u8 0, .int .u8 0, .int .u8 0, .int .u8 0, .int .u8 0, .int .u8 0, .int .u8 0, .int .u8 0, .int .u8 0, .int .u8 0, .int .u8 0, .int .u8 0, .int .u8 0, .int .u8 0, .int .u8 0, .int .u8 0, .int .u8 0, .int .u8 0, .int .u8 0, .int .u8 0, .int .u8 0, .int .u8 0, .int .u8 0, .int .u8 0, .int .u8 0] []) Q T h = some (.agg Z, h) := fun Q T h => by rw [← eZ]; rfl
  have lZ : Z.length = 32 := by rw [← eZ, ofI_len, List.length_replicate]
  have st : ∀ h i, storeV h 32 (.ptr (some (i, 0))) (.agg Z) = storeE (h.get i) h i 0 Z := fun h i => by rw [← eZ]; exact st32 h i 0 _ (List.length_replicate ..)
  have pu : ∀ h i, storeE (some (.cells Z .rw)) h i 0 Z = some (h.put i (.cells Z .rw)) := fun h i => by
    rw [m_storeE _ _ _ _ _ (by omega), writeN_all _ _ rfl]
  have ld : ∀ m, loadE (some (.cells Z m)) (some 32) 0 = some (.agg Z) := fun m => by rw [m_loadN, x_readAll _ 32 lZ]
  have z0 : decide ((0 : Int) = 0) = true := rfl
  rw [eZ]
  exact ⟨(h.new (.cells Z .rw)).put h.next (.cells Z .rw), by
    simp (config := {maxSteps := 2000000}) (disch := first | omega | (simp only [List.length_cons, List.length_nil, List.length_append, List.length_drop]; omega)) only [↓al3, ↓bu, st, pu, ld, ↓s_len, x_lenS, ↓h_put_get, ↓h_new_get, m_load, ↓m_st, m_stE, x_lenS, ↓s_len, Int.cast_ofNat_Int, s_resc, s_consR, s_res0, ↓s_ops, ↓s_seq, ↓s_cond, ↓s_ret, ↓s_nil, ↓s_op, ↓s_bindS, s_bindS, ↓s_bindE, s_bindE, s_bindE_ret, s_norm, ↓s_condV, s_condV, ↓s_getp, ↓s_getp0, ↓s_get, ↓s_con, ↓s_list0, ↓s_list1, ↓s_mov, ↓s_bin, s_same, b_eql, s_end, s_res0, s_res1, s_tup2, ↓iteN_true, ↓iteN_false, iteN_true, iteN_false, Nat.reduceEqDiff, decide_true, decide_false]
    try rfl, by (repeat (first | exact Kp.refl _ | refine Kp.put ?_ _ (by first | omega | (simp only [h_next_put, h_next_new, h_next_del]; omega)) | refine Kp.del ?_ (by first | omega | (simp only [h_next_put, h_next_new, h_next_del]; omega)) | refine Kp.trans ?_ (Kp.new _ _)))⟩
theorem rroot_go (e : EnNd E) (x : NoNd X) (er : E k_purserref08_Root = some f_purserref08_Root) (xr : ∀ a h, X (.fn k_purserref08_Root) a h = none) (hx : HasRtw E X) (K : Nat) (hK : 1100 < K) (l : List (List Nat)) (ok : ∀ o ∈ l, o.length = 32 ∧ byt o = true) (hl : l.length ≤ 1000) (a : Option (Nat × Nat)) (c : Option Nat) (ez : Nat) (h : H) (S : HsR 32 h a ez l) :
    ∃ h', callX E X (K + 2) (.fn k_purserref08_Root) [.slice a l.length c ez] h = some (if l.length = 0 then .tup [.agg (ofI .u8 (List.replicate 32 0)), .int .i64 80] else .tup [.agg (ofI .u8 (rtL l)), .int .i64 0], h') ∧ Kp h h' := by
  rw [x_cfn er _ _ (Nat.le_of_ble_eq_true rfl) (xr _ _)]
  obtain ⟨Z, eZ⟩ : ∃ Z, ofI .u8 (List.replicate 32 0) = Z := ⟨_, rfl⟩
  have al3 : ∀ (Q : Orc) (T : Tr V) (h : H), Eng.step (.alloc [.int .u8 0, .int .u8 0, .int .u8 0, .int .u8 0, .int .u8 0, .int .u8 0, .int .u8 0, .int .u8 0, .int .u8 0, .int .u8 0, .int .u8 0, .int .u8 0, .int .u8 0, .int .u8 0, .int .u8 0, .int .u8 0, .int .u8 0, .int .u8 0, .int .u8 0, .int .u8 0, .int .u8 0, .int .u8 0, .int .u8 0, .int .u8 0, .int .u8 0, .int .u8 0, .int .u8 0, .int .u8 0, .int .u8 0, .int .u8 0, .int .u8 0, .int .u8 0]) Q T h = some (.ptr (some (h.next, 0)), h.new (.cells Z .rw)) := fun Q T h => by rw [← eZ]; rfl
  have bu : ∀ (Q : Orc) (T : Tr V) (h : H), Eng.step (.build [.int .u8 0, .int .u8 0, .int .u8 0, .int .u8 0, .int .u8 0, .int .u8 0, .int .u8 0, .int .u8 0, .int .u8 0, .int .u8 0, .int .u8 0, .int .u8 0, .int .u8 0, .int .u8 0, .int .u8 0, .int .u8 0, .int .u8 0, .int .u8 0, .int .u8 0, .int .u8 0, .int .u8 0, .int .u8 0, .int .u8 0, .int .u8 0, .int .u8 0, .int .u8 0, .int .u8 0, .int .u8 0, .int .u8 0, .int .u8 0, .int .u8 0, .int .u8 0] []) Q T h = some (.agg Z, h) := fun Q T h => by rw [← eZ]; rfl
  have lZ : Z.length = 32 := by rw [← eZ, ofI_len, List.length_replicate]
  rw [eZ]
  by_cases h0 : l.length = 0
  · rw [if_pos h0, h0]
    have st : ∀ h i, storeV h 32 (.ptr (some (i, 0))) (.agg Z) = storeE (h.get i) h i 0 Z := fun h i => by rw [← eZ]; exact st32 h i 0 _ (List.length_replicate ..)
    have pu : ∀ h i, storeE (some (.cells Z .rw)) h i 0 Z = some (h.put i (.cells Z .rw)) := fun h i => by
      rw [m_storeE _ _ _ _ _ (by omega), writeN_all _ _ rfl]
    have ld : ∀ m, loadE (some (.cells Z m)) (some 32) 0 = some (.agg Z) := fun m => by rw [m_loadN, x_readAll _ 32 lZ]
    have z0 : decide ((0 : Int) = 0) = true := rfl
    exact ⟨(h.new (.cells Z .rw)).put h.next (.cells Z .rw), by
      simp (config := {maxSteps := 2000000}) (disch := first | omega | (simp only [List.length_cons, List.length_nil, List.length_append, List.length_drop]; omega)) only [↓al3, ↓bu, st, pu, ld, ↓s_len, x_lenS, ↓h_put_get, ↓h_new_get, m_load, ↓m_st, m_stE, x_lenS, ↓s_len, Int.cast_ofNat_Int, s_resc, s_consR, s_res0, ↓s_ops, ↓s_seq, ↓s_cond, ↓s_ret, ↓s_nil, ↓s_op, ↓s_bindS, s_bindS, ↓s_bindE, s_bindE, s_bindE_ret, s_norm, ↓s_condV, s_condV, ↓s_getp, ↓s_getp0, ↓s_get, ↓s_con, ↓s_list0, ↓s_list1, ↓s_mov, ↓s_bin, s_same, b_eql, s_end, s_res0, s_res1, s_tup2, ↓iteN_true, ↓iteN_false, iteN_true, iteN_false, Nat.reduceEqDiff, decide_true, decide_false]
      try rfl, by (repeat (first | exact Kp.refl _ | refine Kp.put ?_ _ (by first | omega | (simp only [h_next_put, h_next_new, h_next_del]; omega)) | refine Kp.del ?_ (by first | omega | (simp only [h_next_put, h_next_new, h_next_del]; omega)) | refine Kp.trans ?_ (Kp.new _ _)))⟩
  · rw [if_neg h0]
    have d6 := dpN_le 10 l.length (by have : (2 : Nat) ^ 10 = 1024 := rfl; omega)
    have rt := lvL_rt l.length l (Nat.le_refl _) (by omega)
    have lr := rtL_len l.length l (Nat.le_refl _) (by omega) (fun o ho => (ok o ho).1)
    obtain ⟨b, eb⟩ : ∃ b, h.next = b := ⟨_, rfl⟩
    obtain ⟨h1, e1⟩ : ∃ h1, h.new (.cells Z .rw) = h1 := ⟨_, rfl⟩
    have n1 : h1.next = b + 1 := by rw [← e1, ← eb]; rfl
    have k1 : Kp h h1 := by rw [← e1]; (repeat (first | exact Kp.refl _ | refine Kp.put ?_ _ (by first | omega | (simp only [h_next_put, h_next_new, h_next_del]; omega)) | refine Kp.del ?_ (by first | omega | (simp only [h_next_put, h_next_new, h_next_del]; omega)) | refine Kp.trans ?_ (Kp.new _ _)))
    have g1 : h1.get b = some (.cells Z .rw) := by rw [← e1, ← eb]; exact h_new_same _ _
    have dp := fun h => rdepth_go e.dp x.dp K (by omega) l.length (by omega) h
    obtain ⟨h2, r2, k2⟩ := node_go e x hx l ok (by omega) hl a c ez (dpN l.length) 0 K (rtL l) (by omega) (by omega) rt h1 (S.mono k1)
    have g2 : h2.get b = some (.cells Z .rw) := by rw [k2.2 _ (by omega), g1]
    have st : ∀ h i, storeV h 32 (.ptr (some (i, 0))) (.agg (ofI .u8 (rtL l))) = storeE (h.get i) h i 0 (ofI .u8 (rtL l)) := fun h i => st32 h i 0 _ lr
    have pu : ∀ h i, storeE (some (.cells Z .rw)) h i 0 (ofI .u8 (rtL l)) = some (h.put i (.cells (ofI .u8 (rtL l)) .rw)) := fun h i => by
      rw [m_storeE _ _ _ _ _ (by rw [← eZ, ofI_len, ofI_len, lr, List.length_replicate]; omega), ← eZ, wrAll _ _ _ (by rw [List.length_replicate, lr])]
    have ld : ∀ m, loadE (some (.cells (ofI .u8 (rtL l)) m)) (some 32) 0 = some (.agg (ofI .u8 (rtL l))) := fun m => by rw [m_loadN, x_readAll _ 32 (by rw [ofI_len, lr])]
    have c0 : decide ((l.length : Int) = 0) = false := decide_eq_false (by omega)
    refine ⟨h2.put b (.cells (ofI .u8 (rtL l)) .rw), ?_, ⟨by have := k2.1; show h.next ≤ h2.next; omega, fun j hj => by rw [h_put_ne _ _ (by omega), k2.2 _ (by omega), k1.2 _ hj]⟩⟩
    replace r2 : callX E X (K + 1) (.fn k_purserref08_node) [.slice a l.length c ez, .int .i64 (dpN l.length : Int), .int .i64 0] h1 = _ := r2
    obtain ⟨L, eL⟩ : ∃ n, l.length = n := ⟨_, rfl⟩
    rw [eL] at c0 dp r2 ⊢
    generalize ofI .u8 (rtL l) = CR at *
    simp (config := {maxSteps := 2000000}) (disch := first | omega | (simp only [List.length_cons, List.length_nil, List.length_append, List.length_drop]; omega)) only [↓al3, eb, e1, c0, dp, r2, g2, st, pu, ld, ↓s_len, x_lenS, ↓h_put_get, m_load, ↓m_st, m_stE, x_lenS, ↓s_len, s_resc, s_consR, s_res0, ↓s_skip, ↓s_ops, ↓s_seq, ↓s_cond, ↓s_ret, ↓s_nil, ↓s_op, ↓s_bindS, s_bindS, ↓s_bindE, s_bindE, s_norm, ↓s_condV, s_condV, ↓s_getp, ↓s_getp0, ↓s_get, ↓s_con, ↓s_os0, ↓s_os1, ↓s_list0, ↓s_list1, ↓s_mov, ↓s_bin, ↓s_call, s_same, b_eql, s_end, s_res0, s_res1, s_tup2, ↓iteN_true, ↓iteN_false, iteN_true, iteN_false, Nat.reduceEqDiff, decide_true, decide_false]
    try rfl
end Go.Eng
namespace Go.Eng
open Go
variable {E : Nat → Option Fn} {X : Orc}
set_option linter.unusedSimpArgs false
set_option linter.unusedVariables false
theorem rs_in (e : EnNd E) (x : NoNd X) (hx : HasRtw E X) (K m : Nat) (hK : 1100 < K) (l : List (List Nat)) (ok : ∀ o ∈ l, o.length = 32 ∧ byt o = true) (hl0 : 0 < l.length) (hl : l.length ≤ 1000) (a : Option (Nat × Nat)) (c : Option Nat) (ez lev mm : Nat) (hlev : lev < 80) (hmm : (lvL l lev).length / 2 = mm) :
    ∀ k i, i + k = mm → ∀ g, k < g → ∀ T h, HsR 32 h a ez l → evO T (.t 0) = .slice a l.length c ez → evO T (.t 3) = .int .i64 (lev : Int) → evO T (.t 4) = .int .i64 ((2 * i : Nat) : Int) →
    ∃ T' h' ex, loopN (evC (callX E X (K + 1)) 31 m none L_purserref08_Swollen_0) g ⟨T, [], h⟩ = some (ex, ⟨T', [], h'⟩) ∧ Kp h h' ∧ ((anyEq (((prs (lvL l lev)).take mm).drop i) = true ∧ ex = .ret ∧ evO T' (.t 2) = .bool true) ∨ (anyEq (((prs (lvL l lev)).take mm).drop i) = false ∧ ex = .exit 2 ∧ evO T' (.t 0) = .slice a l.length c ez ∧ evO T' (.t 3) = .int .i64 (lev : Int))) := by
  have ll := lvL_len l lev
  have sl := szN_le l.length lev hl0
  have pl := prs_len _ (lvL l lev) rfl
  have zs := fun h => rsize_go e.sz x.sz K (by omega) l.length lev hl0 (by omega) (by omega) h
  intro k
  induction k with
  | zero =>
    intro i hi g hg T h S t0 t3 t4
    obtain ⟨g, rfl⟩ : ∃ j, g = j + 1 := ⟨g - 1, by omega⟩
    obtain rfl : i = mm := by omega
    have hd : ((prs (lvL l lev)).take i).drop i = [] := List.drop_eq_nil_of_le (by rw [List.length_take]; omega)
    have w1 : wr .i64 (((2 * i : Nat) : Int) + 1) = ((2 * i + 1 : Nat) : Int) := by rw [wr_i64 (by omega)]; omega
    have c0 : decide (((2 * i + 1 : Nat) : Int) < (szN l.length lev : Int)) = false := decide_eq_false (by omega)
    rw [l_succ]
    refine ⟨_, h, .exit 2, by
      simp (config := {maxSteps := 2000000}) (disch := first | omega | (simp only [List.length_cons, List.length_nil, List.length_append, List.length_drop]; omega)) only [L_purserref08_Swollen_0, t0, t3, t4, w1, zs, c0, ↓s_len, x_lenS, l_exit, x_lenS, ↓s_len, ↓s_ops, ↓s_seq, ↓s_cond, ↓s_exit, ↓s_nil, ↓s_op, ↓s_bindS, s_bindS, ↓s_bindE, s_bindE, s_bindE_exit, s_norm, ↓s_condV, s_condV, ↓s_getp, ↓s_con, ↓s_os0, ↓s_os1, ↓s_mov, ↓s_bin, ↓s_call, s_same, b_lss, b_add, ↓iteN_true, ↓iteN_false, iteN_true, iteN_false, Nat.reduceEqDiff, decide_true, decide_false]
      exact rfl, Kp.refl _, .inr ⟨by rw [hd]; rfl, rfl, (by (simp only [s_getp, Nat.reduceEqDiff, decide_false, iteN_false, t0]; try rfl)), (by (simp only [s_getp, Nat.reduceEqDiff, decide_false, iteN_false, t3]; try rfl))⟩⟩
  | succ k ih =>
    intro i hi g hg T h S t0 t3 t4
    obtain ⟨g, rfl⟩ : ∃ j, g = j + 1 := ⟨g - 1, by omega⟩
    have hA : (lvL l lev)[2 * i]? = some ((lvL l lev)[2 * i]'(by omega)) := List.getElem?_eq_getElem (by omega)
    have hB : (lvL l lev)[2 * i + 1]? = some ((lvL l lev)[2 * i + 1]'(by omega)) := List.getElem?_eq_getElem (by omega)
    obtain ⟨A, eA⟩ : ∃ A, (lvL l lev)[2 * i]'(by omega) = A := ⟨_, rfl⟩
    obtain ⟨B, eB⟩ : ∃ B, (lvL l lev)[2 * i + 1]'(by omega) = B := ⟨_, rfl⟩
    rw [eA] at hA
    rw [eB] at hB
    clear eA eB
    have okA := lvL_ok l ok lev A (List.mem_of_getElem? hA)
    have okB := lvL_ok l ok lev B (List.mem_of_getElem? hB)
    have pg := prs_get i _ A hA
    rw [hB] at pg
    have hcons : ((prs (lvL l lev)).take mm).drop i = (A ++ B) :: ((prs (lvL l lev)).take mm).drop (i + 1) := by
      have h1 : ((prs (lvL l lev)).take mm)[i]? = some (A ++ B) := by rw [List.getElem?_take_of_lt (by omega)]; exact pg
      obtain ⟨h2, h3⟩ := List.getElem?_eq_some_iff.1 h1
      rw [List.drop_eq_getElem_cons h2, h3]
    have hae : anyEq ((A ++ B) :: ((prs (lvL l lev)).take mm).drop (i + 1)) = (decide (A = B) || anyEq (((prs (lvL l lev)).take mm).drop (i + 1))) := by
      unfold anyEq; rw [List.any_cons, List.take_left' okA.1, List.drop_left' okA.1]
    obtain ⟨h1, r1, k1⟩ := node_go e x hx l ok hl0 hl a c ez lev (2 * i) K A (by omega) (by omega) hA h S
    obtain ⟨h2, r2, k2⟩ := node_go e x hx l ok hl0 hl a c ez lev (2 * i + 1) K B (by omega) (by omega) hB h1 (S.mono k1)
    have w1 : wr .i64 (((2 * i : Nat) : Int) + 1) = ((2 * i + 1 : Nat) : Int) := by rw [wr_i64 (by omega)]; omega
    have w2 : wr .i64 (((2 * i : Nat) : Int) + 2) = ((2 * (i + 1) : Nat) : Int) := by rw [wr_i64 (by omega)]; omega
    have c0 : decide (((2 * i + 1 : Nat) : Int) < (szN l.length lev : Int)) = true := decide_eq_true (by omega)
    have eq := fun h => eq32 h A B okA.1 okB.1
    rw [l_succ, hcons, hae]
    by_cases hc : A = B
    · have hd : decide (A = B) = true := decide_eq_true hc
      rw [hd] at eq ⊢
      rw [Bool.true_or]
      refine ⟨_, h2, .ret, by
        simp (config := {maxSteps := 2000000}) (disch := first | omega | (simp only [List.length_cons, List.length_nil, List.length_append, List.length_drop]; omega)) only [L_purserref08_Swollen_0, t0, t3, t4, w1, zs, c0, r1, r2, eq, ↓s_len, x_lenS, l_ret, x_lenS, ↓s_len, ↓s_skip, ↓s_ops, ↓s_seq, ↓s_cond, ↓s_block, ↓s_ret, ↓s_nil, ↓s_op, ↓s_bindS, s_bindS, ↓s_bindE, s_bindE, s_bindE_ret, s_norm, ↓s_condV, s_condV, s_block_ret, ↓s_getp, ↓s_con, ↓s_os0, ↓s_os1, ↓s_mov, ↓s_bin, ↓s_call, s_same, b_lss, b_add, ↓iteN_true, ↓iteN_false, iteN_true, iteN_false, Nat.reduceEqDiff, decide_true, decide_false]
        exact rfl, k1.trans k2, .inl ⟨rfl, rfl, (by (simp only [s_getp, decide_true, iteN_true]; try rfl))⟩⟩
    · have hd : decide (A = B) = false := decide_eq_false hc
      rw [hd] at eq ⊢
      rw [Bool.false_or]
      have go : ∃ T1, evC (callX E X (K + 1)) 31 m none L_purserref08_Swollen_0 ⟨T, [], h⟩ = some (.normal, ⟨T1, [], h2⟩) ∧ evO T1 (.t 0) = .slice a l.length c ez ∧ evO T1 (.t 3) = .int .i64 (lev : Int) ∧ evO T1 (.t 4) = .int .i64 ((2 * (i + 1) : Nat) : Int) := by
        refine ⟨_, by
          simp (config := {maxSteps := 2000000}) (disch := first | omega | (simp only [List.length_cons, List.length_nil, List.length_append, List.length_drop]; omega)) only [L_purserref08_Swollen_0, t0, t3, t4, w1, w2, zs, c0, r1, r2, eq, ↓s_len, x_lenS, x_lenS, ↓s_len, ↓s_skip, ↓s_ops, ↓s_seq, ↓s_cond, ↓s_block, ↓s_nil, ↓s_op, ↓s_bindS, s_bindS, ↓s_bindE, s_bindE, s_norm, ↓s_condV, s_condV, s_block_normal, ↓s_getp, ↓s_con, ↓s_os0, ↓s_os1, ↓s_mov, ↓s_bin, ↓s_call, s_same, b_lss, b_add, ↓iteN_true, ↓iteN_false, iteN_true, iteN_false, Nat.reduceEqDiff, decide_true, decide_false]
          exact rfl, (by (simp only [s_getp, Nat.reduceEqDiff, decide_false, iteN_false, t0]; try rfl)), (by (simp only [s_getp, Nat.reduceEqDiff, decide_false, iteN_false, t3]; try rfl)), (by (simp only [s_getp, decide_true, iteN_true]; try rfl))⟩
      obtain ⟨T1, r, u0, u3, u4⟩ := go
      rw [r, l_normal]
      obtain ⟨T', h', ex, r', k', d⟩ := ih (i + 1) (by omega) g (by omega) T1 h2 ((S.mono k1).mono k2) u0 u3 u4
      exact ⟨T', h', ex, r', (k1.trans k2).trans k', d⟩
theorem rs_out (e : EnNd E) (x : NoNd X) (hx : HasRtw E X) (K m : Nat) (hm : 1100 < m) (hK : 1100 < K) (l : List (List Nat)) (ok : ∀ o ∈ l, o.length = 32 ∧ byt o = true) (hl0 : 0 < l.length) (hl : l.length ≤ 1000) (a : Option (Nat × Nat)) (c : Option Nat) (ez : Nat) :
    ∀ k lev, lev + k = dpN l.length → swL (lvL l lev) = swL l → ∀ g, k < g → ∀ T h, HsR 32 h a ez l → evO T (.t 0) = .slice a l.length c ez → evO T (.t 3) = .int .i64 (lev : Int) →
    ∃ T' h' ex, loopN (evC (callX E X (K + 1)) 31 m none L_purserref08_Swollen_1) g ⟨T, [], h⟩ = some (ex, ⟨T', [], h'⟩) ∧ Kp h h' ∧ ((swL l = true ∧ ex = .ret ∧ evO T' (.t 2) = .bool true) ∨ (swL l = false ∧ ex = .exit 0)) := by
  have d10 := dpN_le 10 l.length (by have : (2 : Nat) ^ 10 = 1024 := rfl; omega)
  have dp := fun h => rdepth_go e.dp x.dp K (by omega) l.length (by omega) h
  have ldp : ∀ (k n : Nat), n ≤ k → 0 < n → szN n (dpN n) = 1 := by
    intro k
    induction k with
    | zero => intro n h1 h2; omega
    | succ k ih =>
      intro n h1 h2
      by_cases h3 : n ≤ 1
      · rw [dpN_1 n h3]; show n = 1; omega
      · rw [dpN_up n (by omega)]
        have sh : ∀ j n, szN n (j + 1) = szN ((n + 1) / 2) j := by
          intro j
          induction j with
          | zero => intro n; rfl
          | succ j ihj => intro n; show (szN n (j + 1) + 1) / 2 = (szN ((n + 1) / 2) j + 1) / 2; rw [ihj]
        rw [sh]
        exact ih ((n + 1) / 2) (by omega) (by omega)
  intro k
  induction k with
  | zero =>
    intro lev hk hs g hg T h S t0 t3
    obtain ⟨g, rfl⟩ : ∃ j, g = j + 1 := ⟨g - 1, by omega⟩
    obtain rfl : lev = dpN l.length := by omega
    have l1 : (lvL l (dpN l.length)).length = 1 := by rw [lvL_len, ldp l.length l.length (Nat.le_refl _) hl0]
    obtain ⟨r, er⟩ := List.length_eq_one_iff.1 l1
    rw [er, swL_1] at hs
    have c0 : decide ((dpN l.length : Int) < (dpN l.length : Int)) = false := decide_eq_false (by omega)
    rw [l_succ]
    refine ⟨_, h, .exit 0, by
      simp (config := {maxSteps := 2000000}) (disch := first | omega | (simp only [List.length_cons, List.length_nil, List.length_append, List.length_drop]; omega)) only [L_purserref08_Swollen_1, t0, t3, dp, c0, ↓s_len, x_lenS, l_exit, x_lenS, ↓s_len, ↓s_ops, ↓s_seq, ↓s_cond, ↓s_exit, ↓s_nil, ↓s_op, ↓s_bindS, s_bindS, ↓s_bindE, s_bindE, s_bindE_exit, s_norm, ↓s_condV, s_condV, ↓s_getp, ↓s_os0, ↓s_os1, ↓s_mov, ↓s_bin, ↓s_call, s_same, b_lss, ↓iteN_true, ↓iteN_false, iteN_true, iteN_false, Nat.reduceEqDiff, decide_true, decide_false]
      exact rfl, Kp.refl _, .inr ⟨hs.symm, rfl⟩⟩
  | succ k ih =>
    intro lev hk hs g hg T h S t0 t3
    obtain ⟨g, rfl⟩ : ∃ j, g = j + 1 := ⟨g - 1, by omega⟩
    have c0 : decide ((lev : Int) < (dpN l.length : Int)) = true := decide_eq_true (by omega)
    have ll := lvL_len l lev
    have sl := szN_le l.length lev hl0
    -- a level below the last one has two at least
    have h2 : 1 < (lvL l lev).length := by
      rcases Nat.lt_or_ge 1 (lvL l lev).length with h | h
      · exact h
      · exfalso
        have dd : ∀ j (l : List (List Nat)), dpN l.length = dpN (lvL l j).length + j ∨ (lvL l j).length ≤ 1 ∧ dpN l.length ≤ j := by
          intro j
          induction j with
          | zero => intro l; left; rfl
          | succ j ihj =>
            intro l
            by_cases h1 : l.length ≤ 1
            · right
              refine ⟨?_, by rw [dpN_1 _ h1]; omega⟩
              have := lvL_len l (j + 1)
              rw [this]
              rcases Nat.eq_zero_or_pos l.length with h | h
              · rw [h]
                have z : ∀ j, szN 0 j = 0 := by intro j; induction j with
                  | zero => rfl
                  | succ j ih => show (szN 0 j + 1) / 2 = 0; rw [ih]
                rw [z]; omega
              · have := szN_le l.length (j + 1) h; omega
            · rw [← lvL_up]
              rcases ihj (up l) with h | ⟨h, h'⟩
              · left; rw [dpN_up _ (by omega), ← up_len, h]; omega
              · right; exact ⟨h, by rw [dpN_up _ (by omega), ← up_len]; omega⟩
        rcases dd lev l with h3 | ⟨_, h3⟩
        · rw [dpN_1 _ h] at h3; omega
        · omega
    have su := swL_up (lvL l lev) h2
    have hs' : swL (lvL l lev) = (anyEq ((prs (lvL l lev)).take ((lvL l lev).length / 2)) || swL (lvL l (lev + 1))) := su
    rw [l_succ]
    have fin : ∀ T1, evO T1 (.t 0) = .slice a l.length c ez → evO T1 (.t 3) = .int .i64 (lev : Int) → evO T1 (.t 4) = .int .i64 ((2 * 0 : Nat) : Int) →
        ∃ T' h' ex, loopE (bindE (blockE 1 (blockE 2 (loopN (evC (callX E X (K + 1)) 31 m none L_purserref08_Swollen_0) m ⟨T1, [], h⟩))) (evC (callX E X (K + 1)) 31 m none R_purserref08_Swollen_0)) (loopN (evC (callX E X (K + 1)) 31 m none L_purserref08_Swollen_1) g) = some (ex, ⟨T', [], h'⟩) ∧ Kp h h' ∧ ((swL l = true ∧ ex = .ret ∧ evO T' (.t 2) = .bool true) ∨ (swL l = false ∧ ex = .exit 0)) := by
      intro T1 u0 u3 u4
      obtain ⟨T2, h2', ex, r, k2, d⟩ := rs_in e x hx K m hK l ok hl0 hl a c ez lev _ (by omega) rfl ((lvL l lev).length / 2) 0 (by omega) m (by omega) T1 h S u0 u3 u4
      rw [r]
      rw [List.drop_zero] at d
      rcases d with ⟨d1, rfl, d2⟩ | ⟨d1, rfl, v0, v3⟩
      · rw [d1, Bool.true_or, hs] at hs'
        exact ⟨T2, h2', .ret, rfl, k2, .inl ⟨hs', rfl, d2⟩⟩
      · rw [d1, Bool.false_or, hs] at hs'
        have w1 : wr .i64 ((lev : Int) + 1) = ((lev + 1 : Nat) : Int) := by rw [wr_i64 (by omega)]; omega
        have go : ∃ T3, bindE (blockE 1 (blockE 2 (some (.exit 2, ⟨T2, [], h2'⟩)))) (evC (callX E X (K + 1)) 31 m none R_purserref08_Swollen_0) = some (.normal, ⟨T3, [], h2'⟩) ∧ evO T3 (.t 0) = .slice a l.length c ez ∧ evO T3 (.t 3) = .int .i64 ((lev + 1 : Nat) : Int) := by
          refine ⟨_, by
            simp (config := {maxSteps := 2000000}) (disch := first | omega | (simp only [List.length_cons, List.length_nil, List.length_append, List.length_drop]; omega)) only [R_purserref08_Swollen_0, v3, w1, ↓s_ops, ↓s_nil, ↓s_op, ↓s_bindS, s_bindS, ↓s_bindE, s_bindE, s_norm, s_block_normal, s_block_exit, ↓s_getp, ↓s_con, ↓s_mov, ↓s_bin, s_same, b_add, ↓iteN_true, iteN_true, decide_true, if_true]
            exact rfl, (by (simp only [s_getp, Nat.reduceEqDiff, decide_false, iteN_false, v0]; try rfl)), (by (simp only [s_getp, decide_true, iteN_true]; try rfl))⟩
        obtain ⟨T3, r3, v0', v3'⟩ := go
        rw [r3, l_normal]
        obtain ⟨T', h', ex, r', k', d⟩ := ih (lev + 1) (by omega) hs'.symm g (by omega) T3 h2' (S.mono k2) v0' v3'
        exact ⟨T', h', ex, r', k2.trans k', d⟩
    obtain ⟨R, eR⟩ : ∃ R, R_purserref08_Swollen_0 = R := ⟨_, rfl⟩
    obtain ⟨Lo, eL⟩ : ∃ R, L_purserref08_Swollen_0 = R := ⟨_, rfl⟩
    obtain ⟨F, eF⟩ : ∃ F, loopN (evC (callX E X (K + 1)) 31 m none L_purserref08_Swollen_1) g = F := ⟨_, rfl⟩
    rw [eF] at fin ⊢
    rw [eR, eL] at fin
    obtain ⟨L, eLn⟩ : ∃ n, l.length = n := ⟨_, rfl⟩
    rw [eLn] at t0 dp c0 fin
    generalize dpN L = dd at *
    simp (config := {maxSteps := 2000000}) (disch := first | omega | (simp only [List.length_cons, List.length_nil, List.length_append, List.length_drop]; omega)) only [L_purserref08_Swollen_1, eR, eL, t0, t3, dp, c0, ↓s_len, x_lenS, ↓l_loop, x_lenS, ↓s_len, ↓s_skip, ↓s_ops, ↓s_seq, ↓s_cond, ↓s_block, ↓s_nil, ↓s_op, ↓s_bindS, s_bindS, ↓s_bindE, s_bindE, s_norm, ↓s_condV, s_condV, ↓s_getp, ↓s_con, ↓s_os0, ↓s_os1, ↓s_mov, ↓s_bin, ↓s_call, s_same, b_lss, ↓iteN_true, ↓iteN_false, iteN_true, iteN_false, Nat.reduceEqDiff, decide_true, decide_false]
    exact fin _ (by (simp only [s_getp, Nat.reduceEqDiff, decide_false, iteN_false, t0]; try rfl)) (by (simp only [s_getp, Nat.reduceEqDiff, decide_false, iteN_false, t3]; try rfl)) (by (simp only [s_getp, decide_true, iteN_true]; try rfl))
theorem rswollen_go (e : EnNd E) (x : NoNd X) (es : E k_purserref08_Swollen = some f_purserref08_Swollen) (xs : ∀ a h, X (.fn k_purserref08_Swollen) a h = none) (hx : HasRtw E X) (K : Nat) (hK : 1100 < K) (l : List (List Nat)) (ok : ∀ o ∈ l, o.length = 32 ∧ byt o = true) (hl0 : 0 < l.length) (hl : l.length ≤ 1000) (a : Option (Nat × Nat)) (c : Option Nat) (ez : Nat) (h : H) (S : HsR 32 h a ez l) :
    ∃ h', callX E X (K + 2) (.fn k_purserref08_Swollen) [.slice a l.length c ez] h = some (.bool (swL l), h') ∧ Kp h h' := by
  rw [x_cfn es _ _ (Nat.le_of_ble_eq_true rfl) (xs _ _)]
  have d10 := dpN_le 10 l.length (by have : (2 : Nat) ^ 10 = 1024 := rfl; omega)
  have fin : ∀ T, evO T (.t 0) = .slice a l.length c ez → evO T (.t 3) = .int .i64 ((0 : Nat) : Int) → ∃ h', fnEnd [.tmp 2] (bindE (blockE 0 (loopN (evC (callX E X (K + 1)) 31 (K + 1) none L_purserref08_Swollen_1) (K + 1) ⟨T, [], h⟩)) (evC (callX E X (K + 1)) 31 (K + 1) none R_purserref08_Swollen_1)) = some (.bool (swL l), h') ∧ Kp h h' := by
    intro T t0 t3
    obtain ⟨T', h', ex, r, k, d⟩ := rs_out e x hx K (K + 1) (by omega) hK l ok hl0 hl a c ez (dpN l.length) 0 (by omega) rfl (K + 1) (by omega) T h S t0 t3
    rw [r]
    rcases d with ⟨d1, rfl, d2⟩ | ⟨d1, rfl⟩
    · rw [d1]
      exact ⟨h', by
        simp (config := {maxSteps := 2000000}) (disch := first | omega | (simp only [List.length_cons, List.length_nil, List.length_append, List.length_drop]; omega)) only [d2, s_res0, s_bindE_ret, s_block_ret, s_end, s_res0, s_res1, s_tup1], k⟩
    · rw [d1]
      exact ⟨h', by
        simp (config := {maxSteps := 2000000}) (disch := first | omega | (simp only [List.length_cons, List.length_nil, List.length_append, List.length_drop]; omega)) only [R_purserref08_Swollen_1, s_res0, ↓s_ops, ↓s_seq, ↓s_ret, ↓s_nil, ↓s_op, ↓s_bindS, s_bindS, ↓s_bindE, s_bindE, s_norm, s_block_exit, ↓s_getp, ↓s_con, ↓s_mov, s_end, s_res0, s_res1, s_tup1, ↓iteN_true, iteN_true, decide_true, if_true], k⟩
  obtain ⟨R, eR⟩ : ∃ R, R_purserref08_Swollen_1 = R := ⟨_, rfl⟩
  obtain ⟨Lo, eL⟩ : ∃ R, L_purserref08_Swollen_1 = R := ⟨_, rfl⟩
  rw [eR, eL] at fin ⊢
  simp (config := {maxSteps := 2000000}) (disch := first | omega | (simp only [List.length_cons, List.length_nil, List.length_append, List.length_drop]; omega)) only [↓l_loop, ↓l_succ, ↓s_ops, ↓s_seq, ↓s_block, ↓s_nil, ↓s_op, ↓s_bindS, s_bindS, ↓s_bindE, s_bindE, s_norm, ↓s_con, ↓s_list0, ↓s_list1, ↓s_mov]
  exact fin _ (by (simp only [s_getp, Nat.reduceEqDiff, decide_false, decide_true, iteN_false, iteN_true, s_get]; try rfl)) (by (simp only [s_getp, decide_true, iteN_true]; try rfl))
end Go.Eng
