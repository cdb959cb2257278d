/- What functions of the program come to: own work. -/
import Derived.Test.YtcgfhdhjanmgaaaMrA
namespace Go.Eng
open Go
variable {E : Nat → Option Fn} {X : Orc}
set_option linter.unusedSimpArgs false
set_option linter.unusedVariables false
/-- the hash of a pair's 64 bytes -/
def tw (l : List Nat) : List Nat := shaV (shaV l)
theorem tw_len (l : List Nat) : (tw l).length = 32 := shaV_len _
theorem tw_byt (l : List Nat) : byt (tw l) = true := shaV_byt _
noncomputable def apZ (n : V) (h : H) (s : V) : Option (V × H) := match n with
  | .int _ (.ofNat n) => bif roomy n 1 then appendC h 1 1 s (some (n, (List.replicate n [.int .u8 0]).flatten)) else none
  | _ => none
theorem x_appendZ (Q : Orc) (T : Tr V) (h : H) (s n : O) : Eng.step (.appendZ [.int .u8 0] 1 s n) Q T h = apZ (evO T n) h (evO T s) := _root_.id rfl
theorem flat0 (n : Nat) : (List.replicate n [V.int .u8 0]).flatten = ofI .u8 (List.replicate n 0) := by
  induction n with
  | zero => rfl
  | succ n ih => rw [List.replicate_succ, List.replicate_succ, List.flatten_cons, ih]; rfl
theorem apZ_n (k : IntKind) (n : Nat) (hn : n ≤ 1000) (h : H) (s : V) : apZ (.int k (n : Int)) h s = appendC h 1 1 s (some (n, ofI .u8 (List.replicate n 0))) := by
  show (bif roomy n 1 then appendC h 1 1 s (some (n, (List.replicate n [.int .u8 0]).flatten)) else none) = _
  have : roomy n 1 = true := by simp [roomy]; omega
  rw [this, flat0]; rfl
structure EnCat (E : Nat → Option Fn) : Prop where
  cc : E k_slices_Concat_byte_byte = some f_slices_Concat_byte_byte
  gr : E k_slices_Grow_byte_byte = some f_slices_Grow_byte_byte
structure NoCat (X : Orc) : Prop where
  cc : ∀ a h, X (.fn k_slices_Concat_byte_byte) a h = none
  gr : ∀ a h, X (.fn k_slices_Grow_byte_byte) a h = none
theorem grow_go (e : EnCat E) (x : NoCat X) (N : Nat) (h : H) :
    callX E X (N + 1) (.fn k_slices_Grow_byte_byte) [.slice none 0 (some 0) 0, .int .i64 64] h = some (.slice (some (h.next, 0)) 0 none 1, h.new (.cells (ofI .u8 (List.replicate 64 0)) .rw)) := by
  rw [x_cfn e.gr _ _ (Nat.le_of_ble_eq_true rfl) (x.gr _ _)]
  have c0 : decide ((64 : Int) < 0) = false := rfl
  have c1 : decide ((0 : Int) < 64) = true := rfl
  have w0 : wr .i64 (Int.ofNat 0 - 0) = 0 := rfl
  have w1 : wr .i64 64 = 64 := rfl
  have az : ∀ h s, apZ (.int .i64 64) h s = appendC h 1 1 s (some (64, ofI .u8 (List.replicate 64 0))) := fun h s => apZ_n .i64 64 (by decide) h s
  have a0 : ∀ c e, appendC h 1 1 (.slice none 0 c e) (some (64, ofI .u8 (List.replicate 64 0))) = _ := fun c e => app0 h 63 e .u8 (List.replicate 64 0) c (by decide)
  have xc : ∀ (Q : Orc) (T : Tr V) (h : H) (y : O), Eng.step (.cap y) Q T h = (match evO T y with | .slice _ _ (some c) _ => some (.int .i64 (.ofNat c), h) | _ => none) := fun Q T h y => _root_.id rfl
  have sl0 : slcV 1 none (some (.int .i64 (Int.ofNat 0))) none (.slice none 0 (some 0) 0) = some (.slice none 0 (some 0) 1) := rfl
  have sl1 : slcV 1 none (some (.int .i64 0)) none (.slice (some (h.next, 0)) 64 none 1) = some (.slice (some (h.next, 0)) 0 none 1) := rfl
  generalize List.replicate 64 0 = Z at *
  simp (config := {maxSteps := 2000000}) (disch := first | omega | (simp only [List.length_cons, List.length_nil, List.length_append, List.length_drop]; omega)) only [w0, w1, az, a0, xc, sl0, sl1, ↓x_appendZ, ↓x_slcS, x_M1, x_M0, ↓s_len, x_lenS, Nat.zero_add, x_lenS, ↓s_len, Int.reduceLT, Nat.reduceAdd, Int.reduceSub, Int.cast_ofNat_Int, s_res0, ↓s_skip, ↓s_ops, ↓s_seq, ↓s_cond, ↓s_ret, ↓s_nil, ↓s_op, ↓s_bindS, s_bindS, ↓s_bindE, s_bindE, s_norm, ↓s_condV, s_condV, ↓s_getp, ↓s_get, ↓s_con, ↓s_list0, ↓s_list1, ↓s_mov, ↓s_bin, s_same, b_lss, b_gtr, b_sub, s_end, s_res0, s_res1, s_tup1, ↓iteN_true, ↓iteN_false, iteN_true, iteN_false, Nat.zero_add, Nat.reduceEqDiff, decide_true, decide_false]
theorem concat_go (e : EnCat E) (x : NoCat X) (N : Nat) (P : List Nat) (hP : P.length = 64) (pa ps : Nat) (m1 m2 : Md) (h : H) (hpa : pa < h.next) (gs : h.get ps = some (.cells [.slice (some (pa, 0)) 32 (some 32) 1, .slice (some (pa, 32)) 32 (some 32) 1] m1)) (ga : h.get pa = some (.cells (ofI .u8 P) m2)) (hps : ps < h.next) :
    ∃ h', callX E X (N + 5) (.fn k_slices_Concat_byte_byte) [.slice (some (ps, 0)) 2 (some 2) 1] h = some (.slice (some (h'.next - 1, 0)) 64 none 1, h') ∧ Kp h h' ∧ h.next < h'.next ∧ h'.get (h'.next - 1) = some (.cells (ofI .u8 P) .sh) := by
  rw [x_cfn e.cc _ _ (Nat.le_of_ble_eq_true rfl) (x.cc _ _)]
  have c0 : decide ((0 : Int) < 2) = true := rfl
  have c1 : decide ((1 : Int) < 2) = true := rfl
  have c2 : decide ((2 : Int) < 2) = false := rfl
  have d0 : decide ((32 : Int) < 0) = false := rfl
  have d1 : decide ((64 : Int) < 0) = false := rfl
  have w0 : wr .i64 1 = 1 := rfl
  have w1 : wr .i64 2 = 2 := rfl
  have w2 : wr .i64 32 = 32 := rfl
  have w3 : wr .i64 64 = 64 := rfl
  have i0 : idx (0 : Int) 2 = some 0 := rfl
  have i1 : idx (1 : Int) 2 = some 1 := rfl
  have gr := grow_go (E := E) (X := X) e x (N + 3) h
  obtain ⟨h1, e1⟩ : ∃ h1, h.new (.cells (ofI .u8 (List.replicate 64 0)) .rw) = h1 := ⟨_, rfl⟩
  rw [e1] at gr
  have n1 : h1.next = h.next + 1 := by rw [← e1]; rfl
  have g1 : h1.get h.next = some (.cells (ofI .u8 (List.replicate 64 0)) .rw) := by rw [← e1]; exact h_new_same _ _
  have g1s : h1.get ps = some (.cells [.slice (some (pa, 0)) 32 (some 32) 1, .slice (some (pa, 32)) 32 (some 32) 1] m1) := by rw [← e1, h_new_ne _ _ (by omega), gs]
  have g1a : h1.get pa = some (.cells (ofI .u8 P) m2) := by rw [← e1, h_new_ne _ _ (by omega), ga]
  have sc1 : srcCells h1 1 (.slice (some (pa, 0)) 32 (some 32) 1) = some (32, ofI .u8 (P.take 32)) := by
    rw [m_src, g1a, srcI _ _ _ _ _ (by omega), List.drop_zero]
  have ap1 : appendC h1 1 1 (.slice (some (h.next, 0)) 0 none 1) (some (32, ofI .u8 (P.take 32))) = some (.slice (some (h1.next, 0)) 32 none 1, (h1.del h.next).new (.cells (ofI .u8 (P.take 32)) .sh)) := by
    rw [appU_of _ _ _ _ _ _ (by omega), g1, appUIw _ _ _ _ _ _ _ (by omega)]; rfl
  obtain ⟨h2, e2⟩ : ∃ h2, (h1.del h.next).new (.cells (ofI .u8 (P.take 32)) .sh) = h2 := ⟨_, rfl⟩
  rw [e2] at ap1
  have n2 : h2.next = h.next + 2 := by rw [← e2, h_next_new, h_next_del, n1]
  have g2 : h2.get h1.next = some (.cells (ofI .u8 (P.take 32)) .sh) := by rw [← e2]; exact h_new_same' _ _ (by rw [h_next_del])
  have f2 : ∀ j, j < h.next → h2.get j = h1.get j := fun j hj => by rw [← e2, h_new_ne _ _ (by rw [h_next_del]; omega), h_del_ne _ (by omega)]
  have sc2 : srcCells h2 1 (.slice (some (pa, 32)) 32 (some 32) 1) = some (32, ofI .u8 (P.drop 32)) := by
    rw [m_src, f2 _ hpa, g1a, srcI _ _ _ _ _ (by omega), List.take_of_length_le (by rw [List.length_drop]; omega)]
  have ap2 : appendC h2 1 1 (.slice (some (h1.next, 0)) 32 none 1) (some (32, ofI .u8 (P.drop 32))) = some (.slice (some (h2.next, 0)) 64 none 1, (h2.del h1.next).new (.cells (ofI .u8 P) .sh)) := by
    rw [appU_of _ _ _ _ _ _ (by omega), g2, appUIs _ _ _ _ _ _ _ (by rw [List.length_take]; omega), List.take_take, Nat.min_self, List.take_append_drop]
  obtain ⟨h3, e3⟩ : ∃ h3, (h2.del h1.next).new (.cells (ofI .u8 P) .sh) = h3 := ⟨_, rfl⟩
  rw [e3] at ap2
  have n3 : h3.next = h.next + 3 := by rw [← e3, h_next_new, h_next_del, n2]
  have g2s : h2.get ps = some (.cells [.slice (some (pa, 0)) 32 (some 32) 1, .slice (some (pa, 32)) 32 (some 32) 1] m1) := by rw [f2 _ hps, g1s]
  rw [n2] at ap2
  rw [n1] at ap1 ap2
  refine ⟨h3, ?_, ⟨by omega, fun j hj => by rw [← e3, h_new_ne _ _ (by rw [h_next_del]; omega), h_del_ne _ (by omega), f2 _ hj, ← e1, h_new_ne _ _ (by omega)]⟩, by omega, by rw [n3, ← e3]; exact h_new_same' _ _ (by rw [h_next_del, n2]; omega)⟩
  rw [show h3.next - 1 = h.next + 2 by omega]
  have fin : ∀ T : Tr V, evO T (.t 0) = .slice (some (ps, 0)) 2 (some 2) 1 → evO T (.t 3) = .int .i64 64 → fnEnd [.tmp 2] (evC (callX E X (N + 4)) 36 (N + 4) none R_slices_Concat_byte_byte_1 ⟨T, [], h⟩) = some (.slice (some (h.next + 2, 0)) 64 none 1, h3) := by
    intro T t0 t3
    simp (config := {maxSteps := 2000000}) (disch := first | omega | (simp only [List.length_cons, List.length_nil, List.length_append, List.length_drop]; omega)) only [R_slices_Concat_byte_byte_1, R_slices_Concat_byte_byte_0, L_slices_Concat_byte_byte_1, l_succ, l_normal, t0, t3, w0, w1, i0, i1, gr, g1s, g2s, sc1, ap1, sc2, ap2, ↓s_append, ↓s_len, x_lenS, Nat.zero_add, Nat.add_zero, Nat.mul_one, ↓l_loop, ↓l_succ, ↓l_normal, l_normal, l_exit, ↓s_load, m_load, ↓m_load1, m_load1, ↓x_idxS, x_idxSE, x_addrE, x_lenS, ↓s_len, Int.reduceAdd, Int.reduceLT, Int.cast_ofNat_Int, s_res0, ↓s_skip, ↓s_ops, ↓s_seq, ↓s_cond, ↓s_block, ↓s_exit, ↓s_ret, ↓s_nil, ↓s_op, ↓s_bindS, s_bindS, ↓s_bindE, s_bindE, s_bindE_exit, s_norm, ↓s_condV, s_condV, s_block_normal, s_block_exit, ↓s_getp, ↓s_con, ↓s_os0, ↓s_os1, ↓s_mov, ↓s_bin, ↓s_call, s_same, b_lss, b_add, s_end, s_res0, s_res1, s_tup1, ↓iteN_true, ↓iteN_false, iteN_true, iteN_false, Nat.zero_add, Nat.reduceEqDiff, decide_true, decide_false, List.getElem?_cons_zero, List.getElem?_cons_succ, if_true]
    try rfl
  obtain ⟨R, eR⟩ : ∃ R, R_slices_Concat_byte_byte_1 = R := ⟨_, rfl⟩
  rw [eR] at fin
  simp (config := {maxSteps := 2000000}) (disch := first | omega | (simp only [List.length_cons, List.length_nil, List.length_append, List.length_drop]; omega)) only [eR, L_slices_Concat_byte_byte_0, l_succ, l_normal, w0, w1, w2, w3, i0, i1, gs, ↓s_len, x_lenS, Nat.zero_add, Nat.add_zero, Nat.mul_one, ↓l_loop, ↓l_succ, ↓l_normal, l_normal, l_exit, ↓s_load, m_load, ↓m_load1, m_load1, ↓x_idxS, x_idxSE, x_addrE, x_lenS, ↓s_len, Int.reduceAdd, Int.reduceLT, Int.cast_ofNat_Int, ↓s_skip, ↓s_ops, ↓s_seq, ↓s_cond, ↓s_block, ↓s_exit, ↓s_nil, ↓s_op, ↓s_bindS, s_bindS, ↓s_bindE, s_bindE, s_bindE_exit, s_norm, ↓s_condV, s_condV, s_block_normal, s_block_exit, ↓s_getp, ↓s_get, ↓s_con, ↓s_list0, ↓s_list1, ↓s_mov, ↓s_bin, s_same, b_lss, b_add, ↓iteN_true, ↓iteN_false, iteN_true, iteN_false, Nat.zero_add, Nat.reduceEqDiff, decide_true, decide_false, List.getElem?_cons_zero, List.getElem?_cons_succ, if_true]
  exact fin _ (by (simp only [s_getp, Nat.reduceEqDiff, decide_false, iteN_false]; try rfl)) (by (simp only [s_getp, Nat.reduceEqDiff, decide_false, decide_true, iteN_false, iteN_true]; try rfl))
def HasTw (E : Nat → Option Fn) (X : Orc) : Prop := ∀ (N : Nat) (l : List Nat) (a : Option (Nat × Nat)) (c : Option Nat) (h : H) (ez : Nat), SrcH h a ez l → l.length ≤ 100000 → callX E X (N + 1) (.fn k_sha_Twice) [.slice a l.length c ez] h = some (.agg (ofI .u8 (tw l)), h)
theorem tw64 (hx : HasTw E X) (N q : Nat) (P : List Nat) (hP : P.length = 64) (c : Option Nat) (md : Md) (h : H) (hq : q < h.next) (g : h.get q = some (.cells (ofI .u8 P) md)) : callX E X (N + 1) (.fn k_sha_Twice) [.slice (some (q, 0)) 64 c 1] h = some (.agg (ofI .u8 (tw P)), h) := by
  have := hx N P (some (q, 0)) c h 1 (.inr ⟨q, 0, _, md, rfl, rfl, hq, g, by rw [ofI_len]; omega, by rw [List.drop_zero]; exact List.take_of_length_le (by rw [ofI_len]; exact Nat.le_refl _)⟩) (by omega)
  rw [hP] at this; exact this
theorem above_go (e : EnCat E) (x : NoCat X) (hx : HasTw E X) (ea : E k_merkle_pair_above = some f_merkle_pair_above) (xa : ∀ a h, X (.fn k_merkle_pair_above) a h = none) (N : Nat) (P : List Nat) (hP : P.length = 64) (h : H) :
    ∃ h', callX E X (N + 6) (.fn k_merkle_pair_above) [.agg (ofI .u8 P)] h = some (.agg (ofI .u8 (tw P)), h') ∧ Kp h h' := by
  rw [x_cfn ea _ _ (Nat.le_of_ble_eq_true rfl) (xa _ _)]
  rw [← z32e]
  have lt := tw_len P
  obtain ⟨Z, eZ⟩ : ∃ Z, ofI .u8 (List.replicate 32 0) = Z := ⟨_, rfl⟩
  rw [eZ]
  have ca' : ∀ l : List V, (V.agg l).cells = l := fun _ => rfl
  obtain ⟨h1, e1⟩ : ∃ h1, (h.new (.cells (ofI .u8 P) .rw)).new (.cells Z .rw) = h1 := ⟨_, rfl⟩
  have n1 : h1.next = h.next + 2 := by rw [← e1]; rfl
  have g1 : h1.get h.next = some (.cells (ofI .u8 P) .rw) := by rw [← e1]; (simp (disch := omega) only [h_new_get, h_next_new, Nat.add_eq_left, decide_true, decide_false, iteN_true, iteN_false, reduceCtorEq, ]; try rfl)
  have gz : h1.get (h.next + 1) = some (.cells Z .rw) := by rw [← e1]; (simp (disch := omega) only [h_new_get, h_next_new, decide_true, iteN_true, ]; try rfl)
  have k1 : Kp h h1 := by rw [← e1]; (repeat (first | exact Kp.refl _ | refine Kp.put ?_ _ (by first | omega | (simp only [h_next_put, h_next_new, h_next_del]; omega)) | refine Kp.del ?_ (by first | omega | (simp only [h_next_put, h_next_new, h_next_del]; omega)) | refine Kp.trans ?_ (Kp.new _ _)))
  obtain ⟨h2, e2⟩ : ∃ h2, (bump 1 h1).put h1.next (.cells [.slice (some (h.next, 0)) 32 (some 32) 1, .slice (some (h.next, 32)) 32 (some 32) 1] .rw) = h2 := ⟨_, rfl⟩
  have n2 : h2.next = h.next + 3 := by rw [← e2, h_next_put, s_bump_next, n1]
  have g2s : h2.get (h.next + 2) = some (.cells [.slice (some (h.next, 0)) 32 (some 32) 1, .slice (some (h.next, 32)) 32 (some 32) 1] .rw) := by rw [← e2, n1]; exact h_put_same _ _ _
  have g2a : h2.get h.next = some (.cells (ofI .u8 P) .rw) := by rw [← e2, h_put_ne _ _ (by omega), s_bump_get, g1]
  have gz2 : h2.get (h.next + 1) = some (.cells Z .rw) := by rw [← e2, h_put_ne _ _ (by omega), s_bump_get, gz]
  have k2 : Kp h h2 := ⟨by omega, fun j hj => by rw [← e2, h_put_ne _ _ (by omega), s_bump_get, k1.2 _ hj]⟩
  obtain ⟨h3, r3, k3, l3, g3⟩ := concat_go e x N P hP h.next (h.next + 2) .rw .rw h2 (by omega) g2s g2a (by omega)
  have t3 := tw64 hx (N + 4) (h3.next - 1) P hP none .sh h3 (by omega) g3
  have gz3 : h3.get (h.next + 1) = some (.cells Z .rw) := by rw [k3.2 _ (by omega), gz2]
  obtain ⟨q3, eq3⟩ : ∃ q, h3.next - 1 = q := ⟨_, rfl⟩
  rw [eq3] at r3 t3
  obtain ⟨TW, eT⟩ : ∃ l, tw P = l := ⟨_, rfl⟩
  rw [eT] at t3 lt ⊢
  have st : ∀ h i, storeV h 32 (.ptr (some (i, 0))) (.agg (ofI .u8 TW)) = storeE (h.get i) h i 0 (ofI .u8 TW) := fun h i => st32 h i 0 _ lt
  have pu : ∀ h i, storeE (some (.cells Z .rw)) h i 0 (ofI .u8 TW) = some (h.put i (.cells (ofI .u8 TW) .rw)) := fun h i => by
    rw [m_storeE _ _ _ _ _ (by rw [← eZ, ofI_len, ofI_len, lt, List.length_replicate]; omega), ← eZ, wrAll _ _ _ (by rw [List.length_replicate, lt])]
  have lds : ∀ m, loadE (some (.cells (ofI .u8 TW) m)) (some 32) 0 = some (.agg (ofI .u8 TW)) := fun m => by rw [m_loadN, x_readAll _ 32 (by rw [ofI_len, lt])]
  have sb0 : ∀ (g : H) m, slcB (some (.cells (ofI .u8 P) m)) 32 1 h.next 0 none none g = some (.slice (some (h.next, 0)) 32 (some 32) 1, g) := fun h m => slcB_nn _ _ _ _ _ _ (by rw [ofI_len]; omega)
  have sb1 : ∀ (g : H) m, slcB (some (.cells (ofI .u8 P) m)) 32 1 h.next 32 none none g = some (.slice (some (h.next, 32)) 32 (some 32) 1, g) := fun h m => slcB_nn _ _ _ _ _ _ (by rw [ofI_len]; omega)
  rw [n1] at e2
  refine ⟨h3.put (h.next + 1) (.cells (ofI .u8 TW) .rw), ?_, ⟨by have := k3.1; show h.next ≤ h3.next; omega, fun j hj => by rw [h_put_ne _ _ (by omega), k3.2 _ (by omega), k2.2 _ hj]⟩⟩
  generalize ofI .u8 TW = S0 at *
  generalize ofI .u8 P = D at *
  simp (config := {maxSteps := 2000000}) (disch := first | omega | (simp only [List.length_cons, List.length_nil, List.length_append, List.length_drop]; omega)) only [ca', e1, n1, g1, sb0, sb1, e2, r3, t3, gz3, st, pu, lds, ↓s_dBuildS, s_dbE, ↓x_slcA, x_slcAE, x_M0, ↓s_box, Nat.zero_add, Nat.add_zero, ↓s_evD, ↓s_dnil, ↓s_dL, ↓s_dR, ↓s_dB, ↓s_bindD, s_bindD, s_finD, s_addP0, s_addP1, s_addB, s_lookP, ↓s_bump_get, Nat.add_zero, ↓h_put_get, h_next_new, m_load, ↓m_st, m_stE, w_zero, w_succ, ↓s_alloc, ↓x_idxA, x_idxAE, x_addrE, x_idx, ↓x_P0, ↓x_P1, x_fill0, x_fills, List.length_cons, List.length_nil, List.cons_append, List.drop_succ_cons, List.drop_zero, List.drop_nil, List.nil_append, Int.reduceToNat, Nat.reduceMul, s_resc, s_consR, s_res0, ↓s_ops, ↓s_dops, ↓s_seq, ↓s_ret, ↓s_nil, ↓s_op, ↓s_bindS, s_bindS, ↓s_bindE, s_bindE, s_norm, ↓s_getp, ↓s_getp0, ↓s_get, ↓s_con, ↓s_os0, ↓s_os1, ↓s_list0, ↓s_list1, ↓s_call, s_end, s_res0, s_tup1, ↓iteN_true, ↓iteN_false, iteN_true, iteN_false, Nat.zero_add, List.nil_append, List.append_nil, Nat.reduceEqDiff, decide_true, decide_false]
end Go.Eng
namespace Go.Eng
open Go
variable {E : Nat → Option Fn} {X : Orc}
set_option linter.unusedSimpArgs false
set_option linter.unusedVariables false
/-- cells of a row of items of k bytes each -/
def RowB (k : Nat) (vs : List V) (L : List (List Nat)) : Prop := L.length * k ≤ vs.length ∧ ∀ i o, L[i]? = some o → (vs.drop (i * k)).take k = ofI .u8 o ∧ o.length = k
theorem mul_le {i n k : Nat} (h : i < n) : i * k + k ≤ n * k := by
  have := Nat.mul_le_mul_right k (show i + 1 ≤ n by omega)
  rwa [Nat.succ_mul] at this
theorem RowB.nil (k : Nat) (vs : List V) : RowB k vs [] := ⟨by simp, fun i o h => by cases h⟩
theorem RowB.app {k : Nat} {vs : List V} {L : List (List Nat)} (r : RowB k vs L) {x : List Nat} (hx : x.length = k) : RowB k (vs.take (L.length * k) ++ ofI .u8 x) (L ++ [x]) := by
  have l0 : (vs.take (L.length * k)).length = L.length * k := by rw [List.length_take]; exact Nat.min_eq_left r.1
  refine ⟨by rw [List.length_append, List.length_append, l0, ofI_len, hx, List.length_singleton, Nat.succ_mul]; exact Nat.le_refl _, fun i o ho => ?_⟩
  by_cases hi : i < L.length
  · rw [List.getElem?_append_left hi] at ho
    obtain ⟨h1, h2⟩ := r.2 i o ho
    refine ⟨?_, h2⟩
    have m := mul_le (k := k) hi
    rw [List.drop_append_of_le_length (by omega), List.take_append_of_le_length (by rw [List.length_drop]; omega), List.drop_take, List.take_take, Nat.min_eq_left (by omega), h1]
  · rw [List.getElem?_append_right (by omega)] at ho
    have e0 : i - L.length = 0 := by
      have := (List.getElem?_eq_some_iff.1 ho).1
      simp at this; omega
    rw [e0] at ho
    simp at ho; subst ho
    obtain rfl : i = L.length := by omega
    refine ⟨?_, hx⟩
    rw [List.drop_left' l0, List.take_of_length_le (by rw [ofI_len, hx]; exact Nat.le_refl _)]
/-- a row that can be read -/
def HsR (k : Nat) (h : H) (a : Option (Nat × Nat)) (e : Nat) (L : List (List Nat)) : Prop := L = [] ∨ ∃ q off vs md, a = some (q, off) ∧ e = k ∧ q < h.next ∧ h.get q = some (.cells vs md) ∧ RowB k (vs.drop off) L
theorem HsR.mono {k : Nat} {h h' : H} {a : Option (Nat × Nat)} {e : Nat} {L : List (List Nat)} (r : HsR k h a e L) (kp : Kp h h') : HsR k h' a e L := by
  rcases r with r | ⟨q, off, vs, md, e1, e2, hq, g, rb⟩
  · exact .inl r
  · exact .inr ⟨q, off, vs, md, e1, e2, Nat.lt_of_lt_of_le hq kp.1, by rw [kp.2 _ hq, g], rb⟩
theorem rowB_ld {k : Nat} {vs : List V} {off : Nat} {L : List (List Nat)} (r : RowB k (vs.drop off) L) {i : Nat} {o : List Nat} (ho : L[i]? = some o) (hk : 0 < k) (md : Md) : loadE (some (.cells vs md)) (some k) (off + i * k) = some (.agg (ofI .u8 o)) := by
  obtain ⟨h1, h2⟩ := r.2 i o ho
  have hi := (List.getElem?_eq_some_iff.1 ho).1
  have m := mul_le (k := k) hi
  have l := r.1
  rw [List.length_drop] at l
  rw [m_loadN]
  rw [List.drop_drop] at h1
  rw [readN_of _ _ _ (by omega), h1]
/-- a row that grows -/
def GrR (k lo : Nat) (h : H) (a : Option (Nat × Nat)) (c : Option Nat) (e : Nat) (L : List (List Nat)) : Prop := (L = [] ∧ a = none ∧ c = some 0 ∧ e = 0) ∨ ∃ q vs md, a = some (q, 0) ∧ e = k ∧ fullC c (L.length + 1) = false ∧ (∀ x, c = some x → L.length ≤ x) ∧ lo ≤ q ∧ q < h.next ∧ h.get q = some (.cells vs md) ∧ isRo md = false ∧ RowB k vs L
theorem GrR.hs {k lo : Nat} {h : H} {a : Option (Nat × Nat)} {c : Option Nat} {e : Nat} {L : List (List Nat)} (r : GrR k lo h a c e L) : HsR k h a e L := by
  rcases r with ⟨r, _⟩ | ⟨q, vs, md, e1, e2, _, _, _, hq, g, _, rb⟩
  · exact .inl r
  · exact .inr ⟨q, 0, vs, md, e1, e2, hq, g, rb⟩
theorem GrR.cap {k lo : Nat} {h : H} {a : Option (Nat × Nat)} {c : Option Nat} {e : Nat} {L : List (List Nat)} (r : GrR k lo h a c e L) : ∀ x, c = some x → L.length ≤ x := by
  rcases r with ⟨rfl, _, rfl, _⟩ | ⟨q, vs, md, e1, e2, _, hc, _⟩
  · intro x _; exact Nat.zero_le _
  · exact hc
theorem GrR.lo {k lo : Nat} {h : H} {a : Option (Nat × Nat)} {c : Option Nat} {e : Nat} {L : List (List Nat)} (r : GrR k lo h a c e L) {q : Nat} (ea : a = some (q, 0)) : lo ≤ q ∧ q < h.next := by
  rcases r with ⟨_, h1, _⟩ | ⟨q', _, _, h1, _, _, _, hl, hq, _⟩
  · rw [h1] at ea; cases ea
  · rw [h1] at ea; cases ea; exact ⟨hl, hq⟩
theorem GrR.mono {k lo : Nat} {h h' : H} {a : Option (Nat × Nat)} {c : Option Nat} {e : Nat} {L : List (List Nat)} (r : GrR k lo h a c e L) (hn : h.next ≤ h'.next) (f : ∀ q, a = some (q, 0) → lo ≤ q → q < h.next → h'.get q = h.get q) : GrR k lo h' a c e L := by
  rcases r with r | ⟨q, vs, md, e1, e2, e3, e4, hl, hq, g, hm, rb⟩
  · exact .inl r
  · exact .inr ⟨q, vs, md, e1, e2, e3, e4, hl, by omega, by rw [f _ e1 hl hq, g], hm, rb⟩
theorem gr_app {k lo : Nat} (hk : 0 < k) (hk2 : k ≤ 100) {h : H} {a : Option (Nat × Nat)} {c : Option Nat} {e : Nat} {L : List (List Nat)} (r : GrR k lo h a c e L) (hlo : lo ≤ h.next) (hl : L.length ≤ 100000) (x : List Nat) (hx : x.length = k) :
    ∃ h', appendC h k k (.slice a L.length c e) (some (1, ofI .u8 x)) = some (.slice (some (h.next, 0)) (L.length + 1) none k, h') ∧ GrR k lo h' (some (h.next, 0)) none k (L ++ [x]) ∧ h'.next = h.next + 1 ∧ ∀ i, i < h.next → a ≠ some (i, 0) → h'.get i = h.get i := by
  have ro : roomy (L.length + 1) k = true := by
    simp [roomy]
    have : (L.length + 1) * k ≤ 100001 * 100 := Nat.mul_le_mul (by omega) hk2
    omega
  rcases r with ⟨rfl, rfl, rfl, rfl⟩ | ⟨q, vs, md, rfl, rfl, e3, e4, hl2, hq, g, hm, rb⟩
  · refine ⟨h.new (.cells (ofI .u8 x) .rw), ?_, .inr ⟨h.next, _, .rw, rfl, rfl, rfl, (fun _ h => by cases h), hlo, Nat.lt_succ_self _, h_new_same _ _, rfl, ?_⟩, rfl, fun i hi _ => h_new_ne _ _ (by omega)⟩
    · unfold appendC
      simp only [List.length_nil] at ro ⊢
      have r : (roomy (0 + 1) k && (Nat.beq 0 k || (none : Option (Nat × Nat)).isNone) && (ofI .u8 x).all plainV) = true := by
        rw [plain_ofI, ro]; simp
      rw [r]; rfl
    · have := (RowB.nil k []).app hx
      simpa using this
  · have nx : ((h.del q).new (.cells (vs.take (L.length * e) ++ ofI .u8 x) .sh)).next = h.next + 1 := by simp only [h_next_new, h_next_del]
    refine ⟨(h.del q).new (.cells (vs.take (L.length * e) ++ ofI .u8 x) .sh), ?_, .inr ⟨h.next, _, .sh, rfl, rfl, rfl, (fun _ h => by cases h), hlo, by rw [nx]; omega, h_new_same' _ _ (by rw [h_next_del]), rfl, rb.app hx⟩, nx, fun i hi hne => ?_⟩
    · unfold appendC
      simp only
      have r : (roomy (L.length + 1) e && (Nat.beq e e || (some (q, 0) : Option (Nat × Nat)).isNone) && (ofI .u8 x).all plainV) = true := by
        rw [plain_ofI, ro, Nat.beq_refl]; rfl
      have rd := readN_of vs 0 (L.length * e) (by have := rb.1; omega)
      rw [List.drop_zero] at rd
      rw [r]
      simp only [_root_.cond_true, g, e3]
      cases md with
      | ro => cases hm
      | rw => simp only [rd]
      | sh => simp only [rd]
    · rw [h_new_ne _ _ (by rw [h_next_del]; omega), h_del_ne _ (fun e => hne (by rw [e]))]
theorem src_k (h : H) {k i : Nat} {x : List Nat} (hx : x.length = k) (md : Md) (c : Option Nat) (g : h.get i = some (.cells (ofI .u8 x) md)) : srcCells h k (.slice (some (i, 0)) 1 c k) = some (1, ofI .u8 x) := by
  have rd := readN_of (ofI .u8 x) 0 ((0 + 1) * k) (by rw [ofI_len, hx]; omega)
  rw [List.drop_zero, List.take_of_length_le (by rw [ofI_len]; omega)] at rd
  rw [m_src, g]
  unfold srcE
  simp only [rd]
end Go.Eng
namespace Go.Eng
open Go
variable {E : Nat → Option Fn} {X : Orc}
set_option linter.unusedSimpArgs false
set_option linter.unusedVariables false
theorem ca_agg (l : List V) : (V.agg l).cells = l := rfl
theorem z64e : ofI .u8 (List.replicate 64 0) = [.int .u8 0, .int .u8 0, .int .u8 0, .int .u8 0, .int .u8 0, .int .u8 0, .int .u8 0, .int .u8 0, .int .u8 0, .int .u8 0, .int .u8 0, .int .u8 0, .int .u8 0, .int .u8 0, .int .u8 0, .int .u8 0, .int .u8 0, .int .u8 0, .int .u8 0, .int .u8 0, .int .u8 0, .int .u8 0, .int .u8 0, .int .u8 0, .int .u8 0, .int .u8 0, .int .u8 0, .int .u8 0, .int .u8 0, .int .u8 0, .int .u8 0, .int .u8 0, .int .u8 0, .int .u8 0, .int .u8 0, .int .u8 0, .int .u8 0, .int .u8 0, .int .u8 0, .int .u8 0, .int .u8 0, .int .u8 0, .int .u8 0, .int .u8 0, .int .u8 0, .int .u8 0, .int .u8 0, .int .u8 0, .int .u8 0, .int .u8 0, .int .u8 0, .int .u8 0, .int .u8 0, .int .u8 0, .int .u8 0, .int .u8 0, .int .u8 0, .int .u8 0, .int .u8 0, .int .u8 0, .int .u8 0, .int .u8 0, .int .u8 0, .int .u8 0] := rfl
theorem fill2 (A B : List Nat) (hA : A.length = 32) (hB : B.length = 32) : fillV [.int .u8 0, .int .u8 0, .int .u8 0, .int .u8 0, .int .u8 0, .int .u8 0, .int .u8 0, .int .u8 0, .int .u8 0, .int .u8 0, .int .u8 0, .int .u8 0, .int .u8 0, .int .u8 0, .int .u8 0, .int .u8 0, .int .u8 0, .int .u8 0, .int .u8 0, .int .u8 0, .int .u8 0, .int .u8 0, .int .u8 0, .int .u8 0, .int .u8 0, .int .u8 0, .int .u8 0, .int .u8 0, .int .u8 0, .int .u8 0, .int .u8 0, .int .u8 0, .int .u8 0, .int .u8 0, .int .u8 0, .int .u8 0, .int .u8 0, .int .u8 0, .int .u8 0, .int .u8 0, .int .u8 0, .int .u8 0, .int .u8 0, .int .u8 0, .int .u8 0, .int .u8 0, .int .u8 0, .int .u8 0, .int .u8 0, .int .u8 0, .int .u8 0, .int .u8 0, .int .u8 0, .int .u8 0, .int .u8 0, .int .u8 0, .int .u8 0, .int .u8 0, .int .u8 0, .int .u8 0, .int .u8 0, .int .u8 0, .int .u8 0, .int .u8 0] [(0, 32, .agg (ofI .u8 A)), (32, 32, .agg (ofI .u8 B))] = some (ofI .u8 (A ++ B)) := by
  rw [← z64e]
  rw [x_fill1 _ _ _ _ _ (by rw [ca_agg, ofI_len, ofI_len, hA]; rfl), ca_agg, wrI _ _ _ _ (by rw [hA]; decide), x_fill1 _ _ _ _ _ (by rw [ca_agg, ofI_len, ofI_len, hB]; simp [hA]), ca_agg, wrI _ _ _ _ (by rw [hB]; simp [hA]), x_fill0]
  congr 2
  rw [hA, hB]
  simp [hA]
theorem fill1 (A : List Nat) (hA : A.length = 64) : fillV [.int .u8 0, .int .u8 0, .int .u8 0, .int .u8 0, .int .u8 0, .int .u8 0, .int .u8 0, .int .u8 0, .int .u8 0, .int .u8 0, .int .u8 0, .int .u8 0, .int .u8 0, .int .u8 0, .int .u8 0, .int .u8 0, .int .u8 0, .int .u8 0, .int .u8 0, .int .u8 0, .int .u8 0, .int .u8 0, .int .u8 0, .int .u8 0, .int .u8 0, .int .u8 0, .int .u8 0, .int .u8 0, .int .u8 0, .int .u8 0, .int .u8 0, .int .u8 0, .int .u8 0, .int .u8 0, .int .u8 0, .int .u8 0, .int .u8 0, .int .u8 0, .int .u8 0, .int .u8 0, .int .u8 0, .int .u8 0, .int .u8 0, .int .u8 0, .int .u8 0, .int .u8 0, .int .u8 0, .int .u8 0, .int .u8 0, .int .u8 0, .int .u8 0, .int .u8 0, .int .u8 0, .int .u8 0, .int .u8 0, .int .u8 0, .int .u8 0, .int .u8 0, .int .u8 0, .int .u8 0, .int .u8 0, .int .u8 0, .int .u8 0, .int .u8 0] [(0, 64, .agg (ofI .u8 A))] = some (ofI .u8 A) := by
  rw [← z64e]
  rw [x_fill1 _ _ _ _ _ (by rw [ca_agg, ofI_len, ofI_len, hA]; rfl), ca_agg, wrI _ _ _ _ (by rw [hA]; decide), x_fill0]
  congr 2
  rw [hA]
  simp
theorem fill0 (A : List Nat) (hA : A.length = 32) : fillV [.int .u8 0, .int .u8 0, .int .u8 0, .int .u8 0, .int .u8 0, .int .u8 0, .int .u8 0, .int .u8 0, .int .u8 0, .int .u8 0, .int .u8 0, .int .u8 0, .int .u8 0, .int .u8 0, .int .u8 0, .int .u8 0, .int .u8 0, .int .u8 0, .int .u8 0, .int .u8 0, .int .u8 0, .int .u8 0, .int .u8 0, .int .u8 0, .int .u8 0, .int .u8 0, .int .u8 0, .int .u8 0, .int .u8 0, .int .u8 0, .int .u8 0, .int .u8 0] [(0, 32, .agg (ofI .u8 A))] = some (ofI .u8 A) := by
  rw [← z32e]
  rw [x_fill1 _ _ _ _ _ (by rw [ca_agg, ofI_len, ofI_len, hA]; rfl), ca_agg, wrI _ _ _ _ (by rw [hA]; decide), x_fill0]
  congr 2
  rw [hA]
  simp
theorem pr_yld (x : ∀ l a h, X (.yld l) a h = none) (M L p3 d : Nat) (T0 : Tr V) (t3 : evO T0 (.t 3) = .ptr (some (p3, 0))) (h : H) (q off m : Nat) (hm : m = 1 ∨ m = 2) (A B : List Nat) (hA : A.length = 32) (hB : B.length = 32) (vs : List V) (md : Md) (gq : h.get q = some (.cells vs md))
    (lA : loadE (some (.cells vs md)) (some 32) off = some (.agg (ofI .u8 A))) (lB : loadE (some (.cells vs md)) (some 32) (off + (m - 1) * 32) = some (.agg (ofI .u8 B))) (gL : h.get L = some (.loop 0 none 27 T0 [12] A_merkle_pairs_0 B_merkle_pairs_0 d))
    (lo : Nat) (hlo : lo ≤ h.next) (a : Option (Nat × Nat)) (c : Option Nat) (e : Nat) (LL : List (List Nat)) (hl : LL.length ≤ 1000) (g3 : h.get p3 = some (.cells [.slice a LL.length c e] .rw)) (gr : GrR 64 lo h a c e LL) (h3 : p3 < h.next) (hL : L < h.next) (hq : q < h.next) (n1 : L ≠ p3) (n2 : q ≠ L) (n3 : q ≠ p3) (n4 : a ≠ some (L, 0)) (n5 : a ≠ some (p3, 0)) :
    ∃ h', callX E X (M + 1) (.yld L) [.slice (some (q, off)) m (some m) 32] h = some (.bool true, h') ∧ h'.get p3 = some (.cells [.slice (some (h.next + 1, 0)) (LL.length + 1) none 64] .rw) ∧ GrR 64 lo h' (some (h.next + 1, 0)) none 64 (LL ++ [A ++ B]) ∧ h'.next = h.next + 2 ∧ ∀ j, j < h.next → j ≠ p3 → a ≠ some (j, 0) → h'.get j = h.get j := by
  have yx : callX E X (M + 1) (.yld L) [.slice (some (q, off)) m (some m) 32] h = cYld (callX E X M) M L [.slice (some (q, off)) m (some m) 32] h := x_yld (x _ _ _)
  obtain ⟨h1, e1⟩ : ∃ h1, h.put L (.loop 1 none 27 T0 [12] A_merkle_pairs_0 B_merkle_pairs_0 d) = h1 := ⟨_, rfl⟩
  have x1 : h1.next = h.next := by rw [← e1]; rfl
  have f1 : ∀ j, j ≠ L → h1.get j = h.get j := fun j hj => by rw [← e1, h_put_ne _ _ (Ne.symm hj)]
  obtain ⟨h2, e2⟩ : ∃ h2, (bump 1 h1).put h.next (.cells (ofI .u8 (A ++ B)) .rw) = h2 := ⟨_, rfl⟩
  have x2 : h2.next = h.next + 1 := by rw [← e2, h_next_put, s_bump_next, x1]
  have f2 : ∀ j, j ≠ L → j ≠ h.next → h2.get j = h.get j := fun j hj hj2 => by rw [← e2, h_put_ne _ _ (Ne.symm hj2), s_bump_get, f1 _ hj]
  have g2 : h2.get h.next = some (.cells (ofI .u8 (A ++ B)) .rw) := by rw [← e2]; exact h_put_same _ _ _
  have sc := src_k h2 (k := 64) (x := A ++ B) (by rw [List.length_append, hA, hB]) .rw (some 1) g2
  have gr2 : GrR 64 lo h2 a c e LL := gr.mono (by omega) (fun q' e' hl hq => f2 _ (fun hh => n4 (by rw [e', hh])) (by omega))
  obtain ⟨h4, ap, gr4, x4, f4⟩ := gr_app (k := 64) (by decide) (by decide) gr2 (by omega) (by omega) (A ++ B) (by rw [List.length_append, hA, hB])
  rw [x2] at ap gr4 x4
  have g13 : h1.get p3 = some (.cells [.slice a LL.length c e] .rw) := by rw [f1 _ (Ne.symm n1), g3]
  have g1q : h1.get q = some (.cells vs md) := by rw [f1 _ n2, gq]
  have g43 : h4.get p3 = some (.cells [.slice a LL.length c e] .rw) := by rw [f4 _ (by omega) n5, f2 _ (Ne.symm n1) (by omega), g3]
  have g4L : h4.get L = some (.loop 1 none 27 T0 [12] A_merkle_pairs_0 B_merkle_pairs_0 d) := by rw [f4 _ (by omega) n4, ← e2, h_put_ne _ _ (by omega), s_bump_get, ← e1]; exact h_put_same _ _ _
  have i0 : idx (0 : Int) m = some 0 := by rcases hm with rfl | rfl <;> rfl
  have i1 : idx (wr .i64 ((m : Int) - 1)) m = some (m - 1) := by rcases hm with rfl | rfl <;> rfl
  have z1 : (L = p3) = False := eq_false n1
  have z2 : (p3 = L) = False := eq_false (Ne.symm n1)
  refine ⟨(h4.put p3 (.cells [.slice (some (h.next + 1, 0)) (LL.length + 1) none 64] .rw)).put L (.loop 0 none 27 T0 [12] A_merkle_pairs_0 B_merkle_pairs_0 d), ?_, by rw [h_put_ne _ _ n1]; exact h_put_same _ _ _, gr4.mono (by simp only [h_next_put]; omega) (fun q' e' _ _ => by cases e'; rw [h_put_ne _ _ (by omega), h_put_ne _ _ (by omega)]), by simp only [h_next_put]; omega, fun j hj h3' hja => ?_⟩
  · rw [yx]
    have fb := fill2 A B hA hB
    have fc := fill1 (A ++ B) (by rw [List.length_append, hA, hB])
    generalize m - 1 = m1 at *
    generalize ofI .u8 (A ++ B) = CAB at *
    generalize ofI .u8 A = CA at *
    generalize ofI .u8 B = CB at *
    simp (config := {maxSteps := 2000000}) (disch := first | omega | (simp only [List.length_cons, List.length_nil, List.length_append, List.length_drop]; omega)) only [m_storeS, ↓x_build, x_aggO, ↓x_P0, ↓x_P1, fb, fc, gL, e1, g13, g1q, lA, lB, i0, i1, x1, e2, sc, ap, g43, g4L, t3, z2, ↓s_dBuildS, s_dbE, ↓s_append, ↓s_len, x_lenS, y_cyld, y_ready, y_set1, y_mid, y_busy, y_end, y_done, y_jn, Option.isNone_none, ↓u_A_merkle_pairs_0, ↓u_B_merkle_pairs_0, Nat.zero_add, Nat.add_zero, ↓s_evD, ↓s_dnil, ↓s_dL, ↓s_dR, ↓s_dB, ↓s_bindD, s_bindD, s_finD, s_addP0, s_addP1, s_addB, s_lookP, ↓s_bump_get, Nat.add_zero, ↓h_put_get, ↓s_load, m_load, ↓m_load1, m_load1, ↓m_st, m_stE, m_storeE, w_zero, ↓x_idxS, x_idxSE, x_addrE, x_lenS, ↓s_len, ↓x_P0, ↓x_P1, List.length_cons, List.length_nil, List.drop_succ_cons, List.drop_nil, Nat.reduceMul, ↓s_ops, ↓s_dops, ↓s_block, ↓s_nil, ↓s_op, ↓s_bindS, s_bindS, s_norm, s_block_normal, ↓s_getp, ↓s_get, ↓s_con, ↓s_mov, ↓s_bin, s_same, b_sub, ↓iteN_true, ↓iteN_false, iteN_true, iteN_false, Nat.zero_add, List.append_nil, Nat.reduceEqDiff, decide_true, decide_false, List.getElem?_cons_zero]
  · by_cases hjL : j = L
    · subst hjL; rw [h_put_same, gL]
    · rw [h_put_ne _ _ (Ne.symm hjL), h_put_ne _ _ (Ne.symm h3'), f4 _ (by omega) hja, f2 _ hjL (by omega)]
end Go.Eng
namespace Go.Eng
open Go
variable {E : Nat → Option Fn} {X : Orc}
set_option linter.unusedSimpArgs false
set_option linter.unusedVariables false
/-- the pairs of a level: the last one with itself, if it stands alone -/
def prs : List (List Nat) → List (List Nat)
  | [] => []
  | [a] => [a ++ a]
  | a :: b :: r => (a ++ b) :: prs r
theorem prs_len : ∀ (n : Nat) (l : List (List Nat)), l.length = n → (prs l).length = (n + 1) / 2 := by
  intro n
  induction n using Nat.strongRecOn with
  | _ n ih =>
    intro l hl
    match l with
    | [] => simp at hl; subst hl; rfl
    | [a] => simp at hl; subst hl; rfl
    | a :: b :: r =>
      simp only [List.length_cons] at hl
      have := ih (n - 2) (by omega) r (by omega)
      show (prs r).length + 1 = _
      rw [this]; omega
theorem prs_get : ∀ (i : Nat) (l : List (List Nat)) (a : List Nat), l[2 * i]? = some a → (prs l)[i]? = some (a ++ (l[2 * i + 1]?).getD a) := by
  intro i
  induction i with
  | zero =>
    intro l a h
    match l with
    | [] => cases h
    | [b] => simp at h; subst h; rfl
    | b :: c :: r => simp at h; subst h; rfl
  | succ i ih =>
    intro l a h
    match l with
    | [] => cases h
    | [b] => simp at h
    | b :: c :: r =>
      have h' : r[2 * i]? = some a := by rw [show 2 * (i + 1) = 2 * i + 1 + 1 by omega] at h; exact h
      have := ih r a h'
      show (prs r)[i]? = _
      rw [this, show 2 * (i + 1) + 1 = (2 * i + 1) + 1 + 1 by omega]; rfl
structure PrI (b : Nat) (l : List (List Nat)) (h0 : H) (i : Nat) (T : Tr V) (h : H) : Prop where
  t0 : evO T (.t 0) = .yld (b + 5)
  t1 : evO T (.t 1) = .ptr (some (b + 2, 0))
  t2 : evO T (.t 2) = .ptr (some (b + 3, 0))
  t4 : evO T (.t 4) = .int .i64 ((2 * i : Nat) : Int)
  ro : ∃ a c e, h.get (b + 1) = some (.cells [.slice a ((prs l).take i).length c e] .rw) ∧ GrR 64 b h a c e ((prs l).take i) ∧ (∀ q, a = some (q, 0) → q = b ∨ h0.next ≤ q) ∧ (0 < i → c = none)
  nx : h0.next ≤ h.next
  fr : ∀ j, j < h0.next → j ≠ b → j ≠ b + 1 → h.get j = h0.get j
theorem slc32 (n k : Nat) (c : Option Nat) (q off : Nat) (hk : k ≤ n) (hc : ∀ x, c = some x → n ≤ x) : slcV 32 (some (.int .i64 (k : Int))) none none (.slice (some (q, off)) n c 32) = some (.slice (some (q, off + k * 32)) (n - k) (subC c k) 32) := by
  show (match bnd none n (c.getD n) with | some b => (match bnd (some (.int .i64 (k : Int))) 0 b with | some l => some (V.slice (upA (some (q, off)) (l * 32)) (b - l) (subC c l) 32) | none => none) | none => none) = _
  rw [x_bnd0]
  simp only
  rw [x_bnd _ _ _ _ hk]; rfl
theorem slc32m (n k m : Nat) (c : Option Nat) (q off : Nat) (hk : k + m ≤ n) (hc : ∀ x, c = some x → n ≤ x) : slcV 32 (some (.int .i64 (k : Int))) (some (.int .i64 ((k + m : Nat) : Int))) (some (.int .i64 ((k + m : Nat) : Int))) (.slice (some (q, off)) n c 32) = some (.slice (some (q, off + k * 32)) m (some m) 32) := by
  have hm : k + m ≤ c.getD n := by
    cases c with
    | none => exact hk
    | some x => exact Nat.le_trans hk (hc x rfl)
  show (match bnd (some (.int .i64 ((k + m : Nat) : Int))) 0 (c.getD n) with | some mm => (match bnd (some (.int .i64 ((k + m : Nat) : Int))) 0 mm with | some b => (match bnd (some (.int .i64 (k : Int))) 0 b with | some l => some (V.slice (upA (some (q, off)) (l * 32)) (b - l) (some (mm - l)) 32) | none => none) | none => none) | none => none) = _
  rw [x_bnd _ _ _ _ hm]
  simp only
  rw [x_bnd _ _ _ _ (Nat.le_refl _)]
  simp only
  rw [x_bnd _ _ _ _ (by omega)]
  simp only
  rw [show k + m - k = m by omega]; rfl
theorem ck_step (x : ∀ l a h, X (.yld l) a h = none) (M n b : Nat) (T0 : Tr V) (t3 : evO T0 (.t 3) = .ptr (some (b + 1, 0))) (l : List (List Nat)) (hl : l.length ≤ 1000) (q off : Nat) (c : Option Nat) (hc : ∀ x, c = some x → l.length ≤ x) (h0 : H) (hq : q < b) (hb : b + 6 ≤ h0.next)
    (vs : List V) (md : Md) (gq : h0.get q = some (.cells vs md)) (rb : RowB 32 (vs.drop off) l) (g2 : h0.get (b + 2) = some (.cells [.slice (some (q, off)) l.length c 32] .rw)) (g3 : h0.get (b + 3) = some (.cells [.int .i64 2] .rw)) (gL : h0.get (b + 5) = some (.loop 0 none 27 T0 [12] A_merkle_pairs_0 B_merkle_pairs_0 (b + 4))) :
    ∀ i T h, i < (prs l).length → PrI b l h0 i T h → ∃ T' h', evC (callX E X (M + 1)) 31 n none L_slices_Chunk_api_Hash_api_Hash_1_0 ⟨T, [], h⟩ = some (.normal, ⟨T', [], h'⟩) ∧ PrI b l h0 (i + 1) T' h' := by
  intro i T h hi ⟨t0, t1, t2, t4, ⟨a, ca, ea, g1, gr, sp, _⟩, nx, fr⟩
  have pl := prs_len _ l rfl
  have i2 : 2 * i < l.length := by omega
  have hA : l[2 * i]? = some l[2 * i] := List.getElem?_eq_getElem i2
  obtain ⟨A, eA⟩ : ∃ A, l[2 * i] = A := ⟨_, rfl⟩
  rw [eA] at hA
  have pg := prs_get i l A hA
  obtain ⟨m, em⟩ : ∃ m, min 2 (l.length - 2 * i) = m := ⟨_, rfl⟩
  have hm : m = 1 ∨ m = 2 := by omega
  obtain ⟨B, eB⟩ : ∃ B, (l[2 * i + 1]?).getD A = B := ⟨_, rfl⟩
  rw [eB] at pg
  have lA := rowB_ld rb hA (by decide) md
  have hB : l[2 * i + (m - 1)]? = some B := by
    rcases hm with h1 | h1
    · rw [h1]
      have : l[2 * i + 1]? = none := List.getElem?_eq_none (by omega)
      rw [this] at eB
      have e2 : A = B := eB
      rw [← e2]; exact hA
    · rw [h1]
      have := List.getElem?_eq_getElem (l := l) (i := 2 * i + 1) (by omega)
      rw [this] at eB
      have e2 : l[2 * i + 1] = B := eB
      show l[2 * i + 1]? = _
      rw [this, e2]
  have lB := rowB_ld rb hB (by decide) md
  rw [Nat.add_mul, ← Nat.add_assoc] at lB
  have g2' : h.get (b + 2) = some (.cells [.slice (some (q, off)) l.length c 32] .rw) := by rw [fr _ (by omega) (by omega) (by omega), g2]
  have g3' : h.get (b + 3) = some (.cells [.int .i64 2] .rw) := by rw [fr _ (by omega) (by omega) (by omega), g3]
  have lt : ((prs l).take i).length = i := by rw [List.length_take]; omega
  obtain ⟨h', r, k1, k2, k3, k4⟩ := pr_yld (E := E) x M (b + 5) (b + 1) (b + 4) T0 t3 h q (off + 2 * i * 32) m hm A B (rb.2 _ _ hA).2 (rb.2 _ _ hB).2 vs md (by rw [fr _ (by omega) (by omega) (by omega), gq]) lA lB (by rw [fr _ (by omega) (by omega) (by omega), gL]) b (by omega) a ca ea _ (by omega) g1 gr (by omega) (by omega) (by omega) (by omega) (by omega) (by omega) (fun hh => by have := sp _ hh; omega) (fun hh => by have := sp _ hh; omega)
  have s1 := slc32 l.length (2 * i) c q off (by omega) hc
  have s2 := slc32m l.length (2 * i) m c q off (by omega) hc
  have c0 : decide (((2 * i : Nat) : Int) < (l.length : Int)) = true := decide_eq_true (by omega)
  have w1 : wr .i64 (((2 * i : Nat) : Int) + (m : Int)) = ((2 * i + m : Nat) : Int) := by rw [wr_i64 (by omega)]; omega
  have w2 : wr .i64 (((2 * i : Nat) : Int) + 2) = ((2 * (i + 1) : Nat) : Int) := by rw [wr_i64 (by omega)]; omega
  have tk : (prs l).take i ++ [A ++ B] = (prs l).take (i + 1) := by rw [List.take_add_one, pg]; rfl
  rw [tk] at k2
  have lt1 : ((prs l).take (i + 1)).length = i + 1 := by rw [List.length_take]; omega
  rw [lt] at k1
  have k1' : h'.get (b + 1) = some (.cells [.slice (some (h.next + 1, 0)) ((prs l).take (i + 1)).length none 64] .rw) := by rw [lt1, k1]
  have fr' : ∀ j, j < h0.next → j ≠ b → j ≠ b + 1 → h'.get j = h0.get j := fun j hj h1 h2 => by rw [k4 _ (by omega) h2 (fun hh => by have := sp _ hh; omega), fr _ hj h1 h2]
  have g3'' : h'.get (b + 3) = some (.cells [.int .i64 2] .rw) := by rw [fr' _ (by omega) (by omega) (by omega), g3]
  have mm : (if ((l.length - 2 * i : Nat) : Int) < 2 then ((l.length - 2 * i : Nat) : Int) else 2) = (m : Int) := by split <;> omega
  generalize 2 * i + m = im at *
  generalize 2 * i * 32 = i32 at *
  refine ⟨_, h', by
    simp (config := {maxSteps := 2000000}) (disch := first | omega | (simp only [List.length_cons, List.length_nil, List.length_append, List.length_drop]; omega)) only [L_slices_Chunk_api_Hash_api_Hash_1_0, t0, t1, t2, t4, g2', g3', g3'', mm, s1, s2, c0, w1, w2, r, s_callVy, ↓x_slcS, x_M1, x_M0, ↓s_len, x_lenS, ↓s_evD, ↓s_dnil, ↓s_dL, ↓s_dR, ↓s_bindD, s_bindD, s_finD, s_addP0, ↓s_bump0, ↓s_load, m_load, ↓m_load1, m_load1, x_lenS, ↓s_len, ↓s_skip, ↓s_ops, ↓s_dops, ↓s_seq, ↓s_cond, ↓s_block, ↓s_nil, ↓s_op, ↓s_bindS, s_bindS, ↓s_bindE, s_bindE, s_norm, ↓s_condV, s_condV, s_block_normal, ↓s_getp, ↓s_os0, ↓s_os1, ↓s_mov, ↓s_bin, ↓s_un, ↓s_minmax, ↓s_callv, s_same, b_lss, b_add, u_not, m_two, ↓iteN_true, ↓iteN_false, iteN_true, iteN_false, Nat.reduceEqDiff, decide_true, decide_false, Bool.not_true, List.getElem?_cons_zero, if_true]
    exact rfl, (by (simp only [s_getp, Nat.reduceEqDiff, decide_false, iteN_false, t0]; try rfl)), (by (simp only [s_getp, Nat.reduceEqDiff, decide_false, iteN_false, t1]; try rfl)), (by (simp only [s_getp, Nat.reduceEqDiff, decide_false, iteN_false, t2]; try rfl)), (by (simp only [s_getp, decide_true, iteN_true]; try rfl)), ⟨_, _, _, k1', k2, (fun q' e' => by cases e'; right; omega), fun _ => rfl⟩, by omega, fr'⟩
end Go.Eng
namespace Go.Eng
open Go
variable {E : Nat → Option Fn} {X : Orc}
set_option linter.unusedSimpArgs false
set_option linter.unusedVariables false
structure EnPr (E : Nat → Option Fn) : Prop where
  pr : E k_merkle_pairs = some f_merkle_pairs
  ck : E k_slices_Chunk_api_Hash_api_Hash = some f_slices_Chunk_api_Hash_api_Hash
  c1 : E k_slices_Chunk_api_Hash_api_Hash_1 = some f_slices_Chunk_api_Hash_api_Hash_1
structure NoPr (X : Orc) : Prop where
  pr : ∀ a h, X (.fn k_merkle_pairs) a h = none
  ck : ∀ a h, X (.fn k_slices_Chunk_api_Hash_api_Hash) a h = none
  c1 : ∀ a h, X (.fn k_slices_Chunk_api_Hash_api_Hash_1) a h = none
  yld : ∀ l a h, X (.yld l) a h = none
theorem mks0 (z : List V) (k n : Nat) (hz : z.length = k) (hk : k ≤ 100) (hn : n ≤ 100000) (h : H) : mksE z k (.int .i64 0) (.int .i64 (n : Int)) h = some (.slice (some (h.next, 0)) 0 (some n) k, h.new (.cells (List.replicate n z).flatten .rw)) := by
  show (bif Nat.ble 0 n && roomy n k then _ else _) = _
  have r : (Nat.ble 0 n && roomy n k) = true := by
    simp [roomy]
    have : n * k ≤ 100000 * 100 := Nat.mul_le_mul hn hk
    omega
  rw [r, hz]; rfl
theorem mks64 (n : Nat) (hn : n ≤ 100000) (h : H) : mksE [.int .u8 0, .int .u8 0, .int .u8 0, .int .u8 0, .int .u8 0, .int .u8 0, .int .u8 0, .int .u8 0, .int .u8 0, .int .u8 0, .int .u8 0, .int .u8 0, .int .u8 0, .int .u8 0, .int .u8 0, .int .u8 0, .int .u8 0, .int .u8 0, .int .u8 0, .int .u8 0, .int .u8 0, .int .u8 0, .int .u8 0, .int .u8 0, .int .u8 0, .int .u8 0, .int .u8 0, .int .u8 0, .int .u8 0, .int .u8 0, .int .u8 0, .int .u8 0, .int .u8 0, .int .u8 0, .int .u8 0, .int .u8 0, .int .u8 0, .int .u8 0, .int .u8 0, .int .u8 0, .int .u8 0, .int .u8 0, .int .u8 0, .int .u8 0, .int .u8 0, .int .u8 0, .int .u8 0, .int .u8 0, .int .u8 0, .int .u8 0, .int .u8 0, .int .u8 0, .int .u8 0, .int .u8 0, .int .u8 0, .int .u8 0, .int .u8 0, .int .u8 0, .int .u8 0, .int .u8 0, .int .u8 0, .int .u8 0, .int .u8 0, .int .u8 0] 64 (.int .i64 0) (.int .i64 (n : Int)) h = some (.slice (some (h.next, 0)) 0 (some n) 64, h.new (.cells (List.replicate n ([.int .u8 0, .int .u8 0, .int .u8 0, .int .u8 0, .int .u8 0, .int .u8 0, .int .u8 0, .int .u8 0, .int .u8 0, .int .u8 0, .int .u8 0, .int .u8 0, .int .u8 0, .int .u8 0, .int .u8 0, .int .u8 0, .int .u8 0, .int .u8 0, .int .u8 0, .int .u8 0, .int .u8 0, .int .u8 0, .int .u8 0, .int .u8 0, .int .u8 0, .int .u8 0, .int .u8 0, .int .u8 0, .int .u8 0, .int .u8 0, .int .u8 0, .int .u8 0, .int .u8 0, .int .u8 0, .int .u8 0, .int .u8 0, .int .u8 0, .int .u8 0, .int .u8 0, .int .u8 0, .int .u8 0, .int .u8 0, .int .u8 0, .int .u8 0, .int .u8 0, .int .u8 0, .int .u8 0, .int .u8 0, .int .u8 0, .int .u8 0, .int .u8 0, .int .u8 0, .int .u8 0, .int .u8 0, .int .u8 0, .int .u8 0, .int .u8 0, .int .u8 0, .int .u8 0, .int .u8 0, .int .u8 0, .int .u8 0, .int .u8 0, .int .u8 0] : List V)).flatten .rw)) := mks0 _ 64 n rfl (by decide) hn h
theorem chunk_go (e : EnPr E) (x : NoPr X) (N : Nat) (a : Option (Nat × Nat)) (n : Nat) (c : Option Nat) (ez : Nat) (h : H) :
    callX E X (N + 1) (.fn k_slices_Chunk_api_Hash_api_Hash) [.slice a n c ez, .int .i64 2] h = some (.fn k_slices_Chunk_api_Hash_api_Hash_1 [] [.ptr (some (h.next, 0)), .ptr (some (h.next + 1, 0))], (h.new (.cells [.slice a n c ez] .rw)).new (.cells [.int .i64 2] .rw)) := by
  rw [x_cfn e.ck _ _ (Nat.le_of_ble_eq_true rfl) (x.ck _ _)]
  have cs : (V.slice a n c ez).cells = [.slice a n c ez] := rfl
  have d0 : decide ((2 : Int) < 1) = false := rfl
  simp (config := {maxSteps := 2000000}) (disch := first | omega | (simp only [List.length_cons, List.length_nil, List.length_append, List.length_drop]; omega)) only [cs, ↓s_box, ↓s_mkfn, Nat.zero_add, ↓h_new_get, h_next_new, ↓s_load, m_load, ↓m_load1, m_load1, c_int, Int.reduceLT, s_res0, ↓s_skip, ↓s_ops, ↓s_seq, ↓s_cond, ↓s_ret, ↓s_nil, ↓s_op, ↓s_bindS, s_bindS, ↓s_bindE, s_bindE, s_norm, ↓s_condV, s_condV, ↓s_getp, ↓s_get, ↓s_con, ↓s_os0, ↓s_os1, ↓s_list0, ↓s_list1, ↓s_mov, ↓s_bin, s_same, b_lss, s_end, s_res0, s_res1, s_tup1, ↓iteN_true, ↓iteN_false, iteN_true, iteN_false, Nat.zero_add, Nat.reduceEqDiff, decide_true, decide_false, List.getElem?_cons_zero]
theorem chunk1_go (e : EnPr E) (x : NoPr X) (M b : Nat) (T0 : Tr V) (t3 : evO T0 (.t 3) = .ptr (some (b + 1, 0))) (l : List (List Nat)) (hl : l.length ≤ 1000) (hM : 1000 < M) (q off : Nat) (c : Option Nat) (hc : ∀ x, c = some x → l.length ≤ x) (h0 : H) (hq : q < b) (hb : b + 6 ≤ h0.next)
    (vs : List V) (md : Md) (gq : h0.get q = some (.cells vs md)) (rb : RowB 32 (vs.drop off) l) (g2 : h0.get (b + 2) = some (.cells [.slice (some (q, off)) l.length c 32] .rw)) (g3 : h0.get (b + 3) = some (.cells [.int .i64 2] .rw)) (gL : h0.get (b + 5) = some (.loop 0 none 27 T0 [12] A_merkle_pairs_0 B_merkle_pairs_0 (b + 4)))
    (cp : Nat) (g1 : h0.get (b + 1) = some (.cells [.slice (some (b, 0)) 0 (some (cp + 1)) 64] .rw)) (gr : GrR 64 b h0 (some (b, 0)) (some (cp + 1)) 64 []) :
    ∃ h' a ca ea, callX E X (M + 3) (.fn k_slices_Chunk_api_Hash_api_Hash_1) [.yld (b + 5), .ptr (some (b + 2, 0)), .ptr (some (b + 3, 0))] h0 = some (.tup [], h') ∧ h'.get (b + 1) = some (.cells [.slice a (prs l).length ca ea] .rw) ∧ GrR 64 b h' a ca ea (prs l) ∧ (∀ q, a = some (q, 0) → q = b ∨ h0.next ≤ q) ∧ (0 < (prs l).length → ca = none) ∧ h0.next ≤ h'.next ∧ ∀ j, j < h0.next → j ≠ b → j ≠ b + 1 → h'.get j = h0.get j := by
  rw [x_cfn e.c1 _ _ (Nat.le_of_ble_eq_true rfl) (x.c1 _ _)]
  have pl := prs_len _ l rfl
  have fin : ∀ T, PrI b l h0 0 T h0 → ∃ h' a ca ea, fnEnd [] (blockE 0 (loopN (evC (callX E X (M + 2)) 31 (M + 2) none L_slices_Chunk_api_Hash_api_Hash_1_0) (M + 2) ⟨T, [], h0⟩)) = some (.tup [], h') ∧ h'.get (b + 1) = some (.cells [.slice a (prs l).length ca ea] .rw) ∧ GrR 64 b h' a ca ea (prs l) ∧ (∀ q, a = some (q, 0) → q = b ∨ h0.next ≤ q) ∧ (0 < (prs l).length → ca = none) ∧ h0.next ≤ h'.next ∧ ∀ j, j < h0.next → j ≠ b → j ≠ b + 1 → h'.get j = h0.get j := by
    intro T I
    obtain ⟨T', h', r, _, _, _, _, ⟨a, ca, ea, k1, k2, k3, k4⟩, nx, fr⟩ := loop_go (PrI b l h0) (prs l).length (.exit 0) (by intro h; cases h) (PrI b l h0 (prs l).length) (ck_step x.yld (M + 1) (M + 2) b T0 t3 l hl q off c hc h0 hq hb vs md gq rb g2 g3 gL) (fun T h I => by
      obtain ⟨t0, t1, t2, t4, ro, nx, fr⟩ := I
      have g2' : h.get (b + 2) = some (.cells [.slice (some (q, off)) l.length c 32] .rw) := by rw [fr _ (by omega) (by omega) (by omega), g2]
      have c0 : decide (((2 * (prs l).length : Nat) : Int) < (l.length : Int)) = false := decide_eq_false (by omega)
      refine ⟨_, _, by
        simp (config := {maxSteps := 2000000}) (disch := first | omega | (simp only [List.length_cons, List.length_nil, List.length_append, List.length_drop]; omega)) only [L_slices_Chunk_api_Hash_api_Hash_1_0, t1, t4, g2', c0, ↓s_len, x_lenS, Nat.add_assoc, ↓s_load, m_load, ↓m_load1, m_load1, x_lenS, ↓s_len, Nat.reduceAdd, ↓s_ops, ↓s_seq, ↓s_cond, ↓s_exit, ↓s_nil, ↓s_op, ↓s_bindS, s_bindS, ↓s_bindE, s_bindE, s_bindE_exit, s_norm, ↓s_condV, s_condV, ↓s_getp, ↓s_mov, ↓s_bin, s_same, b_lss, ↓iteN_true, ↓iteN_false, iteN_true, iteN_false, Nat.reduceEqDiff, decide_true, decide_false, List.getElem?_cons_zero]
        exact rfl, ⟨(by (simp only [s_getp, Nat.reduceEqDiff, decide_false, iteN_false, t0]; try rfl)), (by (simp only [s_getp, Nat.reduceEqDiff, decide_false, iteN_false, t1]; try rfl)), (by (simp only [s_getp, Nat.reduceEqDiff, decide_false, iteN_false, t2]; try rfl)), (by (simp only [s_getp, Nat.reduceEqDiff, decide_false, iteN_false, t4]; try rfl)), ro, nx, fr⟩⟩) (prs l).length 0 (by omega) (M + 2) (by omega) T h0 I
    rw [r]
    rw [List.take_length] at k1 k2
    exact ⟨h', a, ca, ea, rfl, k1, k2, k3, k4, nx, fr⟩
  obtain ⟨Lo, eL⟩ : ∃ R, L_slices_Chunk_api_Hash_api_Hash_1_0 = R := ⟨_, rfl⟩
  rw [eL] at fin ⊢
  simp (config := {maxSteps := 2000000}) (disch := first | omega | (simp only [List.length_cons, List.length_nil, List.length_append, List.length_drop]; omega)) only [Nat.zero_add, ↓l_loop, ↓l_succ, Nat.reduceAdd, ↓s_ops, ↓s_seq, ↓s_block, ↓s_nil, ↓s_op, ↓s_bindS, s_bindS, ↓s_bindE, s_bindE, s_norm, ↓s_con, ↓s_list0, ↓s_list1, ↓s_mov, Nat.zero_add]
  exact fin _ ⟨(by (simp only [s_getp, Nat.reduceEqDiff, decide_false, iteN_false]; try rfl)), (by (simp only [s_getp, Nat.reduceEqDiff, decide_false, iteN_false]; try rfl)), (by (simp only [s_getp, Nat.reduceEqDiff, decide_false, iteN_false]; try rfl)), (by (simp only [s_getp, decide_true, iteN_true]; try rfl)), ⟨_, _, _, g1, gr, (fun q' e' => by cases e'; left; rfl), fun hh => absurd hh (Nat.lt_irrefl 0)⟩, Nat.le_refl _, fun _ _ _ _ => rfl⟩
theorem pairs_go (e : EnPr E) (x : NoPr X) (M : Nat) (hM : 1000 < M) (l : List (List Nat)) (hl : l.length ≤ 1000) (hl0 : 0 < l.length) (q off : Nat) (c : Option Nat) (hc : ∀ x, c = some x → l.length ≤ x) (h : H) (hq : q < h.next) (vs : List V) (md : Md) (gq : h.get q = some (.cells vs md)) (rb : RowB 32 (vs.drop off) l) :
    ∃ h' q', callX E X (M + 5) (.fn k_merkle_pairs) [.slice (some (q, off)) l.length c 32] h = some (.slice (some (q', 0)) (prs l).length none 64, h') ∧ Kp h h' ∧ GrR 64 h.next h' (some (q', 0)) none 64 (prs l) := by
  rw [x_cfn e.pr _ _ (Nat.le_of_ble_eq_true rfl) (x.pr _ _)]
  have pl := prs_len _ l rfl
  obtain ⟨n, en⟩ : ∃ n, l.length = n := ⟨_, rfl⟩
  obtain ⟨b, eb⟩ : ∃ b, h.next = b := ⟨_, rfl⟩
  rw [eb] at hq
  have mk : ∀ h, _ = _ := fun h => mks64 (n / 2 + 1) (by omega) h
  have qu : ∀ e h, binV .quo e h (.int .i64 (n : Int)) (.int .i64 2) = some (.int .i64 ((n / 2 : Nat) : Int)) := fun e h => by
    rw [b_quo _ _ _ _ _ (by omega), show Int.tdiv (n : Int) 2 = ((n / 2 : Nat) : Int) from rfl, wr_i64 (by omega)]
  have w1 : wr .i64 (((n / 2 : Nat) : Int) + 1) = ((n / 2 + 1 : Nat) : Int) := by rw [wr_i64 (by omega)]; omega
  obtain ⟨W, eW⟩ : ∃ W, (List.replicate (n / 2 + 1) ([.int .u8 0, .int .u8 0, .int .u8 0, .int .u8 0, .int .u8 0, .int .u8 0, .int .u8 0, .int .u8 0, .int .u8 0, .int .u8 0, .int .u8 0, .int .u8 0, .int .u8 0, .int .u8 0, .int .u8 0, .int .u8 0, .int .u8 0, .int .u8 0, .int .u8 0, .int .u8 0, .int .u8 0, .int .u8 0, .int .u8 0, .int .u8 0, .int .u8 0, .int .u8 0, .int .u8 0, .int .u8 0, .int .u8 0, .int .u8 0, .int .u8 0, .int .u8 0, .int .u8 0, .int .u8 0, .int .u8 0, .int .u8 0, .int .u8 0, .int .u8 0, .int .u8 0, .int .u8 0, .int .u8 0, .int .u8 0, .int .u8 0, .int .u8 0, .int .u8 0, .int .u8 0, .int .u8 0, .int .u8 0, .int .u8 0, .int .u8 0, .int .u8 0, .int .u8 0, .int .u8 0, .int .u8 0, .int .u8 0, .int .u8 0, .int .u8 0, .int .u8 0, .int .u8 0, .int .u8 0, .int .u8 0, .int .u8 0, .int .u8 0, .int .u8 0] : List V)).flatten = W := ⟨_, rfl⟩
  rw [eW] at mk
  have ck := fun h => chunk_go e x (M + 3) (some (q, off)) l.length c 32 h
  rw [en] at ck
  obtain ⟨hA, eA⟩ : ∃ hA, ((((h.new (.cells W .rw)).new (.cells [.slice none 0 (some 0) 0] .rw)).put (b + 1) (.cells [.slice (some (b, 0)) 0 (some (n / 2 + 1)) 64] .rw)).new (.cells [.slice (some (q, off)) n c 32] .rw)).new (.cells [.int .i64 2] .rw) = hA := ⟨_, rfl⟩
  have nA : hA.next = b + 4 := by rw [← eA, ← eb]; rfl
  have gA0 : hA.get b = some (.cells W .rw) := by rw [← eA, ← eb]; (simp (disch := omega) only [h_put_get, h_new_get, h_next_put, h_next_new, Nat.add_assoc, Nat.add_eq_left, Nat.reduceAdd, decide_true, decide_false, iteN_true, iteN_false, Nat.reduceAdd, reduceCtorEq, ]; try rfl)
  have gA1 : hA.get (b + 1) = some (.cells [.slice (some (b, 0)) 0 (some (n / 2 + 1)) 64] .rw) := by rw [← eA, ← eb]; (simp (disch := omega) only [h_put_get, h_new_get, h_next_put, h_next_new, Nat.add_assoc, Nat.add_left_cancel_iff, Nat.reduceAdd, decide_true, decide_false, iteN_true, iteN_false, Nat.reduceEqDiff, Nat.reduceAdd, ]; try rfl)
  have gA2 : hA.get (b + 2) = some (.cells [.slice (some (q, off)) n c 32] .rw) := by rw [← eA, ← eb]; (simp (disch := omega) only [h_new_get, h_next_put, h_next_new, Nat.add_assoc, Nat.add_left_cancel_iff, Nat.reduceAdd, decide_true, decide_false, iteN_true, iteN_false, Nat.reduceEqDiff, Nat.reduceAdd, ]; try rfl)
  have gA3 : hA.get (b + 3) = some (.cells [.int .i64 2] .rw) := by rw [← eA, ← eb]; (simp (disch := omega) only [h_new_get, h_next_put, h_next_new, Nat.add_assoc, Nat.reduceAdd, decide_true, iteN_true, Nat.reduceAdd, ]; try rfl)
  have kA : Kp h hA := by rw [← eA]; (repeat (first | exact Kp.refl _ | refine Kp.put ?_ _ (by first | omega | (simp only [h_next_put, h_next_new, h_next_del]; omega)) | refine Kp.del ?_ (by first | omega | (simp only [h_next_put, h_next_new, h_next_del]; omega)) | refine Kp.trans ?_ (Kp.new _ _)))
  have fin : ∀ T0, evO T0 (.t 3) = .ptr (some (b + 1, 0)) → ∃ h' q', fnEnd [.tmp 2] (bindE (blockE 0 (rangeEnd (b + 5) T0 [b + 4] (callF (callX E X (M + 4)) (.yld (b + 5)) (.fn k_slices_Chunk_api_Hash_api_Hash_1 [] [.ptr (some (b + 2, 0)), .ptr (some (b + 3, 0))]) ((hA.new .defers).new (.loop 0 none 27 T0 [12] A_merkle_pairs_0 B_merkle_pairs_0 (b + 4)))))) (evC (callX E X (M + 4)) 27 (M + 4) none R_merkle_pairs_0)) = some (.slice (some (q', 0)) (prs l).length none 64, h') ∧ Kp h h' ∧ GrR 64 b h' (some (q', 0)) none 64 (prs l) := by
    intro T0 t3
    obtain ⟨hB, eB⟩ : ∃ hB, (hA.new .defers).new (.loop 0 none 27 T0 [12] A_merkle_pairs_0 B_merkle_pairs_0 (b + 4)) = hB := ⟨_, rfl⟩
    have nB : hB.next = b + 6 := by rw [← eB]; simp only [h_next_new, nA]
    have kB : Kp hA hB := by rw [← eB]; exact (Kp.new _ _).trans (Kp.new _ _)
    have gB3 : hB.get (b + 4) = some .defers := by rw [← eB, h_new_ne _ _ (by rw [h_next_new, nA]; omega)]; exact h_new_same' _ _ nA
    have gB4 : hB.get (b + 5) = some (.loop 0 none 27 T0 [12] A_merkle_pairs_0 B_merkle_pairs_0 (b + 4)) := by rw [← eB]; exact h_new_same' _ _ (by rw [h_next_new, nA])
    obtain ⟨hC, a, ca, ea, r, gC, grC, spC, cC, nC, fC⟩ := chunk1_go e x (M + 1) b T0 t3 l hl (by omega) q off c hc hB hq (by omega) vs md (by rw [kB.2 _ (by omega), kA.2 _ (by omega), gq]) rb (by rw [kB.2 _ (by omega), gA2, en]) (by rw [kB.2 _ (by omega), gA3]) gB4 (n / 2) (by rw [kB.2 _ (by omega), gA1]) (.inr ⟨b, W, .rw, rfl, rfl, by show Nat.blt (n / 2 + 1) (0 + 1) = false; rw [Bool.eq_false_iff]; intro hh; have := Nat.le_of_ble_eq_true hh; omega, fun _ _ => Nat.zero_le _, Nat.le_refl _, by omega, by rw [kB.2 _ (by omega), gA0], rfl, RowB.nil _ _⟩)
    have gC3 : hC.get (b + 4) = some .defers := by rw [fC _ (by omega) (by omega) (by omega), gB3]
    have gC4 : hC.get (b + 5) = some (.loop 0 none 27 T0 [12] A_merkle_pairs_0 B_merkle_pairs_0 (b + 4)) := by rw [fC _ (by omega) (by omega) (by omega), gB4]
    have z1 : (b + 5 = b + 1) = False := by simp
    have z2 : (b + 5 = b + 4) = False := by simp
    have z3 : (b + 4 = b + 1) = False := by simp
    have hne : prs l ≠ [] := by intro h; have := congrArg List.length h; simp only [List.length_nil] at this; omega
    rcases grC with ⟨e0, _⟩ | ⟨q', vs', md', e1, e2, e3, e4, hlo, hq', g', hm', rb'⟩
    · exact absurd e0 hne
    subst e1
    have a1 : ea = 64 := e2
    subst a1
    have a2 : ca = none := cC (by omega)
    subst a2
    rw [eB]
    refine ⟨(hC.del (b + 5)).del (b + 4), q', ?_, ⟨by simp only [h_next_del]; omega, fun i hi => ?_⟩, GrR.mono (h := hC) (.inr ⟨q', vs', md', rfl, rfl, e3, e4, hlo, hq', g', hm', rb'⟩) (by simp only [h_next_del]; omega) (fun q e hl hq => ?_)⟩
    · simp (config := {maxSteps := 2000000}) (disch := first | omega | (simp only [List.length_cons, List.length_nil, List.length_append, List.length_drop]; omega)) only [s_callF, List.nil_append, List.cons_append, r, t3, gC, gC3, gC4, z1, z2, R_merkle_pairs_0, r_end, r_0, r_jn, e_ret, d_cons, d_yes, d_nil, e_some, ↓h_del_get, ↓s_load, m_load, ↓m_load1, m_load1, List.cons_append, List.nil_append, s_res0, ↓s_ops, ↓s_seq, ↓s_ret, ↓s_nil, ↓s_op, ↓s_bindS, s_bindS, ↓s_bindE, s_bindE, s_norm, s_block_normal, ↓s_getp, ↓s_mov, s_same, s_res0, s_res1, s_tup1, ↓iteN_true, ↓iteN_false, iteN_true, iteN_false, List.nil_append, decide_true, decide_false, List.getElem?_cons_zero]
    · rw [h_del_ne _ (by omega), h_del_ne _ (by omega), fC _ (by omega) (by omega) (by omega), kB.2 _ (by omega), kA.2 _ (by omega)]
    · cases e
      have := spC _ rfl
      rw [h_del_ne _ (by omega), h_del_ne _ (by omega)]
  obtain ⟨R, eR⟩ : ∃ R, R_merkle_pairs_0 = R := ⟨_, rfl⟩
  rw [eR] at fin ⊢
  rw [en]
  simp (config := {maxSteps := 2000000}) (disch := first | omega | (simp only [List.length_cons, List.length_nil, List.length_append, List.length_drop]; omega)) only [mk, qu, w1, ck, eA, nA, eb, m_storeS, ↓x_mkslice, ↓s_len, x_lenS, ↓s_range, Nat.zero_add, ↓h_new_get, h_next_put, h_next_new, Nat.add_assoc, ↓m_st, m_stE, m_storeE, w_zero, ↓s_alloc, x_lenS, ↓s_len, List.length_cons, List.length_nil, List.drop_succ_cons, List.drop_nil, Nat.reduceAdd, ↓s_ops, ↓s_seq, ↓s_block, ↓s_nil, ↓s_op, ↓s_bindS, s_bindS, ↓s_bindE, s_bindE, s_norm, ↓s_getp, ↓s_getp0, ↓s_get, ↓s_con, ↓s_os0, ↓s_os1, ↓s_list0, ↓s_list1, ↓s_mov, ↓s_bin, ↓s_call, s_same, b_add, ↓iteN_true, ↓iteN_false, iteN_true, iteN_false, Nat.zero_add, List.append_nil, Nat.reduceEqDiff, decide_true, decide_false]
  exact fin _ (by (simp only [s_getp, s_getp0, Nat.reduceEqDiff, decide_false, decide_true, iteN_false, iteN_true]; try rfl))
end Go.Eng
namespace Go.Eng
open Go
variable {E : Nat → Option Fn} {X : Orc}
set_option linter.unusedSimpArgs false
set_option linter.unusedVariables false
theorem mks32 (n : Nat) (hn : n ≤ 100000) (h : H) : mksE [.int .u8 0, .int .u8 0, .int .u8 0, .int .u8 0, .int .u8 0, .int .u8 0, .int .u8 0, .int .u8 0, .int .u8 0, .int .u8 0, .int .u8 0, .int .u8 0, .int .u8 0, .int .u8 0, .int .u8 0, .int .u8 0, .int .u8 0, .int .u8 0, .int .u8 0, .int .u8 0, .int .u8 0, .int .u8 0, .int .u8 0, .int .u8 0, .int .u8 0, .int .u8 0, .int .u8 0, .int .u8 0, .int .u8 0, .int .u8 0, .int .u8 0, .int .u8 0] 32 (.int .i64 0) (.int .i64 (n : Int)) h = some (.slice (some (h.next, 0)) 0 (some n) 32, h.new (.cells (List.replicate n ([.int .u8 0, .int .u8 0, .int .u8 0, .int .u8 0, .int .u8 0, .int .u8 0, .int .u8 0, .int .u8 0, .int .u8 0, .int .u8 0, .int .u8 0, .int .u8 0, .int .u8 0, .int .u8 0, .int .u8 0, .int .u8 0, .int .u8 0, .int .u8 0, .int .u8 0, .int .u8 0, .int .u8 0, .int .u8 0, .int .u8 0, .int .u8 0, .int .u8 0, .int .u8 0, .int .u8 0, .int .u8 0, .int .u8 0, .int .u8 0, .int .u8 0, .int .u8 0] : List V)).flatten .rw)) := mks0 _ 32 n rfl (by decide) hn h
structure EnAb (E : Nat → Option Fn) : Prop where
  cat : EnCat E
  pa : E k_merkle_pair_above = some f_merkle_pair_above
  ab : E k_merkle_above = some f_merkle_above
  tw : E k_sha_Twice = some f_sha_Twice
structure NoAb (X : Orc) : Prop where
  cat : NoCat X
  pa : ∀ a h, X (.fn k_merkle_pair_above) a h = none
  ab : ∀ a h, X (.fn k_merkle_above) a h = none
structure AbI (P : List (List Nat)) (q : Nat) (h0 : H) (i : Nat) (T : Tr V) (h : H) : Prop where
  t9 : evO T (.t 9) = .slice (some (q, 0)) P.length none 64
  t10 : evO T (.t 10) = .int .i64 (P.length : Int)
  t11 : evO T (.t 11) = .int .i64 (i : Int)
  ro : ∃ a c e, evO T (.t 3) = .slice a ((P.take i).map tw).length c e ∧ GrR 32 h0.next h a c e ((P.take i).map tw) ∧ (0 < i → c = none)
  nx : h0.next ≤ h.next
  fr : ∀ j, j < h0.next → h.get j = h0.get j
theorem st64 (h : H) (i o : Nat) (l : List Nat) (hl : l.length = 64) : storeV h 64 (.ptr (some (i, o))) (.agg (ofI .u8 l)) = storeE (h.get i) h i o (ofI .u8 l) := m_storeA h 64 i o _ (by rw [ofI_len, hl, plain_ofI]; rfl)
theorem ab_step (e : EnAb E) (x : NoAb X) (hx : HasTw E X) (M n q : Nat) (P : List (List Nat)) (hP : P.length ≤ 1000) (h0 : H) (hq : q < h0.next) (vs : List V) (md : Md) (gq : h0.get q = some (.cells vs md)) (rb : RowB 64 vs P) :
    ∀ i T h, i < P.length → AbI P q h0 i T h → ∃ T' h', evC (callX E X (M + 6)) 22 n none L_merkle_above_0 ⟨T, [], h⟩ = some (.normal, ⟨T', [], h'⟩) ∧ AbI P q h0 (i + 1) T' h' := by
  intro i T h hi ⟨t9, t10, t11, ⟨a, c, ez, t3, gr, _⟩, nx, fr⟩
  have hA : P[i]? = some P[i] := List.getElem?_eq_getElem hi
  obtain ⟨A, eA⟩ : ∃ A, P[i] = A := ⟨_, rfl⟩
  rw [eA] at hA
  have lA := rowB_ld (vs := vs) (off := 0) (by rw [List.drop_zero]; exact rb) hA (by decide) md
  rw [Nat.zero_add] at lA
  have hA64 := (rb.2 _ _ hA).2
  obtain ⟨h1, e1⟩ : ∃ h1, (h.new (.cells (ofI .u8 (List.replicate 64 0)) .rw)).put h.next (.cells (ofI .u8 A) .rw) = h1 := ⟨_, rfl⟩
  have n1 : h1.next = h.next + 1 := by rw [← e1]; rfl
  have k1 : Kp h h1 := by rw [← e1]; (repeat (first | exact Kp.refl _ | refine Kp.put ?_ _ (by first | omega | (simp only [h_next_put, h_next_new, h_next_del]; omega)) | refine Kp.del ?_ (by first | omega | (simp only [h_next_put, h_next_new, h_next_del]; omega)) | refine Kp.trans ?_ (Kp.new _ _)))
  have g1 : h1.get h.next = some (.cells (ofI .u8 A) .rw) := by rw [← e1]; exact h_put_same _ _ _
  obtain ⟨h2, r2, k2⟩ := above_go e.cat x.cat hx e.pa x.pa M A hA64 h1
  have n2 := k2.1
  obtain ⟨h3, e3⟩ : ∃ h3, h2.new (.cells (ofI .u8 (tw A)) .rw) = h3 := ⟨_, rfl⟩
  have n3 : h3.next = h2.next + 1 := by rw [← e3]; rfl
  have k3 : Kp h2 h3 := by rw [← e3]; (repeat (first | exact Kp.refl _ | refine Kp.put ?_ _ (by first | omega | (simp only [h_next_put, h_next_new, h_next_del]; omega)) | refine Kp.del ?_ (by first | omega | (simp only [h_next_put, h_next_new, h_next_del]; omega)) | refine Kp.trans ?_ (Kp.new _ _)))
  have g3 : h3.get h2.next = some (.cells (ofI .u8 (tw A)) .rw) := by rw [← e3]; exact h_new_same _ _
  have sc := src_k h3 (k := 32) (tw_len A) .rw (some 1) g3
  have K := (k1.trans k2).trans k3
  have gr3 : GrR 32 h0.next h3 a c ez ((P.take i).map tw) := gr.mono K.1 (fun q' e' hl hq => K.2 _ hq)
  have lt : ((P.take i).map tw).length = i := by rw [List.length_map, List.length_take]; omega
  obtain ⟨h4, ap, gr4, x4, f4⟩ := gr_app (k := 32) (by decide) (by decide) gr3 (by omega) (by omega) (tw A) (tw_len A)
  have tk : (P.take i).map tw ++ [tw A] = (P.take (i + 1)).map tw := by rw [List.take_add_one, hA, List.map_append]; rfl
  rw [tk] at gr4
  rw [lt] at ap t3
  have lt1 : ((P.take (i + 1)).map tw).length = i + 1 := by rw [List.length_map, List.length_take]; omega
  have gqh : h.get q = some (.cells vs md) := by rw [fr _ hq, gq]
  have c0 : decide ((i : Int) < (P.length : Int)) = true := decide_eq_true (by omega)
  have wi : wr .i64 ((i : Int) + 1) = ((i + 1 : Nat) : Int) := by rw [wr_i64 (by omega)]; omega
  have ix : idx (i : Int) P.length = some i := idxn hi
  have st : ∀ h i, storeV h 64 (.ptr (some (i, 0))) (.agg (ofI .u8 A)) = storeE (h.get i) h i 0 (ofI .u8 A) := fun h i => st64 h i 0 _ hA64
  have pu : ∀ h i, storeE (some (.cells (ofI .u8 (List.replicate 64 0)) .rw)) h i 0 (ofI .u8 A) = some (h.put i (.cells (ofI .u8 A) .rw)) := fun h i => by
    rw [m_storeE _ _ _ _ _ (by rw [ofI_len, ofI_len, hA64, List.length_replicate]; omega), wrAll _ _ _ (by rw [List.length_replicate, hA64])]
  have lds : ∀ m, loadE (some (.cells (ofI .u8 A) m)) (some 64) 0 = some (.agg (ofI .u8 A)) := fun m => by rw [m_loadN, x_readAll _ 64 (by rw [ofI_len, hA64])]
  have fb := fill0 (tw A) (tw_len A)
  have e64 := z64e
  obtain ⟨Z, eZ⟩ : ∃ Z, ofI .u8 (List.replicate 64 0) = Z := ⟨_, rfl⟩
  rw [eZ] at e1 pu e64
  have al : ∀ (Q : Orc) (T : Tr V) (h : H), Eng.step (.alloc [.int .u8 0, .int .u8 0, .int .u8 0, .int .u8 0, .int .u8 0, .int .u8 0, .int .u8 0, .int .u8 0, .int .u8 0, .int .u8 0, .int .u8 0, .int .u8 0, .int .u8 0, .int .u8 0, .int .u8 0, .int .u8 0, .int .u8 0, .int .u8 0, .int .u8 0, .int .u8 0, .int .u8 0, .int .u8 0, .int .u8 0, .int .u8 0, .int .u8 0, .int .u8 0, .int .u8 0, .int .u8 0, .int .u8 0, .int .u8 0, .int .u8 0, .int .u8 0, .int .u8 0, .int .u8 0, .int .u8 0, .int .u8 0, .int .u8 0, .int .u8 0, .int .u8 0, .int .u8 0, .int .u8 0, .int .u8 0, .int .u8 0, .int .u8 0, .int .u8 0, .int .u8 0, .int .u8 0, .int .u8 0, .int .u8 0, .int .u8 0, .int .u8 0, .int .u8 0, .int .u8 0, .int .u8 0, .int .u8 0, .int .u8 0, .int .u8 0, .int .u8 0, .int .u8 0, .int .u8 0, .int .u8 0, .int .u8 0, .int .u8 0, .int .u8 0]) Q T h = some (.ptr (some (h.next, 0)), h.new (.cells Z .rw)) := fun Q T h => by rw [e64]; rfl
  have gz : (h.new (.cells Z .rw)).get h.next = some (.cells Z .rw) := h_new_same _ _
  generalize ofI .u8 (tw A) = CT at *
  generalize ofI .u8 A = CA at *
  refine ⟨_, h4, by
    simp (config := {maxSteps := 2000000}) (disch := first | omega | (simp only [List.length_cons, List.length_nil, List.length_append, List.length_drop]; omega)) only [L_merkle_above_0, t9, t10, t11, t3, gqh, lA, c0, wi, ix, ↓al, e1, st, pu, g1, lds, r2, ↓x_buildS, ↓x_P0, ↓x_P1, fb, x_buildE, e3, sc, ap, ↓s_append, Nat.zero_add, ↓h_new_get, ↓s_load, m_load, ↓m_st, m_stE, ↓x_idxS, x_idxSE, x_addrE, ↓x_buildS, x_buildE, ↓x_P0, ↓x_P1, ↓s_skip, ↓s_ops, ↓s_seq, ↓s_cond, ↓s_block, ↓s_nil, ↓s_op, ↓s_bindS, s_bindS, ↓s_bindE, s_bindE, s_norm, ↓s_condV, s_condV, s_block_normal, ↓s_getp, ↓s_getp0, ↓s_con, ↓s_os0, ↓s_os1, ↓s_mov, ↓s_bin, ↓s_call, s_same, b_lss, b_add, ↓iteN_true, ↓iteN_false, iteN_true, iteN_false, Nat.zero_add, Nat.reduceEqDiff, decide_true, decide_false]
    exact rfl, (by (simp only [s_getp, s_getp0, Nat.reduceEqDiff, decide_false, iteN_false, t9]; try rfl)), (by (simp only [s_getp, s_getp0, Nat.reduceEqDiff, decide_false, iteN_false, t10]; try rfl)), (by (simp only [s_getp, decide_true, iteN_true]; try rfl)), ⟨_, _, _, by rw [lt1]; (simp only [s_getp, Nat.reduceEqDiff, decide_false, decide_true, iteN_false, iteN_true]; try rfl), gr4, fun _ => rfl⟩, by omega, fun j hj => ?_⟩
  rw [f4 _ (by omega) (fun hh => by have := gr3.lo hh; omega), K.2 _ (by omega), fr _ hj]
theorem aboves_go (e : EnAb E) (x : NoAb X) (hx : HasTw E X) (M : Nat) (hM : 1000 < M) (q : Nat) (P : List (List Nat)) (hP : P.length ≤ 1000) (hp0 : 0 < P.length) (h : H) (vs : List V) (md : Md) (hq : q < h.next) (gq : h.get q = some (.cells vs md)) (rb : RowB 64 vs P) :
    ∃ h' q', callX E X (M + 7) (.fn k_merkle_above) [.slice (some (q, 0)) P.length none 64] h = some (.slice (some (q', 0)) P.length none 32, h') ∧ Kp h h' ∧ GrR 32 h.next h' (some (q', 0)) none 32 (P.map tw) := by
  rw [x_cfn e.ab _ _ (Nat.le_of_ble_eq_true rfl) (x.ab _ _)]
  have mk : ∀ h, _ = _ := fun h => mks32 P.length (by omega) h
  obtain ⟨W, eW⟩ : ∃ W, (List.replicate P.length ([.int .u8 0, .int .u8 0, .int .u8 0, .int .u8 0, .int .u8 0, .int .u8 0, .int .u8 0, .int .u8 0, .int .u8 0, .int .u8 0, .int .u8 0, .int .u8 0, .int .u8 0, .int .u8 0, .int .u8 0, .int .u8 0, .int .u8 0, .int .u8 0, .int .u8 0, .int .u8 0, .int .u8 0, .int .u8 0, .int .u8 0, .int .u8 0, .int .u8 0, .int .u8 0, .int .u8 0, .int .u8 0, .int .u8 0, .int .u8 0, .int .u8 0, .int .u8 0] : List V)).flatten = W := ⟨_, rfl⟩
  rw [eW] at mk
  obtain ⟨h1, e1⟩ : ∃ h1, h.new (.cells W .rw) = h1 := ⟨_, rfl⟩
  have n1 : h1.next = h.next + 1 := by rw [← e1]; rfl
  have k1 : Kp h h1 := by rw [← e1]; (repeat (first | exact Kp.refl _ | refine Kp.put ?_ _ (by first | omega | (simp only [h_next_put, h_next_new, h_next_del]; omega)) | refine Kp.del ?_ (by first | omega | (simp only [h_next_put, h_next_new, h_next_del]; omega)) | refine Kp.trans ?_ (Kp.new _ _)))
  have g1 : h1.get h.next = some (.cells W .rw) := by rw [← e1]; exact h_new_same _ _
  have fin : ∀ T, evO T (.t 9) = .slice (some (q, 0)) P.length none 64 → evO T (.t 10) = .int .i64 (P.length : Int) → evO T (.t 11) = .int .i64 ((0 : Nat) : Int) → evO T (.t 3) = .slice (some (h.next, 0)) 0 (some P.length) 32 →
      ∃ h' q', fnEnd [.tmp 2] (bindE (blockE 0 (loopN (evC (callX E X (M + 6)) 22 (M + 6) none L_merkle_above_0) (M + 6) ⟨T, [], h1⟩)) (evC (callX E X (M + 6)) 22 (M + 6) none R_merkle_above_0)) = some (.slice (some (q', 0)) P.length none 32, h') ∧ Kp h h' ∧ GrR 32 h.next h' (some (q', 0)) none 32 (P.map tw) := by
    intro T t9 t10 t11 t3
    have I0 : AbI P q h 0 T h1 := ⟨t9, t10, t11, ⟨_, _, _, t3, .inr ⟨h.next, W, .rw, rfl, rfl, by show Nat.blt P.length (0 + 1) = false; rw [Bool.eq_false_iff]; intro hh; have := Nat.le_of_ble_eq_true hh; omega, fun _ _ => Nat.zero_le _, Nat.le_refl _, by omega, g1, rfl, RowB.nil _ _⟩, fun hh => absurd hh (Nat.lt_irrefl 0)⟩, by omega, fun j hj => k1.2 _ hj⟩
    obtain ⟨T', h', r, J⟩ := loop_go (AbI P q h) P.length (.exit 0) (by intro h; cases h) (AbI P q h P.length) (ab_step e x hx M (M + 6) q P hP h hq vs md gq rb) (fun T h' I => by
      obtain ⟨t9, t10, t11, ⟨a, c, ez, t3, gr, cn⟩, nx, fr⟩ := I
      have c0 : decide ((P.length : Int) < (P.length : Int)) = false := decide_eq_false (by omega)
      refine ⟨_, h', by
        simp (config := {maxSteps := 2000000}) (disch := first | omega | (simp only [List.length_cons, List.length_nil, List.length_append, List.length_drop]; omega)) only [L_merkle_above_0, t10, t11, c0, ↓s_ops, ↓s_seq, ↓s_cond, ↓s_exit, ↓s_nil, ↓s_op, ↓s_bindS, s_bindS, ↓s_bindE, s_bindE, s_bindE_exit, s_norm, ↓s_condV, s_condV, ↓s_getp, ↓s_bin, s_same, b_lss, ↓iteN_true, ↓iteN_false, iteN_true, iteN_false, decide_true]
        exact rfl, ⟨(by (simp only [s_getp, Nat.reduceEqDiff, decide_false, iteN_false, t9]; try rfl)), (by (simp only [s_getp, Nat.reduceEqDiff, decide_false, iteN_false, t10]; try rfl)), (by (simp only [s_getp, Nat.reduceEqDiff, decide_false, iteN_false, t11]; try rfl)), ⟨a, c, ez, (by (simp only [s_getp, Nat.reduceEqDiff, decide_false, iteN_false, t3]; try rfl)), gr, cn⟩, nx, fr⟩⟩) P.length 0 (by omega) (M + 6) (by omega) T h1 I0
    obtain ⟨_, _, _, ⟨a, c, ez, t3', gr, cn⟩, nx, fr⟩ := J
    rw [List.take_length] at gr t3'
    rw [List.length_map] at t3'
    have cc := cn hp0
    subst cc
    have hne : P.map tw ≠ [] := by intro h; have := congrArg List.length h; rw [List.length_map, List.length_nil] at this; omega
    rcases gr with ⟨e0, _⟩ | ⟨q', vs', md', rfl, e2, e3, e4, hlo, hq', g', hm', rb'⟩
    · exact absurd e0 hne
    have a1 : ez = 32 := e2
    subst a1
    rw [r]
    refine ⟨h', q', ?_, ⟨nx, fr⟩, .inr ⟨q', vs', md', rfl, rfl, e3, e4, hlo, hq', g', hm', rb'⟩⟩
    simp (config := {maxSteps := 2000000}) (disch := first | omega | (simp only [List.length_cons, List.length_nil, List.length_append, List.length_drop]; omega)) only [R_merkle_above_0, t3', s_res0, ↓s_ops, ↓s_seq, ↓s_ret, ↓s_nil, ↓s_op, ↓s_bindS, s_bindS, ↓s_bindE, s_bindE, s_norm, s_block_exit, ↓s_getp, ↓s_mov, s_end, s_res0, s_res1, s_tup1, ↓iteN_true, iteN_true, decide_true, if_true]
    try rfl
  obtain ⟨R, eR⟩ : ∃ R, R_merkle_above_0 = R := ⟨_, rfl⟩
  obtain ⟨Lo, eL⟩ : ∃ R, L_merkle_above_0 = R := ⟨_, rfl⟩
  rw [eR, eL] at fin ⊢
  obtain ⟨n, en⟩ : ∃ n, P.length = n := ⟨_, rfl⟩
  rw [en] at mk fin ⊢
  simp (config := {maxSteps := 2000000}) (disch := first | omega | (simp only [List.length_cons, List.length_nil, List.length_append, List.length_drop]; omega)) only [mk, e1, ↓x_mkslice, ↓s_len, x_lenS, ↓l_loop, ↓l_succ, x_lenS, ↓s_len, ↓s_ops, ↓s_seq, ↓s_block, ↓s_nil, ↓s_op, ↓s_bindS, s_bindS, ↓s_bindE, s_bindE, s_norm, ↓s_getp, ↓s_get, ↓s_con, ↓s_list0, ↓s_list1, ↓s_mov, s_same, ↓iteN_true, ↓iteN_false, iteN_true, iteN_false, Nat.reduceEqDiff, decide_true, decide_false]
  exact fin _ (by (simp only [s_getp, Nat.reduceEqDiff, decide_false, decide_true, iteN_false, iteN_true]; try rfl)) (by (simp only [s_getp, Nat.reduceEqDiff, decide_false, decide_true, iteN_false, iteN_true]; try rfl)) (by (simp only [s_getp, decide_true, iteN_true]; try rfl)) (by (simp only [s_getp, Nat.reduceEqDiff, decide_false, decide_true, iteN_false, iteN_true]; try rfl))
end Go.Eng
namespace Go.Eng
open Go
variable {E : Nat → Option Fn} {X : Orc}
set_option linter.unusedSimpArgs false
set_option linter.unusedVariables false
/-- the level above -/
def up (l : List (List Nat)) : List (List Nat) := (prs l).map tw
theorem up_len (l : List (List Nat)) : (up l).length = (l.length + 1) / 2 := by unfold up; rw [List.length_map, prs_len _ l rfl]
structure EnLv (E : Nat → Option Fn) : Prop where
  ab : EnAb E
  pr : EnPr E
  lv : E k_merkle_levels = some f_merkle_levels
  l1 : E k_merkle_levels_1 = some f_merkle_levels_1
structure NoLv (X : Orc) : Prop where
  ab : NoAb X
  pr : NoPr X
  lv : ∀ a h, X (.fn k_merkle_levels) a h = none
  l1 : ∀ a h, X (.fn k_merkle_levels_1) a h = none
theorem levels_go (e : EnLv E) (x : NoLv X) (N : Nat) (a : Option (Nat × Nat)) (n : Nat) (c : Option Nat) (ez : Nat) (h : H) :
    callX E X (N + 1) (.fn k_merkle_levels) [.slice a n c ez] h = some (.fn k_merkle_levels_1 [] [.ptr (some (h.next, 0))], h.new (.cells [.slice a n c ez] .rw)) := by
  rw [x_cfn e.lv _ _ (Nat.le_of_ble_eq_true rfl) (x.lv _ _)]
  have cs : (V.slice a n c ez).cells = [.slice a n c ez] := rfl
  simp (config := {maxSteps := 2000000}) (disch := first | omega | (simp only [List.length_cons, List.length_nil, List.length_append, List.length_drop]; omega)) only [cs, ↓s_box, ↓s_mkfn, s_res0, ↓s_ops, ↓s_seq, ↓s_ret, ↓s_nil, ↓s_op, ↓s_bindS, s_bindS, ↓s_bindE, s_bindE, s_norm, ↓s_getp, ↓s_get, ↓s_con, ↓s_os0, ↓s_os1, ↓s_list0, ↓s_list1, ↓s_mov, s_end, s_res0, s_res1, s_tup1, ↓iteN_true, ↓iteN_false, iteN_true, iteN_false, Nat.reduceEqDiff, decide_true, decide_false]
structure LvI (b yl : Nat) (Y : List (List Nat) → H → Prop) (l : List (List Nat)) (T : Tr V) (h : H) : Prop where
  t0 : evO T (.t 0) = .yld yl
  t1 : evO T (.t 1) = .ptr (some (b, 0))
  ro : ∃ q off c vs md, h.get b = some (.cells [.slice (some (q, off)) l.length c 32] .rw) ∧ (∀ x, c = some x → l.length ≤ x) ∧ q < h.next ∧ q ≠ b ∧ h.get q = some (.cells vs md) ∧ RowB 32 (vs.drop off) l
  bn : b < h.next
  y : Y l h
theorem lv_step (e : EnLv E) (x : NoLv X) (hx : HasTw E X) (M n b yl : Nat) (hM : 1000 < M) (Y : List (List Nat) → H → Prop) (Z : H → Prop)
    (hY : ∀ l h h', Y l h → h.next ≤ h'.next → (∀ j, j < h.next → j ≠ b → h'.get j = h.get j) → Y l h')
    (hy : ∀ l h0 h1 q, Y l h0 → 1 < l.length → l.length ≤ 1000 → Kp h0 h1 → b < h0.next → GrR 64 h0.next h1 (some (q, 0)) none 64 (prs l) → ∃ h2 v, callX E X (M + 8) (.yld yl) [.slice (some (q, 0)) (prs l).length none 64] h1 = some (.bool v, h2) ∧ h1.next ≤ h2.next ∧ (v = true → Y (up l) h2 ∧ h2.get b = h1.get b ∧ h2.get q = h1.get q) ∧ (v = false → Z h2)) :
    ∀ l T h, 1 < l.length → l.length ≤ 1000 → LvI b yl Y l T h → ∃ T' h' ex, evC (callX E X (M + 8)) 15 n none L_merkle_levels_1_0 ⟨T, [], h⟩ = some (ex, ⟨T', [], h'⟩) ∧ h.next ≤ h'.next ∧ ((ex = .normal ∧ LvI b yl Y (up l) T' h') ∨ (ex = .ret ∧ Z h')) := by
  intro l T h hl hl2 ⟨t0, t1, ⟨q, off, c, vs, md, gb, hc, hq, hqb, gq, rb⟩, bn, y⟩
  obtain ⟨h1, q1, r1, k1, gr1⟩ := pairs_go e.pr x.pr (M + 3) (by omega) l hl2 (by omega) q off c hc h hq vs md gq rb
  replace r1 : callX E X (M + 8) (.fn k_merkle_pairs) [.slice (some (q, off)) l.length c 32] h = some (.slice (some (q1, 0)) (prs l).length none 64, h1) := r1
  obtain ⟨h2, v, r2, n2, yt, zf⟩ := hy l h h1 q1 y hl hl2 k1 bn gr1
  have pl := prs_len _ l rfl
  have n1 := k1.1
  have c0 : decide ((1 : Int) < (l.length : Int)) = true := decide_eq_true (by omega)
  obtain ⟨m, em⟩ : ∃ m, (prs l).length = m := ⟨_, rfl⟩
  cases v with
  | false =>
    have z := zf rfl
    rw [em] at r1 r2
    refine ⟨_, h2, .ret, by
      simp (config := {maxSteps := 2000000}) (disch := first | omega | (simp only [List.length_cons, List.length_nil, List.length_append, List.length_drop]; omega)) only [L_merkle_levels_1_0, t0, t1, gb, c0, r1, r2, s_callVy, ↓s_len, x_lenS, ↓s_load, m_load, ↓m_load1, m_load1, x_lenS, ↓s_len, ↓s_skip, ↓s_ops, ↓s_seq, ↓s_cond, ↓s_block, ↓s_ret, ↓s_nil, ↓s_op, ↓s_bindS, s_bindS, ↓s_bindE, s_bindE, s_bindE_ret, s_norm, ↓s_condV, s_condV, s_block_ret, ↓s_getp, ↓s_con, ↓s_os0, ↓s_os1, ↓s_mov, ↓s_bin, ↓s_un, ↓s_call, ↓s_callv, s_same, b_gtr, u_not, ↓iteN_true, ↓iteN_false, iteN_true, iteN_false, Nat.reduceEqDiff, decide_true, decide_false, Bool.not_false, List.getElem?_cons_zero]
      exact rfl, by omega, .inr ⟨rfl, z⟩⟩
  | true =>
    obtain ⟨y2, gb2, gq2⟩ := yt rfl
    have hne : prs l ≠ [] := by intro h; rw [h, List.length_nil] at pl; omega
    rcases id gr1 with ⟨e0, _⟩ | ⟨q', vs', md', e1, _, _, _, hlo, hq', g', hm', rb'⟩
    · exact absurd e0 hne
    cases e1
    obtain ⟨h3, q3, r3, k3, gr3⟩ := aboves_go e.ab x.ab hx (M + 1) (by omega) q1 (prs l) (by omega) (by omega) h2 vs' md' (by omega) (by rw [gq2, g']) rb'
    replace r3 : callX E X (M + 8) (.fn k_merkle_above) [.slice (some (q1, 0)) (prs l).length none 64] h2 = some (.slice (some (q3, 0)) (prs l).length none 32, h3) := r3
    have n3 := k3.1
    have gb3 : h3.get b = some (.cells [.slice (some (q, off)) l.length c 32] .rw) := by rw [k3.2 _ (by omega), gb2, k1.2 _ bn, gb]
    obtain ⟨h4, e4⟩ : ∃ h4, h3.put b (.cells [.slice (some (q3, 0)) (prs l).length none 32] .rw) = h4 := ⟨_, rfl⟩
    have n4 : h4.next = h3.next := by rw [← e4]; rfl
    have gb4 : h4.get b = some (.cells [.slice (some (q3, 0)) (prs l).length none 32] .rw) := by rw [← e4]; exact h_put_same _ _ _
    have f4 : ∀ j, j ≠ b → h4.get j = h3.get j := fun j hj => by rw [← e4, h_put_ne _ _ (Ne.symm hj)]
    have y4 := hY _ h2 h4 y2 (by omega) (fun j hj hb => by rw [f4 _ hb, k3.2 _ hj])
    have hne2 : (prs l).map tw ≠ [] := by intro h; have := congrArg List.length h; rw [List.length_map, List.length_nil] at this; omega
    rcases gr3 with ⟨e0, _⟩ | ⟨q', vs'', md'', e1, _, _, _, hlo3, hq3, g3, hm3, rb3⟩
    · exact absurd e0 hne2
    cases e1
    have ul := up_len l
    rw [show (prs l).length = (up l).length by rw [ul, pl]] at gb4
    have lv : LvI b yl Y (up l) T h4 → True := fun _ => trivial
    rw [em] at r1 r2 r3 e4
    refine ⟨_, h4, .normal, by
      simp (config := {maxSteps := 2000000}) (disch := first | omega | (simp only [List.length_cons, List.length_nil, List.length_append, List.length_drop]; omega)) only [L_merkle_levels_1_0, t0, t1, gb, c0, r1, r2, r3, gb3, e4, m_storeS, s_callVy, ↓s_len, x_lenS, Nat.zero_add, ↓s_load, m_load, ↓m_load1, m_load1, ↓m_st, m_stE, m_storeE, w_zero, x_lenS, ↓s_len, List.length_cons, List.length_nil, List.drop_succ_cons, List.drop_nil, ↓s_skip, ↓s_ops, ↓s_seq, ↓s_cond, ↓s_block, ↓s_nil, ↓s_op, ↓s_bindS, s_bindS, ↓s_bindE, s_bindE, s_norm, ↓s_condV, s_condV, s_block_normal, ↓s_getp, ↓s_con, ↓s_os0, ↓s_os1, ↓s_mov, ↓s_bin, ↓s_un, ↓s_call, ↓s_callv, s_same, b_gtr, u_not, ↓iteN_true, ↓iteN_false, iteN_true, iteN_false, Nat.zero_add, List.append_nil, Nat.reduceEqDiff, decide_true, decide_false, Bool.not_true, List.getElem?_cons_zero]
      exact rfl, by omega, .inl ⟨rfl, ⟨(by (simp only [s_getp, s_getp0, Nat.reduceEqDiff, decide_false, iteN_false, t0]; try rfl)), (by (simp only [s_getp, s_getp0, Nat.reduceEqDiff, decide_false, iteN_false, t1]; try rfl)), ⟨q3, 0, none, vs'', md'', gb4, fun _ h => (by cases h), by omega, by omega, by rw [f4 _ (by omega), g3], by rw [List.drop_zero]; exact rb3⟩, by omega, y4⟩⟩⟩
theorem lv_loop (e : EnLv E) (x : NoLv X) (hx : HasTw E X) (M n b yl : Nat) (hM : 1000 < M) (Y : List (List Nat) → H → Prop) (Z : H → Prop)
    (hY : ∀ l h h', Y l h → h.next ≤ h'.next → (∀ j, j < h.next → j ≠ b → h'.get j = h.get j) → Y l h')
    (hy : ∀ l h0 h1 q, Y l h0 → 1 < l.length → l.length ≤ 1000 → Kp h0 h1 → b < h0.next → GrR 64 h0.next h1 (some (q, 0)) none 64 (prs l) → ∃ h2 v, callX E X (M + 8) (.yld yl) [.slice (some (q, 0)) (prs l).length none 64] h1 = some (.bool v, h2) ∧ h1.next ≤ h2.next ∧ (v = true → Y (up l) h2 ∧ h2.get b = h1.get b ∧ h2.get q = h1.get q) ∧ (v = false → Z h2)) :
    ∀ k l, l.length ≤ k → 0 < l.length → k ≤ 1000 → ∀ g, k < g → ∀ T h, LvI b yl Y l T h → ∃ T' h' ex, loopN (evC (callX E X (M + 8)) 15 n none L_merkle_levels_1_0) g ⟨T, [], h⟩ = some (ex, ⟨T', [], h'⟩) ∧ h.next ≤ h'.next ∧ ((ex = .exit 0 ∧ ∃ r, Y [r] h') ∨ (ex = .ret ∧ Z h')) := by
  intro k
  induction k with
  | zero => intro l h1 h2; omega
  | succ k ih =>
    intro l hl hl0 hk g hg T h I
    obtain ⟨g, rfl⟩ : ∃ j, g = j + 1 := ⟨g - 1, by omega⟩
    by_cases h1 : l.length = 1
    · obtain ⟨t0, t1, ⟨q, off, c, vs, md, gb, _⟩, bn, y⟩ := I
      obtain ⟨r, rfl⟩ := List.length_eq_one_iff.1 h1
      have c0 : decide ((1 : Int) < (([r] : List (List Nat)).length : Int)) = false := rfl
      rw [l_succ]
      refine ⟨putT (putT (putT T (some 4) (.slice (some (q, off)) ([r] : List (List Nat)).length c 32)) (some 5) (.int .i64 (([r] : List (List Nat)).length : Int))) (some 6) (.bool false), h, .exit 0, by
        obtain ⟨n1, en⟩ : ∃ n1, ([r] : List (List Nat)).length = n1 := ⟨_, rfl⟩
        rw [en] at gb c0 ⊢
        simp (config := {maxSteps := 2000000}) (disch := first | omega | (simp only [List.length_cons, List.length_nil, List.length_append, List.length_drop]; omega)) only [L_merkle_levels_1_0, t1, gb, c0, ↓s_len, x_lenS, l_exit, ↓s_load, m_load, ↓m_load1, m_load1, x_lenS, ↓s_len, ↓s_ops, ↓s_seq, ↓s_cond, ↓s_exit, ↓s_nil, ↓s_op, ↓s_bindS, s_bindS, ↓s_bindE, s_bindE, s_bindE_exit, s_norm, ↓s_condV, s_condV, ↓s_getp, ↓s_con, ↓s_bin, s_same, b_gtr, ↓iteN_true, ↓iteN_false, iteN_true, iteN_false, decide_true, List.getElem?_cons_zero]
        try rfl, Nat.le_refl _, .inl ⟨rfl, r, y⟩⟩
    · obtain ⟨T1, h1', ex, r1, n1, d⟩ := lv_step e x hx M n b yl hM Y Z hY hy l T h (by omega) (by omega) I
      rcases d with ⟨rfl, I1⟩ | ⟨rfl, z⟩
      · have ul := up_len l
        obtain ⟨T', h', ex, r2, n2, d⟩ := ih (up l) (by omega) (by omega) (by omega) g (by omega) T1 h1' I1
        exact ⟨T', h', ex, by rw [l_succ, r1, l_normal]; exact r2, by omega, d⟩
      · exact ⟨T1, h1', .ret, by rw [l_succ, r1]; exact l_ret _ _, n1, .inr ⟨rfl, z⟩⟩
end Go.Eng
namespace Go.Eng
open Go
variable {E : Nat → Option Fn} {X : Orc}
set_option linter.unusedSimpArgs false
set_option linter.unusedVariables false
/-- the root of a list -/
def rtL (l : List (List Nat)) : List Nat := if h : l.length ≤ 1 then l.headD [] else rtL (up l)
termination_by l.length
decreasing_by rw [up_len]; omega
theorem rtL_1 (r : List Nat) : rtL [r] = r := by rw [rtL]; simp
theorem rtL_up (l : List (List Nat)) (h : 1 < l.length) : rtL l = rtL (up l) := by
  rw [rtL, dif_neg (by omega)]
theorem up_all (l : List (List Nat)) : ∀ a ∈ up l, a.length = 32 := by
  intro a ha
  obtain ⟨p, _, rfl⟩ := List.mem_map.1 ha
  exact tw_len p
structure EnRt (E : Nat → Option Fn) : Prop where
  lv : EnLv E
  rt : E k_merkle_Root = some f_merkle_Root
structure NoRt (X : Orc) : Prop where
  lv : NoLv X
  rt : ∀ a h, X (.fn k_merkle_Root) a h = none
structure RtY (b : Nat) (T0 : Tr V) (h0 : H) (tot : List Nat) (l : List (List Nat)) (h : H) : Prop where
  g0 : h.get b = some (.cells (ofI .u8 (List.replicate 32 0)) .rw)
  g1 : h.get (b + 1) = some (.cells (ofI .u8 (l.headD [])) .rw)
  ln : (l.headD []).length = 32
  to : rtL l = tot
  g3 : h.get (b + 3) = some .defers
  g4 : h.get (b + 4) = some (.loop 0 none 21 T0 [15] A_merkle_Root_0 B_merkle_Root_0 (b + 3))
  nx : b + 5 ≤ h.next
  fr : ∀ j, j < b → h.get j = h0.get j
theorem rt_yld (ea : EnAb E) (xa : NoAb X) (hx : HasTw E X) (x : ∀ l a h, X (.yld l) a h = none) (M b : Nat) (T0 : Tr V) (t4 : evO T0 (.t 4) = .ptr (some (b + 1, 0))) (hb tot) :
    ∀ l h0 h1 q, RtY b T0 hb tot l h0 → 1 < l.length → l.length ≤ 1000 → Kp h0 h1 → b + 2 < h0.next → GrR 64 h0.next h1 (some (q, 0)) none 64 (prs l) → ∃ h2 v, callX E X (M + 8) (.yld (b + 4)) [.slice (some (q, 0)) (prs l).length none 64] h1 = some (.bool v, h2) ∧ h1.next ≤ h2.next ∧ (v = true → RtY b T0 hb tot (up l) h2 ∧ h2.get (b + 2) = h1.get (b + 2) ∧ h2.get q = h1.get q) ∧ (v = false → False) := by
  intro l h0 h1 q ⟨g0, g1, ln, to, g3, g4, nx, fr⟩ hl hl2 k1 hb2 gr
  have yx : callX E X (M + 8) (.yld (b + 4)) [.slice (some (q, 0)) (prs l).length none 64] h1 = cYld (callX E X (M + 7)) (M + 7) (b + 4) [.slice (some (q, 0)) (prs l).length none 64] h1 := x_yld (x _ _ _)
  have pl := prs_len _ l rfl
  obtain ⟨A, P, eP⟩ : ∃ A P, prs l = A :: P := by
    cases hp : prs l with
    | nil => rw [hp, List.length_nil] at pl; omega
    | cons A P => exact ⟨A, P, rfl⟩
  have hne : prs l ≠ [] := by rw [eP]; intro h; cases h
  rcases gr with ⟨e0, _⟩ | ⟨q', vs, md, e1, _, _, _, hlo, hq, g, hm, rb⟩
  · exact absurd e0 hne
  cases e1
  have hA : (prs l)[0]? = some A := by rw [eP]; rfl
  have lA := rowB_ld (vs := vs) (off := 0) (by rw [List.drop_zero]; exact rb) hA (by decide) md
  rw [Nat.zero_add, Nat.zero_mul] at lA
  have hA64 := (rb.2 _ _ hA).2
  have n1 := k1.1
  obtain ⟨h2, e2⟩ : ∃ h2, h1.put (b + 4) (.loop 1 none 21 T0 [15] A_merkle_Root_0 B_merkle_Root_0 (b + 3)) = h2 := ⟨_, rfl⟩
  have n2 : h2.next = h1.next := by rw [← e2]; rfl
  have f2 : ∀ j, j ≠ b + 4 → h2.get j = h1.get j := fun j hj => by rw [← e2, h_put_ne _ _ (Ne.symm hj)]
  obtain ⟨h3, r3, k3⟩ := above_go ea.cat xa.cat hx ea.pa xa.pa (M + 1) A hA64 h2
  replace r3 : callX E X (M + 7) (.fn k_merkle_pair_above) [.agg (ofI .u8 A)] h2 = some (.agg (ofI .u8 (tw A)), h3) := r3
  have n3 := k3.1
  have f3 : ∀ j, j < h1.next → j ≠ b + 4 → h3.get j = h1.get j := fun j hj hb => by rw [k3.2 _ (by omega), f2 _ hb]
  have g34 : h3.get (b + 4) = some (.loop 1 none 21 T0 [15] A_merkle_Root_0 B_merkle_Root_0 (b + 3)) := by rw [k3.2 _ (by omega), ← e2]; exact h_put_same _ _ _
  have g14 : h1.get (b + 4) = some (.loop 0 none 21 T0 [15] A_merkle_Root_0 B_merkle_Root_0 (b + 3)) := by rw [k1.2 _ (by omega), g4]
  have g31 : h3.get (b + 1) = some (.cells (ofI .u8 (l.headD [])) .rw) := by rw [f3 _ (by omega) (by omega), k1.2 _ (by omega), g1]
  have g2q : h2.get q = some (.cells vs md) := by rw [f2 _ (by omega), g]
  obtain ⟨m, em⟩ : ∃ m, (prs l).length = m := ⟨_, rfl⟩
  have i0 : idx (0 : Int) m = some 0 := idxn (i := 0) (by omega)
  have st : ∀ h i, storeV h 32 (.ptr (some (i, 0))) (.agg (ofI .u8 (tw A))) = storeE (h.get i) h i 0 (ofI .u8 (tw A)) := fun h i => st32 h i 0 _ (tw_len A)
  have pu : ∀ h i, storeE (some (.cells (ofI .u8 (l.headD [])) .rw)) h i 0 (ofI .u8 (tw A)) = some (h.put i (.cells (ofI .u8 (tw A)) .rw)) := fun h i => by
    rw [m_storeE _ _ _ _ _ (by rw [ofI_len, ofI_len, tw_len, ln]; omega), wrAll _ _ _ (by rw [ln, tw_len])]
  have hu : (up l).headD [] = tw A := by unfold up; rw [eP]; rfl
  have z1 : (b + 1 = b + 4) = False := by simp
  have z2 : (b + 4 = b + 1) = False := by simp
  refine ⟨(h3.put (b + 1) (.cells (ofI .u8 (tw A)) .rw)).put (b + 4) (.loop 0 none 21 T0 [15] A_merkle_Root_0 B_merkle_Root_0 (b + 3)), true, ?_, by simp only [h_next_put]; omega, fun _ => ⟨⟨?_, ?_, by rw [hu, tw_len], by rw [← rtL_up l hl, to], ?_, h_put_same _ _ _, by simp only [h_next_put]; omega, fun j hj => ?_⟩, ?_, ?_⟩, fun h => by cases h⟩
  · rw [yx, em]
    generalize ofI .u8 (tw A) = CT at *
    generalize ofI .u8 A = CA at *
    simp (config := {maxSteps := 2000000}) (disch := first | omega | (simp only [List.length_cons, List.length_nil, List.length_append, List.length_drop]; omega)) only [g14, e2, g2q, lA, i0, r3, g31, st, pu, g34, t4, z1, y_cyld, y_ready, y_set1, y_mid, y_busy, y_end, y_done, y_jn, Option.isNone_none, ↓u_A_merkle_Root_0, ↓u_B_merkle_Root_0, Nat.add_zero, ↓h_put_get, ↓s_load, m_load, ↓m_st, m_stE, ↓x_idxS, x_idxSE, x_addrE, Nat.reduceMul, ↓s_ops, ↓s_block, ↓s_nil, ↓s_op, ↓s_bindS, s_bindS, s_norm, s_block_normal, ↓s_getp, ↓s_get, ↓s_con, ↓s_os0, ↓s_os1, ↓s_mov, ↓s_call, s_same, ↓iteN_true, ↓iteN_false, iteN_true, iteN_false, Nat.reduceEqDiff, decide_true, decide_false]
  · rw [h_put_ne _ _ (by omega), h_put_ne _ _ (by omega), f3 _ (by omega) (by omega), k1.2 _ (by omega), g0]
  · rw [h_put_ne _ _ (by omega), h_put_same, hu]
  · rw [h_put_ne _ _ (by omega), h_put_ne _ _ (by omega), f3 _ (by omega) (by omega), k1.2 _ (by omega), g3]
  · rw [h_put_ne _ _ (by omega), h_put_ne _ _ (by omega), f3 _ (by omega) (by omega), k1.2 _ (by omega), fr _ hj]
  · rw [h_put_ne _ _ (by omega), h_put_ne _ _ (by omega), f3 _ (by omega) (by omega)]
  · rw [h_put_ne _ _ (by omega), h_put_ne _ _ (by omega), f3 _ (by omega) (by omega)]
end Go.Eng
namespace Go.Eng
open Go
variable {E : Nat → Option Fn} {X : Orc}
set_option linter.unusedSimpArgs false
set_option linter.unusedVariables false
theorem levels1_go (e : EnLv E) (x : NoLv X) (hx : HasTw E X) (M b yl : Nat) (hM : 1000 < M) (Y : List (List Nat) → H → Prop) (Z : H → Prop)
    (hY : ∀ l h h', Y l h → h.next ≤ h'.next → (∀ j, j < h.next → j ≠ b → h'.get j = h.get j) → Y l h')
    (hy : ∀ l h0 h1 q, Y l h0 → 1 < l.length → l.length ≤ 1000 → Kp h0 h1 → b < h0.next → GrR 64 h0.next h1 (some (q, 0)) none 64 (prs l) → ∃ h2 v, callX E X (M + 8) (.yld yl) [.slice (some (q, 0)) (prs l).length none 64] h1 = some (.bool v, h2) ∧ h1.next ≤ h2.next ∧ (v = true → Y (up l) h2 ∧ h2.get b = h1.get b ∧ h2.get q = h1.get q) ∧ (v = false → Z h2))
    (l : List (List Nat)) (hl : 0 < l.length) (hl2 : l.length ≤ 1000) (h : H) (q off : Nat) (c : Option Nat) (vs : List V) (md : Md) (gb : h.get b = some (.cells [.slice (some (q, off)) l.length c 32] .rw)) (hc : ∀ x, c = some x → l.length ≤ x) (hq : q < h.next) (hqb : q ≠ b) (gq : h.get q = some (.cells vs md)) (rb : RowB 32 (vs.drop off) l) (bn : b < h.next) (y : Y l h) :
    ∃ h', callX E X (M + 9) (.fn k_merkle_levels_1) [.yld yl, .ptr (some (b, 0))] h = some (.tup [], h') ∧ h.next ≤ h'.next ∧ ((∃ r, Y [r] h') ∨ Z h') := by
  rw [x_cfn e.l1 _ _ (Nat.le_of_ble_eq_true rfl) (x.l1 _ _)]
  have fin : ∀ T, evO T (.t 0) = .yld yl → evO T (.t 1) = .ptr (some (b, 0)) → ∃ h', fnEnd [] (blockE 0 (loopN (evC (callX E X (M + 8)) 15 (M + 8) none L_merkle_levels_1_0) (M + 8) ⟨T, [], h⟩)) = some (.tup [], h') ∧ h.next ≤ h'.next ∧ ((∃ r, Y [r] h') ∨ Z h') := by
    intro T t0 t1
    obtain ⟨T', h', ex, r, n, d⟩ := lv_loop e x hx M (M + 8) b yl hM Y Z hY hy l.length l (Nat.le_refl _) hl hl2 (M + 8) (by omega) T h ⟨t0, t1, ⟨q, off, c, vs, md, gb, hc, hq, hqb, gq, rb⟩, bn, y⟩
    rw [r]
    rcases d with ⟨rfl, d⟩ | ⟨rfl, d⟩
    · exact ⟨h', rfl, n, .inl d⟩
    · exact ⟨h', rfl, n, .inr d⟩
  obtain ⟨Lo, eL⟩ : ∃ R, L_merkle_levels_1_0 = R := ⟨_, rfl⟩
  rw [eL] at fin
  rw [eL, s_block, s_loop]
  exact fin _ (by (simp only [Nat.reduceEqDiff, decide_false, decide_true, iteN_false, iteN_true, s_list1, s_list0, s_get]; try rfl)) (by (simp only [decide_true, iteN_true, s_list1, s_list0, s_get]; try rfl))
theorem root_go (e : EnRt E) (x : NoRt X) (hx : HasTw E X) (M : Nat) (hM : 1000 < M) (l : List (List Nat)) (hl : 0 < l.length) (hl2 : l.length ≤ 1000) (h : H) (q off : Nat) (c : Option Nat) (vs : List V) (md : Md) (hc : ∀ x, c = some x → l.length ≤ x) (hq : q < h.next) (gq : h.get q = some (.cells vs md)) (rb : RowB 32 (vs.drop off) l) :
    ∃ h', callX E X (M + 11) (.fn k_merkle_Root) [.slice (some (q, off)) l.length c 32] h = some (.tup [.agg (ofI .u8 (rtL l)), .int .i64 0], h') ∧ Kp h h' := by
  rw [x_cfn e.rt _ _ (Nat.le_of_ble_eq_true rfl) (x.rt _ _)]
  obtain ⟨n, en⟩ : ∃ n, l.length = n := ⟨_, rfl⟩
  obtain ⟨b, eb⟩ : ∃ b, h.next = b := ⟨_, rfl⟩
  rw [eb] at hq
  obtain ⟨A, P, eP⟩ : ∃ A P, l = A :: P := by
    cases l with
    | nil => cases hl
    | cons A P => exact ⟨A, P, rfl⟩
  have hA : l[0]? = some A := by rw [eP]; rfl
  have hA32 := (rb.2 _ _ hA).2
  have lA := rowB_ld rb hA (by decide) md
  rw [Nat.zero_mul, Nat.add_zero] at lA
  have hu : l.headD [] = A := by rw [eP]; rfl
  have c0 : decide ((n : Int) = 0) = false := decide_eq_false (by omega)
  have i0 : idx (0 : Int) n = some 0 := idxn (i := 0) (by omega)
  obtain ⟨Z, eZ⟩ : ∃ Z, ofI .u8 (List.replicate 32 0) = Z := ⟨_, rfl⟩
  obtain ⟨S, eS⟩ : ∃ S, ofI .u8 A = S := ⟨_, rfl⟩
  have st : ∀ h i, storeV h 32 (.ptr (some (i, 0))) (.agg S) = storeE (h.get i) h i 0 S := fun h i => by rw [← eS]; exact st32 h i 0 _ hA32
  have puG : ∀ (l : List Nat) (_ : l.length = 32) h i, storeE (some (.cells Z .rw)) h i 0 (ofI .u8 l) = some (h.put i (.cells (ofI .u8 l) .rw)) := fun l hl h i => by
    rw [m_storeE _ _ _ _ _ (by rw [← eZ, ofI_len, ofI_len, hl, List.length_replicate]; omega), ← eZ, wrAll _ _ _ (by rw [List.length_replicate, hl])]
  have pu := puG A hA32
  rw [eS] at pu
  have lv := fun h => levels_go e.lv x.lv (M + 9) (some (q, off)) l.length c 32 h
  rw [en] at lv
  obtain ⟨hA', eA⟩ : ∃ hA, (((h.new (.cells Z .rw)).new (.cells Z .rw)).put (b + 1) (.cells S .rw)).new (.cells [.slice (some (q, off)) n c 32] .rw) = hA := ⟨_, rfl⟩
  have nA : hA'.next = b + 3 := by rw [← eA, ← eb]; rfl
  have gA0 : hA'.get b = some (.cells Z .rw) := by rw [← eA, ← eb]; (simp (disch := omega) only [h_put_get, h_new_get, h_next_put, h_next_new, Nat.add_assoc, Nat.add_eq_left, Nat.reduceAdd, decide_true, decide_false, iteN_true, iteN_false, Nat.reduceAdd, reduceCtorEq, ]; try rfl)
  have gA1 : hA'.get (b + 1) = some (.cells S .rw) := by rw [← eA, ← eb]; (simp (disch := omega) only [h_put_get, h_new_get, h_next_put, h_next_new, Nat.add_assoc, Nat.add_left_cancel_iff, Nat.reduceAdd, decide_true, decide_false, iteN_true, iteN_false, Nat.reduceEqDiff, Nat.reduceAdd, ]; try rfl)
  have gA2 : hA'.get (b + 2) = some (.cells [.slice (some (q, off)) n c 32] .rw) := by rw [← eA, ← eb]; (simp (disch := omega) only [h_new_get, h_next_put, h_next_new, Nat.add_assoc, Nat.reduceAdd, decide_true, iteN_true, Nat.reduceAdd, ]; try rfl)
  have kA : Kp h hA' := by rw [← eA]; (repeat (first | exact Kp.refl _ | refine Kp.put ?_ _ (by first | omega | (simp only [h_next_put, h_next_new, h_next_del]; omega)) | refine Kp.del ?_ (by first | omega | (simp only [h_next_put, h_next_new, h_next_del]; omega)) | refine Kp.trans ?_ (Kp.new _ _)))
  have fin : ∀ T0, evO T0 (.t 2) = .ptr (some (b, 0)) → evO T0 (.t 4) = .ptr (some (b + 1, 0)) → ∃ h', fnEnd [.cell 2 (some 32), .tmp 3] (bindE (blockE 0 (rangeEnd (b + 4) T0 [b + 3] (callF (callX E X (M + 10)) (.yld (b + 4)) (.fn k_merkle_levels_1 [] [.ptr (some (b + 2, 0))]) ((hA'.new .defers).new (.loop 0 none 21 T0 [15] A_merkle_Root_0 B_merkle_Root_0 (b + 3)))))) (evC (callX E X (M + 10)) 21 (M + 10) none R_merkle_Root_0)) = some (.tup [.agg (ofI .u8 (rtL l)), .int .i64 0], h') ∧ Kp h h' := by
    intro T0 t2 t4
    obtain ⟨hB, eB⟩ : ∃ hB, (hA'.new .defers).new (.loop 0 none 21 T0 [15] A_merkle_Root_0 B_merkle_Root_0 (b + 3)) = hB := ⟨_, rfl⟩
    have nB : hB.next = b + 5 := by rw [← eB]; simp only [h_next_new, nA]
    have kB : Kp hA' hB := by rw [← eB]; exact (Kp.new _ _).trans (Kp.new _ _)
    have gB3 : hB.get (b + 3) = some .defers := by rw [← eB, h_new_ne _ _ (by rw [h_next_new, nA]; omega)]; exact h_new_same' _ _ nA
    have gB4 : hB.get (b + 4) = some (.loop 0 none 21 T0 [15] A_merkle_Root_0 B_merkle_Root_0 (b + 3)) := by rw [← eB]; exact h_new_same' _ _ (by rw [h_next_new, nA])
    have y0 : RtY b T0 h (rtL l) l hB := ⟨by rw [kB.2 _ (by omega), gA0, eZ], by rw [kB.2 _ (by omega), gA1, hu, eS], by rw [hu, hA32], rfl, gB3, gB4, by omega, fun j hj => by rw [kB.2 _ (by omega), kA.2 _ (by omega)]⟩
    obtain ⟨hC, r, nC, d⟩ := levels1_go e.lv x.lv hx (M + 1) (b + 2) (b + 4) (by omega) (RtY b T0 h (rtL l)) (fun _ => False) (fun l h h' y hn f => ⟨by rw [f _ (by have := y.nx; omega) (by omega), y.g0], by rw [f _ (by have := y.nx; omega) (by omega), y.g1], y.ln, y.to, by rw [f _ (by have := y.nx; omega) (by omega), y.g3], by rw [f _ (by have := y.nx; omega) (by omega), y.g4], by have := y.nx; omega, fun j hj => by rw [f _ (by have := y.nx; omega) (by omega), y.fr _ hj]⟩) (rt_yld e.lv.ab x.lv.ab hx x.lv.pr.yld (M + 1) b T0 t4 h (rtL l)) l hl hl2 hB q off c vs md (by rw [kB.2 _ (by omega), gA2, en]) hc (by omega) (by omega) (by rw [kB.2 _ (by omega), kA.2 _ (by omega), gq]) rb (by omega) y0
    replace r : callX E X (M + 10) (.fn k_merkle_levels_1) [.yld (b + 4), .ptr (some (b + 2, 0))] hB = some (.tup [], hC) := r
    rcases d with ⟨rt, y⟩ | d
    rotate_left
    · exact d.elim
    obtain ⟨g0, g1, ln, to, g3, g4, nx, fr⟩ := y
    rw [rtL_1] at to
    have hr : ([rt] : List (List Nat)).headD [] = rt := rfl
    rw [hr] at g1 ln
    rw [eZ] at g0
    obtain ⟨W, eW⟩ : ∃ W, ofI .u8 rt = W := ⟨_, rfl⟩
    have puW := puG rt ln
    have stW : ∀ h i, storeV h 32 (.ptr (some (i, 0))) (.agg W) = storeE (h.get i) h i 0 W := fun h i => by rw [← eW]; exact st32 h i 0 _ ln
    have ldW : ∀ m, loadE (some (.cells W m)) (some 32) 0 = some (.agg W) := fun m => by rw [← eW, m_loadN, x_readAll _ 32 (by rw [ofI_len, ln])]
    rw [← to, eW]
    rw [eW] at g1 puW
    have z1 : (b + 4 = b + 1) = False := by simp
    have z2 : (b + 4 = b + 3) = False := by simp
    have z3 : (b + 3 = b + 1) = False := by simp
    have z4 : (b + 4 = b) = False := by simp
    have z5 : (b + 3 = b) = False := by simp
    have z6 : (b = b + 1) = False := by simp
    rw [eB]
    refine ⟨(((hC.del (b + 4)).put b (.cells W .rw)).del (b + 3)), ?_, ⟨by simp only [h_next_del, h_next_put]; omega, fun i hi => ?_⟩⟩
    · simp (config := {maxSteps := 2000000}) (disch := first | omega | (simp only [List.length_cons, List.length_nil, List.length_append, List.length_drop]; omega)) only [s_callF, List.nil_append, List.cons_append, r, t2, t4, g0, g1, g3, g4, z1, z2, z4, z5, stW, puW, ldW, R_merkle_Root_0, r_end, r_0, r_jn, e_ret, d_cons, d_yes, d_nil, e_some, ↓h_put_get, ↓h_del_get, Nat.left_eq_add, ↓s_load, m_load, ↓m_st, m_stE, List.cons_append, List.nil_append, s_resc, s_consR, s_res0, ↓s_ops, ↓s_seq, ↓s_ret, ↓s_nil, ↓s_op, ↓s_bindS, s_bindS, ↓s_bindE, s_bindE, s_norm, s_block_normal, ↓s_getp, ↓s_getp0, ↓s_con, ↓s_mov, s_same, s_res0, s_res1, s_tup2, ↓iteN_true, ↓iteN_false, iteN_true, iteN_false, List.nil_append, Nat.reduceEqDiff, decide_true, decide_false]
    · rw [h_del_ne _ (by omega), h_put_ne _ _ (by omega), h_del_ne _ (by omega), fr _ (by omega)]
  obtain ⟨R, eR⟩ : ∃ R, R_merkle_Root_0 = R := ⟨_, rfl⟩
  rw [eR] at fin ⊢
  have al : ∀ (Q : Orc) (T : Tr V) (h : H), Eng.step (.alloc [.int .u8 0, .int .u8 0, .int .u8 0, .int .u8 0, .int .u8 0, .int .u8 0, .int .u8 0, .int .u8 0, .int .u8 0, .int .u8 0, .int .u8 0, .int .u8 0, .int .u8 0, .int .u8 0, .int .u8 0, .int .u8 0, .int .u8 0, .int .u8 0, .int .u8 0, .int .u8 0, .int .u8 0, .int .u8 0, .int .u8 0, .int .u8 0, .int .u8 0, .int .u8 0, .int .u8 0, .int .u8 0, .int .u8 0, .int .u8 0, .int .u8 0, .int .u8 0]) Q T h = some (.ptr (some (h.next, 0)), h.new (.cells Z .rw)) := fun Q T h => by rw [← eZ]; rfl
  rw [en]
  rw [eS] at lA
  have zq : (b = q) = False := eq_false (by omega)
  generalize rtL l = RT at *
  simp (config := {maxSteps := 2000000}) (disch := first | omega | (simp only [List.length_cons, List.length_nil, List.length_append, List.length_drop]; omega)) only [zq, gq, lA, c0, i0, ↓al, st, pu, lv, eA, nA, eb, ↓s_len, x_lenS, ↓s_range, Nat.add_zero, ↓h_new_get, h_next_put, h_next_new, Nat.add_assoc, ↓s_load, m_load, ↓m_st, m_stE, ↓x_idxS, x_idxSE, x_addrE, x_lenS, ↓s_len, Nat.reduceAdd, Nat.reduceMul, ↓s_skip, ↓s_ops, ↓s_seq, ↓s_cond, ↓s_block, ↓s_nil, ↓s_op, ↓s_bindS, s_bindS, ↓s_bindE, s_bindE, s_norm, ↓s_condV, s_condV, ↓s_getp, ↓s_getp0, ↓s_get, ↓s_con, ↓s_os0, ↓s_os1, ↓s_list0, ↓s_list1, ↓s_mov, ↓s_bin, ↓s_call, s_same, b_eql, ↓iteN_true, ↓iteN_false, iteN_true, iteN_false, Nat.reduceEqDiff, decide_true, decide_false]
  exact fin _ (by (simp only [s_getp, s_getp0, Nat.reduceEqDiff, decide_false, decide_true, iteN_false, iteN_true]; try rfl)) (by (simp only [s_getp, s_getp0, Nat.reduceEqDiff, decide_false, decide_true, iteN_false, iteN_true]; try rfl))
end Go.Eng
