/- What functions of the program come to: own work. -/
import Derived.Test.YtpgocblbihbfpaaDrC
namespace Go.Eng
open Go
variable {E : Nat → Option Fn} {X : Orc}
set_option linter.unusedSimpArgs false
set_option linter.unusedVariables false
/-- a slice of bytes that may be written over -/
def Ow (h : H) (w : List Nat) (a : Option (Nat × Nat)) (e : Nat) : Prop := w = [] ∨ ∃ q md, a = some (q, 0) ∧ e = 1 ∧ h.get q = some (.cells (ofI .u8 w) md) ∧ isRo md = false ∧ q < h.next
theorem Ow.src {h : H} {w : List Nat} {a : Option (Nat × Nat)} {e : Nat} (s : Ow h w a e) : SrcH h a e w := by
  rcases s with s | ⟨q, md, rfl, rfl, g, _, hq⟩
  · exact .inl s
  · exact .inr ⟨q, 0, _, md, rfl, rfl, hq, g, by rw [ofI_len]; omega, by rw [List.drop_zero]; exact List.take_of_length_le (by rw [ofI_len]; exact Nat.le_refl _)⟩
theorem Ow.kp {h h' : H} {w : List Nat} {a : Option (Nat × Nat)} {e : Nat} (s : Ow h w a e) (k : Kp h h') : Ow h' w a e := by
  rcases s with s | ⟨q, md, e1, e2, g, hm, hq⟩
  · exact .inl s
  · exact .inr ⟨q, md, e1, e2, by rw [k.2 _ hq, g], hm, Nat.lt_of_lt_of_le hq k.1⟩
theorem Wb.ow {h : H} {w : List Nat} {a : Option (Nat × Nat)} {c : Option Nat} {e : Nat} (s : Wb h w a c e) : Ow h w a e := by
  rcases s with ⟨h1, _⟩ | ⟨_, q, md, e1, _, e3, g, hm, hq⟩
  · exact .inl h1
  · exact .inr ⟨q, md, e1, e3, g, hm, hq⟩
/-- an operation's cells: its data lie in blocks from lo on, and not in q -/
def RqF (lo q : Nat) (h : H) (o : Rq) (p : List V) : Prop := ∃ a c e, p = [.int .i64 o.kind, .slice a o.l.length c e] ∧ Ow h o.l a e ∧ (o.l ≠ [] → ∀ b z, a = some (b, z) → lo ≤ b ∧ b ≠ q)
theorem RqF.mono {lo q : Nat} {h h' : H} {o : Rq} {p : List V} (x : RqF lo q h o p) (hn : h.next ≤ h'.next) (k : ∀ i, lo ≤ i → i < h.next → i ≠ q → h'.get i = h.get i) : RqF lo q h' o p := by
  obtain ⟨a, c, e, rfl, s, d⟩ := x
  refine ⟨a, c, e, rfl, ?_, d⟩
  by_cases hl : o.l = []
  · exact .inl hl
  · rcases s with s | ⟨bi, m, h1, h2, h4, h5, h3⟩
    · exact .inl s
    · obtain ⟨d1, d2⟩ := d hl bi 0 h1
      exact .inr ⟨bi, m, h1, h2, by rw [k _ d1 h3 d2, h4], h5, Nat.lt_of_lt_of_le h3 hn⟩
/-- a row of operations that is nobody else's -/
def RrF (lo : Nat) (h : H) (dn : List Rq) (a : Option (Nat × Nat)) (c : Option Nat) (e : Nat) : Prop := (dn = [] ∧ a = none ∧ c = some 0 ∧ e = 0) ∨ (0 < dn.length ∧ ∃ q md parts, a = some (q, 0) ∧ c = none ∧ e = 2 ∧ h.get q = some (.cells parts.flatten md) ∧ Al2 (RqF lo q h) dn parts ∧ isRo md = false ∧ q < h.next ∧ lo ≤ q)
theorem RrF.mono {lo : Nat} {h h' : H} {dn : List Rq} {a : Option (Nat × Nat)} {c : Option Nat} {e : Nat} (r : RrF lo h dn a c e) (hn : h.next ≤ h'.next) (k : ∀ i, lo ≤ i → i < h.next → h'.get i = h.get i) : RrF lo h' dn a c e := by
  rcases r with r | ⟨h1, q, md, ps, e1, e2, e3, g, al, hm, hq, hl⟩
  · exact .inl r
  · exact .inr ⟨h1, q, md, ps, e1, e2, e3, by rw [k _ hl hq, g], al.imp (fun _ _ x => x.mono hn (fun i h1 h2 _ => k i h1 h2)), hm, Nat.lt_of_lt_of_le hq hn, hl⟩
theorem RrF.kp {lo : Nat} {h h' : H} {dn : List Rq} {a : Option (Nat × Nat)} {c : Option Nat} {e : Nat} (r : RrF lo h dn a c e) (k : Kp h h') : RrF lo h' dn a c e := r.mono k.1 (fun i _ hi => k.2 i hi)
theorem RrF.lt {lo : Nat} {h : H} {dn : List Rq} {a : Option (Nat × Nat)} {c : Option Nat} {e : Nat} (r : RrF lo h dn a c e) {q z : Nat} (ea : a = some (q, z)) : lo ≤ q ∧ q < h.next := by
  rcases r with ⟨_, h1, _⟩ | ⟨_, q', _, _, h1, _, _, _, _, _, hq, hl⟩
  · rw [h1] at ea; cases ea
  · rw [h1] at ea; cases ea; exact ⟨hl, hq⟩
theorem ral_len2 {lo q : Nat} {h : H} {ops : List Rq} {parts : List (List V)} (al : Al2 (RqF lo q h) ops parts) : ∀ p ∈ parts, p.length = 2 := by
  induction al with
  | nil => intro p hp; cases hp
  | cons h1 _ ih => intro p hp; rcases List.mem_cons.1 hp with rfl | hp
                    · obtain ⟨a, c, e, rfl, _⟩ := h1; rfl
                    · exact ih p hp
theorem Al2.snoc {α β : Type} {p : α → β → Prop} {as : List α} {bs : List β} (h : Al2 p as bs) {a : α} {b : β} (x : p a b) : Al2 p (as ++ [a]) (bs ++ [b]) := by
  induction h with
  | nil => exact .cons x .nil
  | cons h1 _ ih => exact .cons h1 ih
theorem rap_row (lo : Nat) (h : H) (hlo : lo ≤ h.next) (dn : List Rq) (hd : dn.length ≤ 1000000) (a : Option (Nat × Nat)) (c : Option Nat) (e : Nat) (r : RrF lo h dn a c e) (o : Rq) (b : Option (Nat × Nat)) (cb : Option Nat) (eb : Nat) (hs : Ow h o.l b eb) (hb : o.l ≠ [] → ∀ q z, b = some (q, z) → lo ≤ q ∧ a ≠ some (q, 0)) :
    ∃ h', appendC h 2 32 (.slice a dn.length c e) (some (1, [.int .i64 o.kind, .slice b o.l.length cb eb])) = some (.slice (some (h.next, 0)) (dn.length + 1) none 2, h') ∧ RrF lo h' (dn ++ [o]) (some (h.next, 0)) none 2 ∧ h'.next = h.next + 1 ∧ ∀ i, i < h.next → a ≠ some (i, 0) → h'.get i = h.get i := by
  obtain ⟨P, eP⟩ : ∃ P : List V, [.int .i64 o.kind, .slice b o.l.length cb eb] = P := ⟨_, rfl⟩
  have pl : P.all plainV = true := by rw [← eP]; rfl
  have lP : P.length = 2 := by rw [← eP]; rfl
  have hbn : o.l ≠ [] → ∀ q z, b = some (q, z) → q < h.next := fun hl q z eq => by
    rcases hs with s | ⟨bi, m, h1, h2, _, _, h3⟩
    · exact absurd s hl
    · rw [h1] at eq; cases eq; exact h3
  rw [eP]
  rcases r with ⟨rfl, rfl, rfl, rfl⟩ | ⟨h1, q, md, ps, rfl, rfl, rfl, g, al, hm, hq, hl⟩
  · have k : Kp h (h.new (.cells P .rw)) := Kp.new _ _
    refine ⟨h.new (.cells P .rw), ?_, .inr ⟨by simp, h.next, .rw, [P], rfl, rfl, rfl, by rw [h_new_same]; simp, .cons ⟨b, cb, eb, eP.symm, hs.kp k, fun hl q z eq => ⟨(hb hl q z eq).1, by have := hbn hl q z eq; omega⟩⟩ .nil, rfl, Nat.lt_succ_self _, hlo⟩, rfl, fun i hi _ => h_new_ne _ _ (by omega)⟩
    unfold appendC
    simp only [List.length_nil]
    rw [pl]; rfl
  · have lp : ps.flatten.length = dn.length * 2 := by rw [flat_len (k := 2) (ral_len2 al), al.len]
    have nx : ((h.del q).new (.cells (ps.flatten ++ P) .sh)).next = h.next + 1 := by simp only [h_next_new, h_next_del]
    have fr : ∀ i, i < h.next → i ≠ q → ((h.del q).new (.cells (ps.flatten ++ P) .sh)).get i = h.get i := fun i hi hne => by
      rw [h_new_ne _ _ (by rw [h_next_del]; omega), h_del_ne _ (fun e => hne e.symm)]
    have al2 : Al2 (RqF lo h.next ((h.del q).new (.cells (ps.flatten ++ P) .sh))) (dn ++ [o]) (ps ++ [P]) := by
      have one : RqF lo h.next ((h.del q).new (.cells (ps.flatten ++ P) .sh)) o P := by
        refine ⟨b, cb, eb, eP.symm, ?_, fun hl q z eq => ⟨(hb hl q z eq).1, by have := hbn hl q z eq; omega⟩⟩
        by_cases ol : o.l = []
        · exact .inl ol
        · rcases hs with s | ⟨bi, m, f1, f2, f4, f5, f3⟩
          · exact .inl s
          · exact .inr ⟨bi, m, f1, f2, by rw [fr _ f3 (fun e => (hb ol bi 0 f1).2 (by rw [e])), f4], f5, by rw [nx]; omega⟩
      have al3 : Al2 (RqF lo h.next ((h.del q).new (.cells (ps.flatten ++ P) .sh))) dn ps := al.imp (fun o' p' y => by
        obtain ⟨a', c', e', ep, s, d⟩ := y
        refine ⟨a', c', e', ep, ?_, fun hl b' z eq => ⟨(d hl b' z eq).1, ?_⟩⟩
        · by_cases ol : o'.l = []
          · exact .inl ol
          · rcases s with s | ⟨bi, m, f1, f2, f4, f5, f3⟩
            · exact .inl s
            · exact .inr ⟨bi, m, f1, f2, by rw [fr _ f3 (d ol bi 0 f1).2, f4], f5, by rw [nx]; omega⟩
        · rcases s with s | ⟨bi, m, f1, f2, f4, f5, f3⟩
          · exact absurd s hl
          · rw [f1] at eq; cases eq; omega)
      exact al3.snoc one
    refine ⟨(h.del q).new (.cells (ps.flatten ++ P) .sh), ?_, .inr ⟨by simp, h.next, .sh, ps ++ [P], rfl, rfl, rfl, by rw [h_new_same' _ _ (by rw [h_next_del])]; simp, al2, rfl, by rw [nx]; omega, hlo⟩, nx, fun i hi hne => fr i hi (fun e => hne (by rw [e]))⟩
    unfold appendC
    simp only
    have r : (roomy (dn.length + 1) 32 && (Nat.beq 2 2 || (some (q, 0) : Option (Nat × Nat)).isNone) && P.all plainV) = true := by
      rw [pl]; have : roomy (dn.length + 1) 32 = true := by simp [roomy]; omega
      rw [this]; rfl
    have f : fullC none (dn.length + 1) = false := rfl
    have rd := readN_of ps.flatten 0 (dn.length * 2) (by omega)
    rw [List.drop_zero, List.take_of_length_le (by omega)] at rd
    rw [r]
    simp only [_root_.cond_true, g, f]
    cases md with
    | ro => cases hm
    | rw => simp only [rd]
    | sh => simp only [rd]
end Go.Eng
namespace Go.Eng
open Go
variable {E : Nat → Option Fn} {X : Orc}
set_option linter.unusedSimpArgs false
set_option linter.unusedVariables false
structure NoRcd (X : Orc) : Prop where
  yld : ∀ l a h, X (.yld l) a h = none
theorem fl2 (y z u v : V) : fillV [y, z] [(0, 2, .agg [u, v])] = some [u, v] := rfl
end Go.Eng
namespace Go.Eng
open Go
variable {E : Nat → Option Fn} {X : Orc}
set_option linter.unusedSimpArgs false
set_option linter.unusedVariables false
end Go.Eng
namespace Go.Eng
open Go
variable {E : Nat → Option Fn} {X : Orc}
set_option linter.unusedSimpArgs false
set_option linter.unusedVariables false
structure EnRd (E : Nat → Option Fn) : Prop where
  cm : EnCm E
  de : E k_record_Decode = some f_record_Decode
  rh : E k_record_readHead = some f_record_readHead
  en : E k_record_Encode = some f_record_Encode
  ck : E k_record_Check = some f_record_Check
  hd : E k_record_head = some f_record_head
  al : E k_record_All = some f_record_All
  rs : E k_record_records = some f_record_records
  r1 : E k_record_records_1 = some f_record_records_1
structure NoRd (X : Orc) : Prop where
  cm : NoCm X
  y : NoRcd X
  de : ∀ a h, X (.fn k_record_Decode) a h = none
  rh : ∀ a h, X (.fn k_record_readHead) a h = none
  en : ∀ a h, X (.fn k_record_Encode) a h = none
  ck : ∀ a h, X (.fn k_record_Check) a h = none
  hd : ∀ a h, X (.fn k_record_head) a h = none
  al : ∀ a h, X (.fn k_record_All) a h = none
  rs : ∀ a h, X (.fn k_record_records) a h = none
  r1 : ∀ a h, X (.fn k_record_records_1) a h = none
theorem RrF.lo {lo lo2 : Nat} {h : H} {dn : List Rq} {a : Option (Nat × Nat)} {c : Option Nat} {e : Nat} (r : RrF lo h dn a c e) (hl : lo2 ≤ lo) : RrF lo2 h dn a c e := by
  rcases r with r | ⟨h1, q, md, ps, e1, e2, e3, g, al, hm, hq, hlo⟩
  · exact .inl r
  · exact .inr ⟨h1, q, md, ps, e1, e2, e3, g, al.imp (fun o p y => by
      obtain ⟨a', c', e', ep, sr, d⟩ := y
      exact ⟨a', c', e', ep, sr, fun hl' b z eq => ⟨by have := (d hl' b z eq).1; omega, (d hl' b z eq).2⟩⟩), hm, hq, by omega⟩
theorem vb_i64 (n : Int) : (V.int .i64 n).beq (V.int .i64 n) = true := by
  unfold V.beq; rw [kindEq_self, ieq_dec]; simp
end Go.Eng
namespace Go.Eng
open Go
variable {E : Nat → Option Fn} {X : Orc}
set_option linter.unusedSimpArgs false
set_option linter.unusedVariables false
structure EnSm (E : Nat → Option Fn) : Prop where
  sa : E k_record_Same = some f_record_Same
  so : E k_record_same = some f_record_same
  be : E k_bytes_Equal = some f_bytes_Equal
  ef : E k_slices_EqualFunc_api_Record_api_Record_api_Record_api_Record = some f_slices_EqualFunc_api_Record_api_Record_api_Record_api_Record
structure NoSm (X : Orc) : Prop where
  sa : ∀ a h, X (.fn k_record_Same) a h = none
  so : ∀ a h, X (.fn k_record_same) a h = none
  be : ∀ a h, X (.fn k_bytes_Equal) a h = none
  ef : ∀ a h, X (.fn k_slices_EqualFunc_api_Record_api_Record_api_Record_api_Record) a h = none
theorem bequal_go (e : EnSm E) (x : NoSm X) (N : Nat) (l m : List Nat) (bl : byt l = true) (bm : byt m = true) (a b : Option (Nat × Nat)) (c d : Option Nat) (ea eb : Nat) (h : H) (sl : SrcH h a ea l) (sm : SrcH h b eb m) :
    callX E X (N + 1) (.fn k_bytes_Equal) [.slice a l.length c ea, .slice b m.length d eb] h = some (.bool (decide (l = m)), h) := by
  rw [x_cfn e.be _ _ (Nat.le_of_ble_eq_true rfl) (x.be _ _)]
  have s1 := str_src sl bl c
  have s2 := str_src sm bm d
  generalize l.length = n at *
  generalize m.length = k at *
  simp (config := {maxSteps := 2000000}) (disch := first | omega | (simp only [List.length_cons, List.length_nil, List.length_append, List.length_drop]; omega)) only [s1, s2, b_seq, ↓ns_b2s, ↓b_xor32, ↓b_and32, ↓b_or32, ↓u_not32, b_xor32, b_and32, b_or32, u_not32, w32ad, ↓x_conv, x_convV, ↓x_fieldAddr, x_fieldV, ↓s_nilchk, x_nilchk, Nat.zero_add, Nat.add_zero, Nat.mul_one, ↓l_loop, ↓l_succ, ↓l_normal, l_normal, l_exit, l_ret, l_iteN, ↓h_put_get, ↓h_new_get, ↓h_del_get, h_next_put, h_next_new, h_next_del, Nat.add_assoc, Nat.add_eq_left, Nat.left_eq_add, Nat.add_left_cancel_iff, ↓s_load, m_load, ↓m_load1, m_load1, ↓m_st, m_stE, m_storeI, m_storeE, w_zero, w_succ, ↓s_alloc, ↓x_idxA, ↓x_idxS, x_idxAE, x_idxSE, x_addrE, x_idx, x_lenS, ↓s_len, ↓x_buildS, x_buildE, ↓x_P0, ↓x_P1, x_fill0, x_filli, x_fills, x_fillb, c_int, List.length_cons, List.length_nil, List.cons_append, List.drop_succ_cons, List.drop_zero, List.drop_nil, List.nil_append, Int.reduceAdd, Int.reduceToNat, Int.reduceLT, Int.reduceLE, Nat.reduceAdd, Nat.reduceMul, Nat.reduceLeDiff, Int.reduceEq, Int.reduceSub, Int.cast_ofNat_Int, s_resc, s_consR, m_load4, m_store4, s_res0, ↓s_skip, ↓s_ops, ↓s_dops, ↓s_seq, ↓s_cond, ↓s_block, ↓s_exit, ↓s_ret, ↓s_scope, ↓s_nil, ↓s_op, ↓s_opg, ↓s_wanted', ↓s_wantV, s_wantV, s_wantV0, beq_true, beq_false, ↓s_bindS, s_bindS, ↓s_bindE, s_bindE, s_bindE_ret, s_bindE_exit, s_bindE_iteN, s_norm, ↓s_condV, s_condV, s_block_ret, s_block_normal, s_block_exit, s_block_iteN, ↓s_getp, ↓s_getp0, ↓s_get, s_get0, ↓s_con, ↓s_fn, ↓s_os0, ↓s_os1, ↓s_list0, ↓s_list1, ↓s_mov, ↓s_pick, ↓s_pickE, s_pickE, ↓s_bin, ↓s_un, ↓s_minmax, ↓s_call, ↓s_callv, ↓s_callV, ↓s_ext, s_same, b_eql, b_neq, b_lss, b_leq, b_gtr, b_geq, b_add, b_sub, b_mul, b_eqlb, b_neqb, b_fnil, b_fnil', b_fnil2, b_fnil2', u_neg, u_not, m_two, s_end, s_end', s_end_iteN, s_res0, s_res1, s_tup1, s_tup2, ↓iteN_true, ↓iteN_false, iteN_true, iteN_false, Nat.zero_add, List.nil_append, List.append_nil, Nat.reduceEqDiff, reduceIte, decide_true, decide_false, Bool.not_true, Bool.not_false, List.getElem?_cons_zero, List.getElem?_cons_succ, Bool.false_eq_true, if_true, if_false, beq_self_eq_true]
theorem rsame1_go (e : EnSm E) (x : NoSm X) (N : Nat) (o p : Rq) (ok : o.ok) (pk : p.ok) (a b : Option (Nat × Nat)) (c d : Option Nat) (ea eb : Nat) (h : H) (so : SrcH h a ea o.l) (sp : SrcH h b eb p.l) :
    ∃ h', callX E X (N + 2) (.fn k_record_same) [.agg [.int .i64 o.kind, .slice a o.l.length c ea], .agg [.int .i64 p.kind, .slice b p.l.length d eb]] h = some (.bool (decide (o = p)), h') ∧ Kp h h' := by
  rw [x_cfn e.so _ _ (Nat.le_of_ble_eq_true rfl) (x.so _ _)]
  have ca : ∀ l : List V, (V.agg l).cells = l := fun _ => rfl
  obtain ⟨hA, eA⟩ : ∃ hA, (h.new (.cells [.int .i64 o.kind, .slice a o.l.length c ea] .rw)).new (.cells [.int .i64 p.kind, .slice b p.l.length d eb] .rw) = hA := ⟨_, rfl⟩
  have kA : Kp h hA := by rw [← eA]; (repeat (first | exact Kp.refl _ | refine Kp.put ?_ _ (by first | omega | (simp only [h_next_put, h_next_new, h_next_del]; omega)) | refine Kp.del ?_ (by first | omega | (simp only [h_next_put, h_next_new, h_next_del]; omega)) | refine Kp.trans ?_ (Kp.new _ _)))
  have g1 : hA.get h.next = some (.cells [.int .i64 o.kind, .slice a o.l.length c ea] .rw) := by rw [← eA]; (simp (disch := omega) only [l_loop, l_succ, l_normal, l_normal, l_exit, l_ret, l_iteN, h_put_get, h_new_get, h_del_get, h_next_put, h_next_new, h_next_del, Nat.add_assoc, Nat.add_eq_left, Nat.left_eq_add, Nat.add_left_cancel_iff, s_load, m_load, m_load1, m_load1, m_st, m_stE, m_storeI, m_storeE, w_zero, w_succ, s_alloc, x_idxA, x_idxS, x_idxAE, x_idxSE, x_addrE, x_idx, x_lenS, s_len, x_buildS, x_buildE, x_P0, x_P1, x_fill0, x_filli, x_fills, x_fillb, c_int, List.length_cons, List.length_nil, List.cons_append, List.drop_succ_cons, List.drop_zero, List.drop_nil, List.nil_append, Int.reduceAdd, Int.reduceToNat, Int.reduceLT, Int.reduceLE, Nat.reduceAdd, Nat.reduceMul, Nat.reduceLeDiff, Int.reduceEq, Int.reduceSub, Int.cast_ofNat_Int, s_resc, s_consR, m_load4, m_store4, s_res0, decide_true, decide_false, iteN_true, iteN_false, Nat.reduceEqDiff, Nat.reduceAdd, reduceCtorEq, ]; try rfl)
  have g2 : hA.get (h.next + 1) = some (.cells [.int .i64 p.kind, .slice b p.l.length d eb] .rw) := by rw [← eA]; (simp (disch := omega) only [l_loop, l_succ, l_normal, l_normal, l_exit, l_ret, l_iteN, h_put_get, h_new_get, h_del_get, h_next_put, h_next_new, h_next_del, Nat.add_assoc, Nat.add_eq_left, Nat.left_eq_add, Nat.add_left_cancel_iff, s_load, m_load, m_load1, m_load1, m_st, m_stE, m_storeI, m_storeE, w_zero, w_succ, s_alloc, x_idxA, x_idxS, x_idxAE, x_idxSE, x_addrE, x_idx, x_lenS, s_len, x_buildS, x_buildE, x_P0, x_P1, x_fill0, x_filli, x_fills, x_fillb, c_int, List.length_cons, List.length_nil, List.cons_append, List.drop_succ_cons, List.drop_zero, List.drop_nil, List.nil_append, Int.reduceAdd, Int.reduceToNat, Int.reduceLT, Int.reduceLE, Nat.reduceAdd, Nat.reduceMul, Nat.reduceLeDiff, Int.reduceEq, Int.reduceSub, Int.cast_ofNat_Int, s_resc, s_consR, m_load4, m_store4, s_res0, decide_true, decide_false, iteN_true, iteN_false, Nat.reduceEqDiff, Nat.reduceAdd, reduceCtorEq, ]; try rfl)
  refine ⟨hA, ?_, kA⟩
  have rb := bequal_go e x N o.l p.l ok.bl pk.bl a b c d ea eb hA (so.mono kA) (sp.mono kA)
  by_cases ec : o.kind = p.kind
  · have c0 : decide (o.kind = p.kind) = true := decide_eq_true ec
    have er : decide (o.l = p.l) = decide (o = p) := by
      rw [decide_eq_decide]
      constructor
      · intro h; cases o; cases p; simp_all
      · intro h; rw [h]
    rw [er] at rb
    generalize o.l.length = n at *
    generalize p.l.length = k at *
    simp (config := {maxSteps := 2000000}) (disch := first | omega | (simp only [List.length_cons, List.length_nil, List.length_append, List.length_drop]; omega)) only [ca, eA, g1, g2, rb, c0, ↓s_box, ↓b_xor32, ↓b_and32, ↓b_or32, ↓u_not32, b_xor32, b_and32, b_or32, u_not32, w32ad, ↓x_conv, x_convV, ↓x_fieldAddr, x_fieldV, ↓s_nilchk, x_nilchk, Nat.zero_add, Nat.add_zero, Nat.mul_one, ↓s_evD, ↓s_dnil, ↓s_dL, ↓s_dLg, ↓s_dR, ↓s_dRg, ↓s_dRj, ↓s_dRjg, ↓s_dB, ↓s_dBg, ↓s_dAlloc, ↓s_bindD, s_bindD, s_finD, s_finDx, s_addP0, s_addP1, s_addB, s_lookP, ↓s_bump0, ↓s_bump_get, s_bump_next, s_ok0, ↓s_ok1, s_okR0, ↓s_okR1, ↓s_okE, s_okE, s_okE1, s_nth0, s_nthS, Nat.add_zero, Bool.and_self, Bool.and_true, Bool.true_and, ↓l_loop, ↓l_succ, ↓l_normal, l_normal, l_exit, l_ret, l_iteN, ↓h_put_get, ↓h_new_get, ↓h_del_get, h_next_put, h_next_new, h_next_del, Nat.add_assoc, Nat.add_eq_left, Nat.left_eq_add, Nat.add_left_cancel_iff, ↓s_load, m_load, ↓m_load1, m_load1, ↓m_st, m_stE, m_storeI, m_storeE, w_zero, w_succ, ↓s_alloc, ↓x_idxA, ↓x_idxS, x_idxAE, x_idxSE, x_addrE, x_idx, x_lenS, ↓s_len, ↓x_buildS, x_buildE, ↓x_P0, ↓x_P1, x_fill0, x_filli, x_fills, x_fillb, c_int, List.length_cons, List.length_nil, List.cons_append, List.drop_succ_cons, List.drop_zero, List.drop_nil, List.nil_append, Int.reduceAdd, Int.reduceToNat, Int.reduceLT, Int.reduceLE, Nat.reduceAdd, Nat.reduceMul, Nat.reduceLeDiff, Int.reduceEq, Int.reduceSub, Int.cast_ofNat_Int, s_resc, s_consR, m_load4, m_store4, s_res0, ↓s_skip, ↓s_ops, ↓s_dops, ↓s_seq, ↓s_cond, ↓s_block, ↓s_exit, ↓s_ret, ↓s_scope, ↓s_nil, ↓s_op, ↓s_opg, ↓s_wanted', ↓s_wantV, s_wantV, s_wantV0, beq_true, beq_false, ↓s_bindS, s_bindS, ↓s_bindE, s_bindE, s_bindE_ret, s_bindE_exit, s_bindE_iteN, s_norm, ↓s_condV, s_condV, s_block_ret, s_block_normal, s_block_exit, s_block_iteN, ↓s_getp, ↓s_getp0, ↓s_get, s_get0, ↓s_con, ↓s_fn, ↓s_os0, ↓s_os1, ↓s_list0, ↓s_list1, ↓s_mov, ↓s_pick, ↓s_pickE, s_pickE, ↓s_bin, ↓s_un, ↓s_minmax, ↓s_call, ↓s_callv, ↓s_callV, ↓s_ext, s_same, b_eql, b_neq, b_lss, b_leq, b_gtr, b_geq, b_add, b_sub, b_mul, b_eqlb, b_neqb, b_fnil, b_fnil', b_fnil2, b_fnil2', u_neg, u_not, m_two, s_end, s_end', s_end_iteN, s_res0, s_res1, s_tup1, s_tup2, ↓iteN_true, ↓iteN_false, iteN_true, iteN_false, Nat.zero_add, List.nil_append, List.append_nil, Nat.reduceEqDiff, reduceIte, decide_true, decide_false, Bool.not_true, Bool.not_false, List.getElem?_cons_zero, List.getElem?_cons_succ, Bool.false_eq_true, if_true, if_false, beq_self_eq_true]
  · have c0 : decide (o.kind = p.kind) = false := decide_eq_false ec
    rw [decide_eq_false (fun h => ec (by rw [h]))]
    generalize o.l.length = n at *
    generalize p.l.length = k at *
    simp (config := {maxSteps := 2000000}) (disch := first | omega | (simp only [List.length_cons, List.length_nil, List.length_append, List.length_drop]; omega)) only [ca, eA, g1, g2, c0, ↓s_box, ↓b_xor32, ↓b_and32, ↓b_or32, ↓u_not32, b_xor32, b_and32, b_or32, u_not32, w32ad, ↓x_conv, x_convV, ↓x_fieldAddr, x_fieldV, ↓s_nilchk, x_nilchk, Nat.zero_add, Nat.add_zero, Nat.mul_one, ↓s_evD, ↓s_dnil, ↓s_dL, ↓s_dLg, ↓s_dR, ↓s_dRg, ↓s_dRj, ↓s_dRjg, ↓s_dB, ↓s_dBg, ↓s_dAlloc, ↓s_bindD, s_bindD, s_finD, s_finDx, s_addP0, s_addP1, s_addB, s_lookP, ↓s_bump0, ↓s_bump_get, s_bump_next, s_ok0, ↓s_ok1, s_okR0, ↓s_okR1, ↓s_okE, s_okE, s_okE1, s_nth0, s_nthS, Nat.add_zero, Bool.and_self, Bool.and_true, Bool.true_and, ↓l_loop, ↓l_succ, ↓l_normal, l_normal, l_exit, l_ret, l_iteN, ↓h_put_get, ↓h_new_get, ↓h_del_get, h_next_put, h_next_new, h_next_del, Nat.add_assoc, Nat.add_eq_left, Nat.left_eq_add, Nat.add_left_cancel_iff, ↓s_load, m_load, ↓m_load1, m_load1, ↓m_st, m_stE, m_storeI, m_storeE, w_zero, w_succ, ↓s_alloc, ↓x_idxA, ↓x_idxS, x_idxAE, x_idxSE, x_addrE, x_idx, x_lenS, ↓s_len, ↓x_buildS, x_buildE, ↓x_P0, ↓x_P1, x_fill0, x_filli, x_fills, x_fillb, c_int, List.length_cons, List.length_nil, List.cons_append, List.drop_succ_cons, List.drop_zero, List.drop_nil, List.nil_append, Int.reduceAdd, Int.reduceToNat, Int.reduceLT, Int.reduceLE, Nat.reduceAdd, Nat.reduceMul, Nat.reduceLeDiff, Int.reduceEq, Int.reduceSub, Int.cast_ofNat_Int, s_resc, s_consR, m_load4, m_store4, s_res0, ↓s_skip, ↓s_ops, ↓s_dops, ↓s_seq, ↓s_cond, ↓s_block, ↓s_exit, ↓s_ret, ↓s_scope, ↓s_nil, ↓s_op, ↓s_opg, ↓s_wanted', ↓s_wantV, s_wantV, s_wantV0, beq_true, beq_false, ↓s_bindS, s_bindS, ↓s_bindE, s_bindE, s_bindE_ret, s_bindE_exit, s_bindE_iteN, s_norm, ↓s_condV, s_condV, s_block_ret, s_block_normal, s_block_exit, s_block_iteN, ↓s_getp, ↓s_getp0, ↓s_get, s_get0, ↓s_con, ↓s_fn, ↓s_os0, ↓s_os1, ↓s_list0, ↓s_list1, ↓s_mov, ↓s_pick, ↓s_pickE, s_pickE, ↓s_bin, ↓s_un, ↓s_minmax, ↓s_call, ↓s_callv, ↓s_callV, ↓s_ext, s_same, b_eql, b_neq, b_lss, b_leq, b_gtr, b_geq, b_add, b_sub, b_mul, b_eqlb, b_neqb, b_fnil, b_fnil', b_fnil2, b_fnil2', u_neg, u_not, m_two, s_end, s_end', s_end_iteN, s_res0, s_res1, s_tup1, s_tup2, ↓iteN_true, ↓iteN_false, iteN_true, iteN_false, Nat.zero_add, List.nil_append, List.append_nil, Nat.reduceEqDiff, reduceIte, decide_true, decide_false, Bool.not_true, Bool.not_false, List.getElem?_cons_zero, List.getElem?_cons_succ, Bool.false_eq_true, if_true, if_false, beq_self_eq_true]
structure EqI (va vb : V) (n : Nat) (h0 : H) (i : Nat) (T : Tr V) (h : H) : Prop where
  il : i ≤ n
  t1 : evO T (.t 1) = vb
  t2 : evO T (.t 2) = .fn k_record_same [] []
  t15 : evO T (.t 15) = va
  t16 : evO T (.t 16) = .int .i64 (n : Int)
  t17 : evO T (.t 17) = .int .i64 (i : Int)
  kp : Kp h0 h
theorem ei_round (e : EnSm E) (x : NoSm X) (M m : Nat) (as bs : List Rq) (hl : as.length = bs.length) (hn : as.length ≤ 1000000) (ok : ∀ o ∈ as, o.ok) (pk : ∀ o ∈ bs, o.ok) (a b : Option (Nat × Nat)) (c d : Option Nat) (ea eb : Nat) (h0 : H) (ra : RrS h0 as a ea) (rb : RrS h0 bs b eb) (i : Nat) (T : Tr V) (h : H) (o p : Rq) (ho : as[i]? = some o) (hp : bs[i]? = some p) (I : EqI (.slice a as.length c ea) (.slice b bs.length d eb) as.length h0 i T h) :
    ∃ T' h', Kp h0 h' ∧ (o = p → evC (callX E X (M + 3)) 32 m none L_slices_EqualFunc_api_Record_api_Record_api_Record_api_Record_0 ⟨T, [], h⟩ = some (.normal, ⟨T', [], h'⟩) ∧ EqI (.slice a as.length c ea) (.slice b bs.length d eb) as.length h0 (i + 1) T' h') ∧ (o ≠ p → evC (callX E X (M + 3)) 32 m none L_slices_EqualFunc_api_Record_api_Record_api_Record_api_Record_0 ⟨T, [], h⟩ = some (.ret, ⟨T', [], h'⟩) ∧ evO T' (.t 6) = .bool false) := by
  have hi : i < as.length := (List.getElem?_eq_some_iff.1 ho).1
  obtain ⟨_, t1, t2, t15, t16, t17, kp⟩ := I
  have c0 : decide ((i : Int) < (as.length : Int)) = true := decide_eq_true (by omega)
  have wi : wr .i64 ((i : Int) + 1) = ((i + 1 : Nat) : Int) := by rw [wr_i64 (by omega)]; omega
  have ix : idx (i : Int) as.length = some i := idxn hi
  have ix2 : idx (i : Int) bs.length = some i := idxn (by omega)
  obtain ⟨q, off, vs, md, b1, cb1, eb1, rfl, rfl, hq, gq', ld, sb, _⟩ := rr_at ra i o ho
  obtain ⟨q2, off2, vs2, md2, b2, cb2, eb2, rfl, rfl, hq2, gq2, lo2, sb2, _⟩ := rr_at rb i p hp
  obtain ⟨h1, eh1⟩ : ∃ h1, (h.new (.cells [.int .i64 0, .slice none 0 (some 0) 0] .rw)).put h.next (.cells [.int .i64 o.kind, .slice b1 o.l.length cb1 eb1] .rw) = h1 := ⟨_, rfl⟩
  have k1 : Kp h h1 := by rw [← eh1]; (repeat (first | exact Kp.refl _ | refine Kp.put ?_ _ (by first | omega | (simp only [h_next_put, h_next_new, h_next_del]; omega)) | refine Kp.del ?_ (by first | omega | (simp only [h_next_put, h_next_new, h_next_del]; omega)) | refine Kp.trans ?_ (Kp.new _ _)))
  have n1 : h1.next = h.next + 1 := by rw [← eh1]; rfl
  have g1 : h1.get h.next = some (.cells [.int .i64 o.kind, .slice b1 o.l.length cb1 eb1] .rw) := by rw [← eh1]; exact h_put_same _ _ _
  obtain ⟨h2, eh2⟩ : ∃ h2, (h1.new (.cells [.int .i64 0, .slice none 0 (some 0) 0] .rw)).put h1.next (.cells [.int .i64 p.kind, .slice b2 p.l.length cb2 eb2] .rw) = h2 := ⟨_, rfl⟩
  have k2 : Kp h1 h2 := by rw [← eh2]; (repeat (first | exact Kp.refl _ | refine Kp.put ?_ _ (by first | omega | (simp only [h_next_put, h_next_new, h_next_del]; omega)) | refine Kp.del ?_ (by first | omega | (simp only [h_next_put, h_next_new, h_next_del]; omega)) | refine Kp.trans ?_ (Kp.new _ _)))
  have g21 : h2.get h.next = some (.cells [.int .i64 o.kind, .slice b1 o.l.length cb1 eb1] .rw) := by rw [k2.2 _ (by omega), g1]
  have g22 : h2.get h1.next = some (.cells [.int .i64 p.kind, .slice b2 p.l.length cb2 eb2] .rw) := by rw [← eh2]; exact h_put_same _ _ _
  have k02 := kp.trans (k1.trans k2)
  have gva : h.get q = some (.cells vs md) := by rw [kp.2 _ hq, gq']
  have gvb : h1.get q2 = some (.cells vs2 md2) := by rw [(kp.trans k1).2 _ hq2, gq2]
  obtain ⟨h3, rs, k3⟩ := rsame1_go e x (M + 1) o p (ok o (List.mem_of_getElem? ho)) (pk p (List.mem_of_getElem? hp)) b1 b2 cb1 cb2 eb1 eb2 h2 (sb.mono k02) (sb2.mono k02)
  have i1 : i + 1 ≤ as.length := hi
  obtain ⟨n, en⟩ : ∃ n, as.length = n := ⟨_, rfl⟩
  obtain ⟨n2, en2⟩ : ∃ n, bs.length = n := ⟨_, rfl⟩
  obtain ⟨l1, el1⟩ : ∃ n, o.l.length = n := ⟨_, rfl⟩
  obtain ⟨l2, el2⟩ : ∃ n, p.l.length = n := ⟨_, rfl⟩
  rw [en] at t15 t16 c0 ix
  rw [en2] at t1 ix2
  rw [el1] at g21 ld rs eh1
  rw [el2] at g22 lo2 rs eh2
  by_cases eo : o = p
  · rw [decide_eq_true eo] at rs
    obtain ⟨T', r, u1, u2, u15, u16, u17⟩ : ∃ T', evC (callX E X (M + 3)) 32 m none L_slices_EqualFunc_api_Record_api_Record_api_Record_api_Record_0 ⟨T, [], h⟩ = some (.normal, ⟨T', [], h3⟩) ∧ evO T' (.t 1) = .slice (some (q2, off2)) n2 d 2 ∧ evO T' (.t 2) = .fn k_record_same [] [] ∧ evO T' (.t 15) = .slice (some (q, off)) n c 2 ∧ evO T' (.t 16) = .int .i64 (n : Int) ∧ evO T' (.t 17) = .int .i64 ((i + 1 : Nat) : Int) := by
      exact ⟨_, by
        simp (config := {maxSteps := 2000000}) (disch := first | omega | (simp only [List.length_cons, List.length_nil, List.length_append, List.length_drop]; omega)) only [L_slices_EqualFunc_api_Record_api_Record_api_Record_api_Record_0, t1, t2, t15, t16, t17, gva, gvb, ld, lo2, eh1, eh2, g21, g22, rs, c0, wi, ix, ix2, st2i, st2ir, ld2, List.nil_append, List.append_nil, ↓b_xor32, ↓b_and32, ↓b_or32, ↓u_not32, b_xor32, b_and32, b_or32, u_not32, w32ad, ↓x_conv, x_convV, ↓x_fieldAddr, x_fieldV, ↓s_nilchk, x_nilchk, Nat.zero_add, Nat.add_zero, Nat.mul_one, ↓s_evD, ↓s_dnil, ↓s_dL, ↓s_dLg, ↓s_dR, ↓s_dRg, ↓s_dRj, ↓s_dRjg, ↓s_dB, ↓s_dBg, ↓s_dAlloc, ↓s_bindD, s_bindD, s_finD, s_finDx, s_addP0, s_addP1, s_addB, s_lookP, ↓s_bump0, ↓s_bump_get, s_bump_next, s_ok0, ↓s_ok1, s_okR0, ↓s_okR1, ↓s_okE, s_okE, s_okE1, s_nth0, s_nthS, Nat.add_zero, Bool.and_self, Bool.and_true, Bool.true_and, ↓l_loop, ↓l_succ, ↓l_normal, l_normal, l_exit, l_ret, l_iteN, ↓h_put_get, ↓h_new_get, ↓h_del_get, h_next_put, h_next_new, h_next_del, Nat.add_assoc, Nat.add_eq_left, Nat.left_eq_add, Nat.add_left_cancel_iff, ↓s_load, m_load, ↓m_load1, m_load1, ↓m_st, m_stE, m_storeI, m_storeE, w_zero, w_succ, ↓s_alloc, ↓x_idxA, ↓x_idxS, x_idxAE, x_idxSE, x_addrE, x_idx, x_lenS, ↓s_len, ↓x_buildS, x_buildE, ↓x_P0, ↓x_P1, x_fill0, x_filli, x_fills, x_fillb, c_int, List.length_cons, List.length_nil, List.cons_append, List.drop_succ_cons, List.drop_zero, List.drop_nil, List.nil_append, Int.reduceAdd, Int.reduceToNat, Int.reduceLT, Int.reduceLE, Nat.reduceAdd, Nat.reduceMul, Nat.reduceLeDiff, Int.reduceEq, Int.reduceSub, Int.cast_ofNat_Int, s_resc, s_consR, m_load4, m_store4, s_res0, ↓s_skip, ↓s_ops, ↓s_dops, ↓s_seq, ↓s_cond, ↓s_block, ↓s_exit, ↓s_ret, ↓s_scope, ↓s_nil, ↓s_op, ↓s_opg, ↓s_wanted', ↓s_wantV, s_wantV, s_wantV0, beq_true, beq_false, ↓s_bindS, s_bindS, ↓s_bindE, s_bindE, s_bindE_ret, s_bindE_exit, s_bindE_iteN, s_norm, ↓s_condV, s_condV, s_block_ret, s_block_normal, s_block_exit, s_block_iteN, ↓s_getp, ↓s_getp0, ↓s_get, s_get0, ↓s_con, ↓s_fn, ↓s_os0, ↓s_os1, ↓s_list0, ↓s_list1, ↓s_mov, ↓s_pick, ↓s_pickE, s_pickE, ↓s_bin, ↓s_un, ↓s_minmax, ↓s_call, ↓s_callv, ↓s_callV, ↓s_ext, s_same, b_eql, b_neq, b_lss, b_leq, b_gtr, b_geq, b_add, b_sub, b_mul, b_eqlb, b_neqb, b_fnil, b_fnil', b_fnil2, b_fnil2', u_neg, u_not, m_two, s_end, s_end', s_end_iteN, s_res0, s_res1, s_tup1, s_tup2, ↓iteN_true, ↓iteN_false, iteN_true, iteN_false, Nat.zero_add, List.nil_append, List.append_nil, Nat.reduceEqDiff, reduceIte, decide_true, decide_false, Bool.not_true, Bool.not_false, List.getElem?_cons_zero, List.getElem?_cons_succ, Bool.false_eq_true, if_true, if_false, beq_self_eq_true]
        exact rfl, (by (simp only [s_getp, s_getp0, Nat.reduceEqDiff, decide_false, decide_true, iteN_false, iteN_true, t1]; try rfl)), (by (simp only [s_getp, s_getp0, Nat.reduceEqDiff, decide_false, decide_true, iteN_false, iteN_true, t2]; try rfl)), (by (simp only [s_getp, s_getp0, Nat.reduceEqDiff, decide_false, decide_true, iteN_false, iteN_true, t15]; try rfl)), (by (simp only [s_getp, s_getp0, Nat.reduceEqDiff, decide_false, decide_true, iteN_false, iteN_true, t16]; try rfl)), (by (simp only [s_getp, s_getp0, Nat.reduceEqDiff, decide_false, decide_true, iteN_false, iteN_true, t17]; try rfl))⟩
    exact ⟨T', h3, k02.trans k3, fun _ => ⟨r, i1, by rw [en2]; exact u1, u2, by rw [en]; exact u15, by rw [en]; exact u16, u17, k02.trans k3⟩, fun h => absurd eo h⟩
  · rw [decide_eq_false eo] at rs
    obtain ⟨T', r, u6⟩ : ∃ T', evC (callX E X (M + 3)) 32 m none L_slices_EqualFunc_api_Record_api_Record_api_Record_api_Record_0 ⟨T, [], h⟩ = some (.ret, ⟨T', [], h3⟩) ∧ evO T' (.t 6) = .bool false := by
      exact ⟨_, by
        simp (config := {maxSteps := 2000000}) (disch := first | omega | (simp only [List.length_cons, List.length_nil, List.length_append, List.length_drop]; omega)) only [L_slices_EqualFunc_api_Record_api_Record_api_Record_api_Record_0, t1, t2, t15, t16, t17, gva, gvb, ld, lo2, eh1, eh2, g21, g22, rs, c0, wi, ix, ix2, st2i, st2ir, ld2, List.nil_append, List.append_nil, ↓b_xor32, ↓b_and32, ↓b_or32, ↓u_not32, b_xor32, b_and32, b_or32, u_not32, w32ad, ↓x_conv, x_convV, ↓x_fieldAddr, x_fieldV, ↓s_nilchk, x_nilchk, Nat.zero_add, Nat.add_zero, Nat.mul_one, ↓s_evD, ↓s_dnil, ↓s_dL, ↓s_dLg, ↓s_dR, ↓s_dRg, ↓s_dRj, ↓s_dRjg, ↓s_dB, ↓s_dBg, ↓s_dAlloc, ↓s_bindD, s_bindD, s_finD, s_finDx, s_addP0, s_addP1, s_addB, s_lookP, ↓s_bump0, ↓s_bump_get, s_bump_next, s_ok0, ↓s_ok1, s_okR0, ↓s_okR1, ↓s_okE, s_okE, s_okE1, s_nth0, s_nthS, Nat.add_zero, Bool.and_self, Bool.and_true, Bool.true_and, ↓l_loop, ↓l_succ, ↓l_normal, l_normal, l_exit, l_ret, l_iteN, ↓h_put_get, ↓h_new_get, ↓h_del_get, h_next_put, h_next_new, h_next_del, Nat.add_assoc, Nat.add_eq_left, Nat.left_eq_add, Nat.add_left_cancel_iff, ↓s_load, m_load, ↓m_load1, m_load1, ↓m_st, m_stE, m_storeI, m_storeE, w_zero, w_succ, ↓s_alloc, ↓x_idxA, ↓x_idxS, x_idxAE, x_idxSE, x_addrE, x_idx, x_lenS, ↓s_len, ↓x_buildS, x_buildE, ↓x_P0, ↓x_P1, x_fill0, x_filli, x_fills, x_fillb, c_int, List.length_cons, List.length_nil, List.cons_append, List.drop_succ_cons, List.drop_zero, List.drop_nil, List.nil_append, Int.reduceAdd, Int.reduceToNat, Int.reduceLT, Int.reduceLE, Nat.reduceAdd, Nat.reduceMul, Nat.reduceLeDiff, Int.reduceEq, Int.reduceSub, Int.cast_ofNat_Int, s_resc, s_consR, m_load4, m_store4, s_res0, ↓s_skip, ↓s_ops, ↓s_dops, ↓s_seq, ↓s_cond, ↓s_block, ↓s_exit, ↓s_ret, ↓s_scope, ↓s_nil, ↓s_op, ↓s_opg, ↓s_wanted', ↓s_wantV, s_wantV, s_wantV0, beq_true, beq_false, ↓s_bindS, s_bindS, ↓s_bindE, s_bindE, s_bindE_ret, s_bindE_exit, s_bindE_iteN, s_norm, ↓s_condV, s_condV, s_block_ret, s_block_normal, s_block_exit, s_block_iteN, ↓s_getp, ↓s_getp0, ↓s_get, s_get0, ↓s_con, ↓s_fn, ↓s_os0, ↓s_os1, ↓s_list0, ↓s_list1, ↓s_mov, ↓s_pick, ↓s_pickE, s_pickE, ↓s_bin, ↓s_un, ↓s_minmax, ↓s_call, ↓s_callv, ↓s_callV, ↓s_ext, s_same, b_eql, b_neq, b_lss, b_leq, b_gtr, b_geq, b_add, b_sub, b_mul, b_eqlb, b_neqb, b_fnil, b_fnil', b_fnil2, b_fnil2', u_neg, u_not, m_two, s_end, s_end', s_end_iteN, s_res0, s_res1, s_tup1, s_tup2, ↓iteN_true, ↓iteN_false, iteN_true, iteN_false, Nat.zero_add, List.nil_append, List.append_nil, Nat.reduceEqDiff, reduceIte, decide_true, decide_false, Bool.not_true, Bool.not_false, List.getElem?_cons_zero, List.getElem?_cons_succ, Bool.false_eq_true, if_true, if_false, beq_self_eq_true]
        exact rfl, (by (simp only [s_getp, s_getp0, Nat.reduceEqDiff, decide_false, decide_true, iteN_false, iteN_true, t1]; try rfl))⟩
    exact ⟨T', h3, k02.trans k3, fun h => absurd h eo, fun _ => ⟨r, u6⟩⟩
theorem eq_or : ∀ (as bs : List Rq), as.length = bs.length → as = bs ∨ ∃ (j : Nat) (o p : Rq), as[j]? = some o ∧ bs[j]? = some p ∧ o ≠ p ∧ ∀ (i : Nat) (o' p' : Rq), i < j → as[i]? = some o' → bs[i]? = some p' → o' = p' := by
  intro as
  induction as with
  | nil => intro bs h; left; exact (List.length_eq_zero_iff.1 h.symm).symm
  | cons a r ih =>
    intro bs h
    cases bs with
    | nil => cases h
    | cons b s =>
      by_cases ab : a = b
      · rcases ih s (by simpa using h) with e | ⟨j, o, p, h1, h2, h3, h4⟩
        · left; rw [ab, e]
        · refine .inr ⟨j + 1, o, p, by simpa using h1, by simpa using h2, h3, fun i o' p' hi ho hp => ?_⟩
          cases i with
          | zero => simp at ho hp; rw [← ho, ← hp]; exact ab
          | succ i => simp at ho hp; exact h4 i o' p' (by omega) ho hp
      · exact .inr ⟨0, a, b, rfl, rfl, ab, fun i _ _ hi => by omega⟩
theorem rsame_go (e : EnSm E) (x : NoSm X) (M : Nat) (as bs : List Rq) (hn : as.length ≤ 1000000) (hM : as.length < M) (hbn : bs.length < 9223372036854775807) (ok : ∀ o ∈ as, o.ok) (pk : ∀ o ∈ bs, o.ok) (a b : Option (Nat × Nat)) (c d : Option Nat) (ea eb : Nat) (h : H) (ra : RrS h as a ea) (rb : RrS h bs b eb) :
    ∃ h', callX E X (M + 5) (.fn k_record_Same) [.slice a as.length c ea, .slice b bs.length d eb] h = some (.bool (decide (as = bs)), h') ∧ Kp h h' := by
  have eqf : ∃ h', callX E X (M + 4) (.fn k_slices_EqualFunc_api_Record_api_Record_api_Record_api_Record) [.slice a as.length c ea, .slice b bs.length d eb, .fn k_record_same [] []] h = some (.bool (decide (as = bs)), h') ∧ Kp h h' := by
    rw [x_cfn e.ef _ _ (Nat.le_of_ble_eq_true rfl) (x.ef _ _)]
    by_cases hl : as.length = bs.length
    · have fin : ∀ T, EqI (.slice a as.length c ea) (.slice b bs.length d eb) as.length h 0 T h → ∃ h', fnEnd [.tmp 6] (bindE (blockE 0 (loopN (evC (callX E X (M + 3)) 32 (M + 3) none L_slices_EqualFunc_api_Record_api_Record_api_Record_api_Record_0) (M + 3) ⟨T, [], h⟩)) (evC (callX E X (M + 3)) 32 (M + 3) none R_slices_EqualFunc_api_Record_api_Record_api_Record_api_Record_0)) = some (.bool (decide (as = bs)), h') ∧ Kp h h' := by
        intro T I
        have get : ∀ i, i < as.length → ∃ o p, as[i]? = some o ∧ bs[i]? = some p := fun i hi => ⟨_, _, List.getElem?_eq_getElem hi, List.getElem?_eq_getElem (by omega)⟩
        rcases eq_or as bs hl with eab | ⟨j, o, p, h1, h2, h3, h4⟩
        · rw [decide_eq_true eab]
          obtain ⟨T', h', rr, kp⟩ := loop_go (f := evC (callX E X (M + 3)) 32 (M + 3) none L_slices_EqualFunc_api_Record_api_Record_api_Record_api_Record_0) (EqI (.slice a as.length c ea) (.slice b bs.length d eb) as.length h) as.length (.exit 0) (by intro h; cases h) (fun _ h' => Kp h h') (fun i T h' hi I => by
            obtain ⟨o, p, ho, hp⟩ := get i hi
            obtain ⟨T', h2, _, q, _⟩ := ei_round e x M (M + 3) as bs hl hn ok pk a b c d ea eb h ra rb i T h' o p ho hp I
            rw [eab, hp] at ho
            cases ho
            exact ⟨T', h2, q rfl⟩) (fun T h' I => by
            obtain ⟨il, t1, t2, t15, t16, t17, kp⟩ := I
            have c0 : decide ((as.length : Int) < (as.length : Int)) = false := decide_eq_false (by omega)
            exact ⟨_, _, by
              simp (config := {maxSteps := 2000000}) (disch := first | omega | (simp only [List.length_cons, List.length_nil, List.length_append, List.length_drop]; omega)) only [L_slices_EqualFunc_api_Record_api_Record_api_Record_api_Record_0, t16, t17, c0, ↓b_xor32, ↓b_and32, ↓b_or32, ↓u_not32, b_xor32, b_and32, b_or32, u_not32, w32ad, ↓x_conv, x_convV, ↓x_fieldAddr, x_fieldV, ↓s_nilchk, x_nilchk, Nat.zero_add, Nat.add_zero, Nat.mul_one, ↓l_loop, ↓l_succ, ↓l_normal, l_normal, l_exit, l_ret, l_iteN, ↓h_put_get, ↓h_new_get, ↓h_del_get, h_next_put, h_next_new, h_next_del, Nat.add_assoc, Nat.add_eq_left, Nat.left_eq_add, Nat.add_left_cancel_iff, ↓s_load, m_load, ↓m_load1, m_load1, ↓m_st, m_stE, m_storeI, m_storeE, w_zero, w_succ, ↓s_alloc, ↓x_idxA, ↓x_idxS, x_idxAE, x_idxSE, x_addrE, x_idx, x_lenS, ↓s_len, ↓x_buildS, x_buildE, ↓x_P0, ↓x_P1, x_fill0, x_filli, x_fills, x_fillb, c_int, List.length_cons, List.length_nil, List.cons_append, List.drop_succ_cons, List.drop_zero, List.drop_nil, List.nil_append, Int.reduceAdd, Int.reduceToNat, Int.reduceLT, Int.reduceLE, Nat.reduceAdd, Nat.reduceMul, Nat.reduceLeDiff, Int.reduceEq, Int.reduceSub, Int.cast_ofNat_Int, s_resc, s_consR, m_load4, m_store4, s_res0, ↓s_skip, ↓s_ops, ↓s_dops, ↓s_seq, ↓s_cond, ↓s_block, ↓s_exit, ↓s_ret, ↓s_scope, ↓s_nil, ↓s_op, ↓s_opg, ↓s_wanted', ↓s_wantV, s_wantV, s_wantV0, beq_true, beq_false, ↓s_bindS, s_bindS, ↓s_bindE, s_bindE, s_bindE_ret, s_bindE_exit, s_bindE_iteN, s_norm, ↓s_condV, s_condV, s_block_ret, s_block_normal, s_block_exit, s_block_iteN, ↓s_getp, ↓s_getp0, ↓s_get, s_get0, ↓s_con, ↓s_fn, ↓s_os0, ↓s_os1, ↓s_list0, ↓s_list1, ↓s_mov, ↓s_pick, ↓s_pickE, s_pickE, ↓s_bin, ↓s_un, ↓s_minmax, ↓s_call, ↓s_callv, ↓s_callV, ↓s_ext, s_same, b_eql, b_neq, b_lss, b_leq, b_gtr, b_geq, b_add, b_sub, b_mul, b_eqlb, b_neqb, b_fnil, b_fnil', b_fnil2, b_fnil2', u_neg, u_not, m_two, s_end, s_end', s_end_iteN, s_res0, s_res1, s_tup1, s_tup2, ↓iteN_true, ↓iteN_false, iteN_true, iteN_false, Nat.zero_add, List.nil_append, List.append_nil, Nat.reduceEqDiff, reduceIte, decide_true, decide_false, Bool.not_true, Bool.not_false, List.getElem?_cons_zero, List.getElem?_cons_succ, Bool.false_eq_true, if_true, if_false, beq_self_eq_true]
              exact rfl, kp⟩) as.length 0 (by omega) (M + 3) (by omega) T h I
          rw [rr]
          refine ⟨h', ?_, kp⟩
          simp (config := {maxSteps := 2000000}) (disch := first | omega | (simp only [List.length_cons, List.length_nil, List.length_append, List.length_drop]; omega)) only [R_slices_EqualFunc_api_Record_api_Record_api_Record_api_Record_0, ↓b_xor32, ↓b_and32, ↓b_or32, ↓u_not32, b_xor32, b_and32, b_or32, u_not32, w32ad, ↓x_conv, x_convV, ↓x_fieldAddr, x_fieldV, ↓s_nilchk, x_nilchk, Nat.zero_add, Nat.add_zero, Nat.mul_one, ↓l_loop, ↓l_succ, ↓l_normal, l_normal, l_exit, l_ret, l_iteN, ↓h_put_get, ↓h_new_get, ↓h_del_get, h_next_put, h_next_new, h_next_del, Nat.add_assoc, Nat.add_eq_left, Nat.left_eq_add, Nat.add_left_cancel_iff, ↓s_load, m_load, ↓m_load1, m_load1, ↓m_st, m_stE, m_storeI, m_storeE, w_zero, w_succ, ↓s_alloc, ↓x_idxA, ↓x_idxS, x_idxAE, x_idxSE, x_addrE, x_idx, x_lenS, ↓s_len, ↓x_buildS, x_buildE, ↓x_P0, ↓x_P1, x_fill0, x_filli, x_fills, x_fillb, c_int, List.length_cons, List.length_nil, List.cons_append, List.drop_succ_cons, List.drop_zero, List.drop_nil, List.nil_append, Int.reduceAdd, Int.reduceToNat, Int.reduceLT, Int.reduceLE, Nat.reduceAdd, Nat.reduceMul, Nat.reduceLeDiff, Int.reduceEq, Int.reduceSub, Int.cast_ofNat_Int, s_resc, s_consR, m_load4, m_store4, s_res0, ↓s_skip, ↓s_ops, ↓s_dops, ↓s_seq, ↓s_cond, ↓s_block, ↓s_exit, ↓s_ret, ↓s_scope, ↓s_nil, ↓s_op, ↓s_opg, ↓s_wanted', ↓s_wantV, s_wantV, s_wantV0, beq_true, beq_false, ↓s_bindS, s_bindS, ↓s_bindE, s_bindE, s_bindE_ret, s_bindE_exit, s_bindE_iteN, s_norm, ↓s_condV, s_condV, s_block_ret, s_block_normal, s_block_exit, s_block_iteN, ↓s_getp, ↓s_getp0, ↓s_get, s_get0, ↓s_con, ↓s_fn, ↓s_os0, ↓s_os1, ↓s_list0, ↓s_list1, ↓s_mov, ↓s_pick, ↓s_pickE, s_pickE, ↓s_bin, ↓s_un, ↓s_minmax, ↓s_call, ↓s_callv, ↓s_callV, ↓s_ext, s_same, b_eql, b_neq, b_lss, b_leq, b_gtr, b_geq, b_add, b_sub, b_mul, b_eqlb, b_neqb, b_fnil, b_fnil', b_fnil2, b_fnil2', u_neg, u_not, m_two, s_end, s_end', s_end_iteN, s_res0, s_res1, s_tup1, s_tup2, ↓iteN_true, ↓iteN_false, iteN_true, iteN_false, Nat.zero_add, List.nil_append, List.append_nil, Nat.reduceEqDiff, reduceIte, decide_true, decide_false, Bool.not_true, Bool.not_false, List.getElem?_cons_zero, List.getElem?_cons_succ, Bool.false_eq_true, if_true, if_false, beq_self_eq_true]
          try rfl
        · have hne : as ≠ bs := fun e => h3 (by rw [e, h2] at h1; cases h1; rfl)
          rw [decide_eq_false hne]
          have hj : j < as.length := (List.getElem?_eq_some_iff.1 h1).1
          obtain ⟨T', h', rr, u6, kp⟩ := loop_go (f := evC (callX E X (M + 3)) 32 (M + 3) none L_slices_EqualFunc_api_Record_api_Record_api_Record_api_Record_0) (EqI (.slice a as.length c ea) (.slice b bs.length d eb) as.length h) j .ret (by intro h; cases h) (fun T h' => evO T (.t 6) = .bool false ∧ Kp h h') (fun i T h' hi I => by
            obtain ⟨o, p, ho, hp⟩ := get i (by omega)
            obtain ⟨T', h2, _, q, _⟩ := ei_round e x M (M + 3) as bs hl hn ok pk a b c d ea eb h ra rb i T h' o p ho hp I
            exact ⟨T', h2, q (h4 i o p hi ho hp)⟩) (fun T h' I => by
            obtain ⟨T', h2', k, _, q⟩ := ei_round e x M (M + 3) as bs hl hn ok pk a b c d ea eb h ra rb j T h' o p h1 h2 I
            obtain ⟨q1, q2⟩ := q h3
            exact ⟨T', h2', q1, q2, k⟩) j 0 (by omega) (M + 3) (by omega) T h I
          rw [rr]
          refine ⟨h', ?_, kp⟩
          simp (config := {maxSteps := 2000000}) (disch := first | omega | (simp only [List.length_cons, List.length_nil, List.length_append, List.length_drop]; omega)) only [u6, ↓b_xor32, ↓b_and32, ↓b_or32, ↓u_not32, b_xor32, b_and32, b_or32, u_not32, w32ad, ↓x_conv, x_convV, ↓x_fieldAddr, x_fieldV, ↓s_nilchk, x_nilchk, Nat.zero_add, Nat.add_zero, Nat.mul_one, ↓l_loop, ↓l_succ, ↓l_normal, l_normal, l_exit, l_ret, l_iteN, ↓h_put_get, ↓h_new_get, ↓h_del_get, h_next_put, h_next_new, h_next_del, Nat.add_assoc, Nat.add_eq_left, Nat.left_eq_add, Nat.add_left_cancel_iff, ↓s_load, m_load, ↓m_load1, m_load1, ↓m_st, m_stE, m_storeI, m_storeE, w_zero, w_succ, ↓s_alloc, ↓x_idxA, ↓x_idxS, x_idxAE, x_idxSE, x_addrE, x_idx, x_lenS, ↓s_len, ↓x_buildS, x_buildE, ↓x_P0, ↓x_P1, x_fill0, x_filli, x_fills, x_fillb, c_int, List.length_cons, List.length_nil, List.cons_append, List.drop_succ_cons, List.drop_zero, List.drop_nil, List.nil_append, Int.reduceAdd, Int.reduceToNat, Int.reduceLT, Int.reduceLE, Nat.reduceAdd, Nat.reduceMul, Nat.reduceLeDiff, Int.reduceEq, Int.reduceSub, Int.cast_ofNat_Int, s_resc, s_consR, m_load4, m_store4, s_res0, ↓s_skip, ↓s_ops, ↓s_dops, ↓s_seq, ↓s_cond, ↓s_block, ↓s_exit, ↓s_ret, ↓s_scope, ↓s_nil, ↓s_op, ↓s_opg, ↓s_wanted', ↓s_wantV, s_wantV, s_wantV0, beq_true, beq_false, ↓s_bindS, s_bindS, ↓s_bindE, s_bindE, s_bindE_ret, s_bindE_exit, s_bindE_iteN, s_norm, ↓s_condV, s_condV, s_block_ret, s_block_normal, s_block_exit, s_block_iteN, ↓s_getp, ↓s_getp0, ↓s_get, s_get0, ↓s_con, ↓s_fn, ↓s_os0, ↓s_os1, ↓s_list0, ↓s_list1, ↓s_mov, ↓s_pick, ↓s_pickE, s_pickE, ↓s_bin, ↓s_un, ↓s_minmax, ↓s_call, ↓s_callv, ↓s_callV, ↓s_ext, s_same, b_eql, b_neq, b_lss, b_leq, b_gtr, b_geq, b_add, b_sub, b_mul, b_eqlb, b_neqb, b_fnil, b_fnil', b_fnil2, b_fnil2', u_neg, u_not, m_two, s_end, s_end', s_end_iteN, s_res0, s_res1, s_tup1, s_tup2, ↓iteN_true, ↓iteN_false, iteN_true, iteN_false, Nat.zero_add, List.nil_append, List.append_nil, Nat.reduceEqDiff, reduceIte, decide_true, decide_false, Bool.not_true, Bool.not_false, List.getElem?_cons_zero, List.getElem?_cons_succ, Bool.false_eq_true, if_true, if_false, beq_self_eq_true]
          try rfl
      have c1 : (!decide ((as.length : Int) = (bs.length : Int))) = false := by rw [decide_eq_true (by omega)]; rfl
      obtain ⟨R, eR⟩ : ∃ R, R_slices_EqualFunc_api_Record_api_Record_api_Record_api_Record_0 = R := ⟨_, rfl⟩
      obtain ⟨Lo, eL⟩ : ∃ R, L_slices_EqualFunc_api_Record_api_Record_api_Record_api_Record_0 = R := ⟨_, rfl⟩
      rw [eR, eL] at fin ⊢
      obtain ⟨n, en⟩ : ∃ n, as.length = n := ⟨_, rfl⟩
      obtain ⟨n2, en2⟩ : ∃ n, bs.length = n := ⟨_, rfl⟩
      rw [en, en2] at c1 fin ⊢
      simp (config := {maxSteps := 2000000}) (disch := first | omega | (simp only [List.length_cons, List.length_nil, List.length_append, List.length_drop]; omega)) only [c1, ↓s_len, x_lenS, ↓b_xor32, ↓b_and32, ↓b_or32, ↓u_not32, b_xor32, b_and32, b_or32, u_not32, w32ad, ↓x_conv, x_convV, ↓x_fieldAddr, x_fieldV, ↓s_nilchk, x_nilchk, Nat.zero_add, Nat.add_zero, Nat.mul_one, ↓l_loop, ↓l_succ, ↓l_normal, l_normal, l_exit, l_ret, l_iteN, ↓h_put_get, ↓h_new_get, ↓h_del_get, h_next_put, h_next_new, h_next_del, Nat.add_assoc, Nat.add_eq_left, Nat.left_eq_add, Nat.add_left_cancel_iff, ↓s_load, m_load, ↓m_load1, m_load1, ↓m_st, m_stE, m_storeI, m_storeE, w_zero, w_succ, ↓s_alloc, ↓x_idxA, ↓x_idxS, x_idxAE, x_idxSE, x_addrE, x_idx, x_lenS, ↓s_len, ↓x_buildS, x_buildE, ↓x_P0, ↓x_P1, x_fill0, x_filli, x_fills, x_fillb, c_int, List.length_cons, List.length_nil, List.cons_append, List.drop_succ_cons, List.drop_zero, List.drop_nil, List.nil_append, Int.reduceAdd, Int.reduceToNat, Int.reduceLT, Int.reduceLE, Nat.reduceAdd, Nat.reduceMul, Nat.reduceLeDiff, Int.reduceEq, Int.reduceSub, Int.cast_ofNat_Int, s_resc, s_consR, m_load4, m_store4, s_res0, ↓s_skip, ↓s_ops, ↓s_dops, ↓s_seq, ↓s_cond, ↓s_block, ↓s_exit, ↓s_ret, ↓s_scope, ↓s_nil, ↓s_op, ↓s_opg, ↓s_wanted', ↓s_wantV, s_wantV, s_wantV0, beq_true, beq_false, ↓s_bindS, s_bindS, ↓s_bindE, s_bindE, s_bindE_ret, s_bindE_exit, s_bindE_iteN, s_norm, ↓s_condV, s_condV, s_block_ret, s_block_normal, s_block_exit, s_block_iteN, ↓s_getp, ↓s_getp0, ↓s_get, s_get0, ↓s_con, ↓s_fn, ↓s_os0, ↓s_os1, ↓s_list0, ↓s_list1, ↓s_mov, ↓s_pick, ↓s_pickE, s_pickE, ↓s_bin, ↓s_un, ↓s_minmax, ↓s_call, ↓s_callv, ↓s_callV, ↓s_ext, s_same, b_eql, b_neq, b_lss, b_leq, b_gtr, b_geq, b_add, b_sub, b_mul, b_eqlb, b_neqb, b_fnil, b_fnil', b_fnil2, b_fnil2', u_neg, u_not, m_two, s_end, s_end', s_end_iteN, s_res0, s_res1, s_tup1, s_tup2, ↓iteN_true, ↓iteN_false, iteN_true, iteN_false, Nat.zero_add, List.nil_append, List.append_nil, Nat.reduceEqDiff, reduceIte, decide_true, decide_false, Bool.not_true, Bool.not_false, List.getElem?_cons_zero, List.getElem?_cons_succ, Bool.false_eq_true, if_true, if_false, beq_self_eq_true]
      exact fin _ ⟨Nat.zero_le _, (by (simp only [s_getp, s_getp0, Nat.reduceEqDiff, decide_false, decide_true, iteN_false, iteN_true, c1]; try rfl)), (by (simp only [s_getp, s_getp0, Nat.reduceEqDiff, decide_false, decide_true, iteN_false, iteN_true, c1]; try rfl)), (by (simp only [s_getp, s_getp0, Nat.reduceEqDiff, decide_false, decide_true, iteN_false, iteN_true, c1]; try rfl)), (by (simp only [s_getp, s_getp0, Nat.reduceEqDiff, decide_false, decide_true, iteN_false, iteN_true, c1]; try rfl)), (by (simp only [s_getp, s_getp0, Nat.reduceEqDiff, decide_false, decide_true, iteN_false, iteN_true, c1]; try rfl)), Kp.refl _⟩
    · rw [decide_eq_false (fun e => hl (by rw [e]))]
      have c1 : (!decide ((as.length : Int) = (bs.length : Int))) = true := by rw [decide_eq_false (by omega)]; rfl
      refine ⟨h, ?_, Kp.refl _⟩
      obtain ⟨Lo, eL⟩ : ∃ R, L_slices_EqualFunc_api_Record_api_Record_api_Record_api_Record_0 = R := ⟨_, rfl⟩
      rw [eL]
      generalize as.length = n at *
      generalize bs.length = n2 at *
      simp (config := {maxSteps := 2000000}) (disch := first | omega | (simp only [List.length_cons, List.length_nil, List.length_append, List.length_drop]; omega)) only [c1, ↓s_len, x_lenS, ↓b_xor32, ↓b_and32, ↓b_or32, ↓u_not32, b_xor32, b_and32, b_or32, u_not32, w32ad, ↓x_conv, x_convV, ↓x_fieldAddr, x_fieldV, ↓s_nilchk, x_nilchk, Nat.zero_add, Nat.add_zero, Nat.mul_one, ↓l_loop, ↓l_succ, ↓l_normal, l_normal, l_exit, l_ret, l_iteN, ↓h_put_get, ↓h_new_get, ↓h_del_get, h_next_put, h_next_new, h_next_del, Nat.add_assoc, Nat.add_eq_left, Nat.left_eq_add, Nat.add_left_cancel_iff, ↓s_load, m_load, ↓m_load1, m_load1, ↓m_st, m_stE, m_storeI, m_storeE, w_zero, w_succ, ↓s_alloc, ↓x_idxA, ↓x_idxS, x_idxAE, x_idxSE, x_addrE, x_idx, x_lenS, ↓s_len, ↓x_buildS, x_buildE, ↓x_P0, ↓x_P1, x_fill0, x_filli, x_fills, x_fillb, c_int, List.length_cons, List.length_nil, List.cons_append, List.drop_succ_cons, List.drop_zero, List.drop_nil, List.nil_append, Int.reduceAdd, Int.reduceToNat, Int.reduceLT, Int.reduceLE, Nat.reduceAdd, Nat.reduceMul, Nat.reduceLeDiff, Int.reduceEq, Int.reduceSub, Int.cast_ofNat_Int, s_resc, s_consR, m_load4, m_store4, s_res0, ↓s_skip, ↓s_ops, ↓s_dops, ↓s_seq, ↓s_cond, ↓s_block, ↓s_exit, ↓s_ret, ↓s_scope, ↓s_nil, ↓s_op, ↓s_opg, ↓s_wanted', ↓s_wantV, s_wantV, s_wantV0, beq_true, beq_false, ↓s_bindS, s_bindS, ↓s_bindE, s_bindE, s_bindE_ret, s_bindE_exit, s_bindE_iteN, s_norm, ↓s_condV, s_condV, s_block_ret, s_block_normal, s_block_exit, s_block_iteN, ↓s_getp, ↓s_getp0, ↓s_get, s_get0, ↓s_con, ↓s_fn, ↓s_os0, ↓s_os1, ↓s_list0, ↓s_list1, ↓s_mov, ↓s_pick, ↓s_pickE, s_pickE, ↓s_bin, ↓s_un, ↓s_minmax, ↓s_call, ↓s_callv, ↓s_callV, ↓s_ext, s_same, b_eql, b_neq, b_lss, b_leq, b_gtr, b_geq, b_add, b_sub, b_mul, b_eqlb, b_neqb, b_fnil, b_fnil', b_fnil2, b_fnil2', u_neg, u_not, m_two, s_end, s_end', s_end_iteN, s_res0, s_res1, s_tup1, s_tup2, ↓iteN_true, ↓iteN_false, iteN_true, iteN_false, Nat.zero_add, List.nil_append, List.append_nil, Nat.reduceEqDiff, reduceIte, decide_true, decide_false, Bool.not_true, Bool.not_false, List.getElem?_cons_zero, List.getElem?_cons_succ, Bool.false_eq_true, if_true, if_false, beq_self_eq_true]
      try rfl
  obtain ⟨h', r, k⟩ := eqf
  rw [x_cfn e.sa _ _ (Nat.le_of_ble_eq_true rfl) (x.sa _ _)]
  refine ⟨h', ?_, k⟩
  generalize as.length = n at *
  generalize bs.length = n2 at *
  generalize decide (as = bs) = w at *
  simp (config := {maxSteps := 2000000}) (disch := first | omega | (simp only [List.length_cons, List.length_nil, List.length_append, List.length_drop]; omega)) only [r, ↓b_xor32, ↓b_and32, ↓b_or32, ↓u_not32, b_xor32, b_and32, b_or32, u_not32, w32ad, ↓x_conv, x_convV, ↓x_fieldAddr, x_fieldV, ↓s_nilchk, x_nilchk, Nat.zero_add, Nat.add_zero, Nat.mul_one, ↓l_loop, ↓l_succ, ↓l_normal, l_normal, l_exit, l_ret, l_iteN, ↓h_put_get, ↓h_new_get, ↓h_del_get, h_next_put, h_next_new, h_next_del, Nat.add_assoc, Nat.add_eq_left, Nat.left_eq_add, Nat.add_left_cancel_iff, ↓s_load, m_load, ↓m_load1, m_load1, ↓m_st, m_stE, m_storeI, m_storeE, w_zero, w_succ, ↓s_alloc, ↓x_idxA, ↓x_idxS, x_idxAE, x_idxSE, x_addrE, x_idx, x_lenS, ↓s_len, ↓x_buildS, x_buildE, ↓x_P0, ↓x_P1, x_fill0, x_filli, x_fills, x_fillb, c_int, List.length_cons, List.length_nil, List.cons_append, List.drop_succ_cons, List.drop_zero, List.drop_nil, List.nil_append, Int.reduceAdd, Int.reduceToNat, Int.reduceLT, Int.reduceLE, Nat.reduceAdd, Nat.reduceMul, Nat.reduceLeDiff, Int.reduceEq, Int.reduceSub, Int.cast_ofNat_Int, s_resc, s_consR, m_load4, m_store4, s_res0, ↓s_skip, ↓s_ops, ↓s_dops, ↓s_seq, ↓s_cond, ↓s_block, ↓s_exit, ↓s_ret, ↓s_scope, ↓s_nil, ↓s_op, ↓s_opg, ↓s_wanted', ↓s_wantV, s_wantV, s_wantV0, beq_true, beq_false, ↓s_bindS, s_bindS, ↓s_bindE, s_bindE, s_bindE_ret, s_bindE_exit, s_bindE_iteN, s_norm, ↓s_condV, s_condV, s_block_ret, s_block_normal, s_block_exit, s_block_iteN, ↓s_getp, ↓s_getp0, ↓s_get, s_get0, ↓s_con, ↓s_fn, ↓s_os0, ↓s_os1, ↓s_list0, ↓s_list1, ↓s_mov, ↓s_pick, ↓s_pickE, s_pickE, ↓s_bin, ↓s_un, ↓s_minmax, ↓s_call, ↓s_callv, ↓s_callV, ↓s_ext, s_same, b_eql, b_neq, b_lss, b_leq, b_gtr, b_geq, b_add, b_sub, b_mul, b_eqlb, b_neqb, b_fnil, b_fnil', b_fnil2, b_fnil2', u_neg, u_not, m_two, s_end, s_end', s_end_iteN, s_res0, s_res1, s_tup1, s_tup2, ↓iteN_true, ↓iteN_false, iteN_true, iteN_false, Nat.zero_add, List.nil_append, List.append_nil, Nat.reduceEqDiff, reduceIte, decide_true, decide_false, Bool.not_true, Bool.not_false, List.getElem?_cons_zero, List.getElem?_cons_succ, Bool.false_eq_true, if_true, if_false, beq_self_eq_true]
end Go.Eng
