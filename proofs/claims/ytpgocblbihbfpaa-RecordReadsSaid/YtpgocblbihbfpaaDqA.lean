/- What functions of the program come to: own work. -/
import Derived.Test.YtpgocblbihbfpaaDqG
import Derived.Test.YtpgocblbihbfpaaDqF
namespace Go.Eng
open Go
abbrev Pt := Option (Nat × Nat) × Option Nat × Nat × List Nat
def slOf (q : Pt) : V := .slice q.1 q.2.2.2.length q.2.1 q.2.2.1
end Go.Eng
namespace Go.Eng
open Go
variable {E : Nat → Option Fn} {X : Orc}
set_option linter.unusedSimpArgs false
set_option linter.unusedVariables false
/-- how many bytes a number needs -/
def widV (n : Nat) : Nat := if n < 256 then 1 else if n < 65536 then 2 else if n < 16777216 then 3 else if n < 4294967296 then 4 else if n < 1099511627776 then 5 else if n < 281474976710656 then 6 else if n < 72057594037927936 then 7 else 8
structure EnWid (E : Nat → Option Fn) : Prop where
  wid : E k_octet_width = some f_octet_width
  hi : E k_octet_highFirst = some f_octet_highFirst
  hi1 : E k_octet_highFirst_1 = some f_octet_highFirst_1
structure NoWid (X : Orc) : Prop where
  wid : ∀ a h, X (.fn k_octet_width) a h = none
  hi : ∀ a h, X (.fn k_octet_highFirst) a h = none
  hi1 : ∀ a h, X (.fn k_octet_highFirst_1) a h = none
  yld : ∀ l a h, X (.yld l) a h = none
end Go.Eng
namespace Go.Eng
open Go
variable {E : Nat → Option Fn} {X : Orc}
set_option linter.unusedSimpArgs false
set_option linter.unusedVariables false
def leN (s n : Nat) : List Nat := (List.range s).map (fun k => n / 2 ^ (8 * k) % 256)
theorem leN_len (s n : Nat) : (leN s n).length = s := by unfold leN; rw [List.length_map, List.length_range]
theorem leN_byt (s n : Nat) : byt (leN s n) = true := byt_iff.2 (fun x hx => by
  unfold leN at hx
  obtain ⟨k, _, rfl⟩ := List.mem_map.1 hx
  exact Nat.mod_lt _ (by decide))
end Go.Eng
namespace Go.Eng
open Go
variable {E : Nat → Option Fn} {X : Orc}
set_option linter.unusedSimpArgs false
set_option linter.unusedVariables false
/-- a slice of bytes that is nobody else's: it is empty, or has a block -/
def Wb (h : H) (w : List Nat) (ao : Option (Nat × Nat)) (co : Option Nat) (eo : Nat) : Prop := (w = [] ∧ ao = none ∧ co = some 0 ∧ eo = 0) ∨ (0 < w.length ∧ ∃ q md, ao = some (q, 0) ∧ co = none ∧ eo = 1 ∧ h.get q = some (.cells (ofI .u8 w) md) ∧ isRo md = false ∧ q < h.next)
theorem Wb.nil (h : H) : Wb h [] none (some 0) 0 := .inl ⟨rfl, rfl, rfl, rfl⟩
theorem Wb.src {h : H} {w : List Nat} {ao : Option (Nat × Nat)} {co : Option Nat} {eo : Nat} (s : Wb h w ao co eo) : SrcH h ao eo w := by
  rcases s with ⟨h1, _⟩ | ⟨h1, q, md, rfl, rfl, rfl, g, _, hq⟩
  · exact .inl h1
  · exact .inr ⟨q, 0, _, md, rfl, rfl, hq, g, by rw [ofI_len]; omega, by rw [List.drop_zero]; exact List.take_of_length_le (by rw [ofI_len]; exact Nat.le_refl _)⟩
theorem Wb.mono {h h' : H} {w : List Nat} {ao : Option (Nat × Nat)} {co : Option Nat} {eo : Nat} (s : Wb h w ao co eo) (hn : h.next ≤ h'.next) (k : ∀ q, q < h.next → ao = some (q, 0) → h'.get q = h.get q) : Wb h' w ao co eo := by
  rcases s with s | ⟨h1, q, md, e1, e2, e3, g, hm, hq⟩
  · exact .inl s
  · exact .inr ⟨h1, q, md, e1, e2, e3, by rw [k _ hq e1, g], hm, Nat.lt_of_lt_of_le hq hn⟩
theorem Wb.kp {h h' : H} {w : List Nat} {ao : Option (Nat × Nat)} {co : Option Nat} {eo : Nat} (s : Wb h w ao co eo) (k : Kp h h') : Wb h' w ao co eo := s.mono k.1 (fun q hq _ => k.2 q hq)
/-- who has the block -/
theorem Wb.lt {h : H} {w : List Nat} {ao : Option (Nat × Nat)} {co : Option Nat} {eo : Nat} (s : Wb h w ao co eo) {q o : Nat} (e : ao = some (q, o)) : q < h.next := by
  rcases s with ⟨_, e2, _⟩ | ⟨_, q', _, e2, _, _, _, _, hq⟩
  · rw [e2] at e; cases e
  · rw [e2] at e; cases e; exact hq
theorem ap_wb (h : H) (w l : List Nat) (ao : Option (Nat × Nat)) (co : Option Nat) (eo : Nat) (s : Wb h w ao co eo) (hl : w.length + l.length ≤ 1000000) :
    ∃ ao' co' eo' h', appendC h 1 1 (.slice ao w.length co eo) (some (l.length, ofI .u8 l)) = some (.slice ao' (w ++ l).length co' eo', h') ∧ Wb h' (w ++ l) ao' co' eo' ∧ h.next ≤ h'.next ∧ (∀ i, i < h.next → ao ≠ some (i, 0) → h'.get i = h.get i) ∧ (ao' = ao ∨ ao' = some (h.next, 0)) := by
  cases hn : l.length with
  | zero =>
    obtain rfl : l = [] := List.length_eq_zero_iff.1 hn
    rw [List.append_nil]
    exact ⟨_, _, _, _, appN _ _ _ _ _ _, s, Nat.le_refl _, fun _ _ _ => rfl, .inl rfl⟩
  | succ n =>
    rcases s with ⟨rfl, rfl, rfl, rfl⟩ | ⟨h1, q, md, rfl, rfl, rfl, g, hm, hq⟩
    · have a := app0 h n 0 .u8 l (some 0) (by omega)
      rw [List.nil_append, hn]
      refine ⟨_, _, _, _, a, .inr ⟨by omega, h.next, .rw, rfl, rfl, rfl, h_new_same _ _, rfl, Nat.lt_succ_self _⟩, Nat.le_succ _, fun i hi _ => h_new_ne _ _ (by omega), .inr rfl⟩
    · have a := appU_of h q w.length n .u8 l (by omega)
      rw [g, appUI _ _ _ _ hm _ _ _ _ (Nat.le_refl _), take_all w _ (Nat.le_refl _)] at a
      rw [List.length_append, hn]
      refine ⟨_, _, _, _, a, .inr ⟨by rw [List.length_append]; omega, h.next, .sh, rfl, rfl, rfl, h_new_same' _ _ (by rw [h_next_del]), rfl, by simp only [h_next_new, h_next_del]; omega⟩, by simp only [h_next_new, h_next_del]; omega, fun i hi hne => ?_, .inr rfl⟩
      rw [h_new_ne _ _ (by rw [h_next_del]; omega), h_del_ne _ (fun e => hne (by rw [e]))]
/-- what a call that writes into a pen leaves alone -/
structure Fr (pn : Nat) (a0 : Option (Nat × Nat)) (h0 : H) (a : Option (Nat × Nat)) (h : H) : Prop where
  nx : h0.next ≤ h.next
  fr : ∀ j, j < h0.next → j ≠ pn → a0 ≠ some (j, 0) → h.get j = h0.get j
  ow : a = a0 ∨ ∃ q, a = some (q, 0) ∧ h0.next ≤ q
theorem Fr.of_kp {pn : Nat} {a : Option (Nat × Nat)} {h h' : H} (k : Kp h h') : Fr pn a h a h' := ⟨k.1, fun j hj _ _ => k.2 j hj, .inl rfl⟩
theorem Fr.refl (pn : Nat) (a : Option (Nat × Nat)) (h : H) : Fr pn a h a h := Fr.of_kp (Kp.refl h)
theorem Fr.ne {pn : Nat} {a0 a1 : Option (Nat × Nat)} {h0 h1 : H} (f : Fr pn a0 h0 a1 h1) {j : Nat} (hj : j < h0.next) (ha : a0 ≠ some (j, 0)) : a1 ≠ some (j, 0) := by
  rcases f.ow with e | ⟨q, e, hq⟩
  · rw [e]; exact ha
  · rw [e]; intro h; cases h; omega
theorem Fr.trans {pn : Nat} {a0 a1 a2 : Option (Nat × Nat)} {h0 h1 h2 : H} (f : Fr pn a0 h0 a1 h1) (g : Fr pn a1 h1 a2 h2) : Fr pn a0 h0 a2 h2 := by
  refine ⟨Nat.le_trans f.nx g.nx, fun j hj hp ha => ?_, ?_⟩
  · rw [g.fr _ (Nat.lt_of_lt_of_le hj f.nx) hp (f.ne hj ha), f.fr _ hj hp ha]
  · rcases g.ow with e | ⟨q, e, hq⟩
    · rcases f.ow with e' | ⟨q, e', hq⟩
      · exact .inl (e.trans e')
      · exact .inr ⟨q, e.trans e', hq⟩
    · exact .inr ⟨q, e, Nat.le_trans f.nx hq⟩
/-- a pen that has written w -/
structure PenH (pn : Nat) (w : List Nat) (a : Option (Nat × Nat)) (h : H) : Prop where
  pt : ∃ co eo, h.get pn = some (.cells [.slice a w.length co eo] .rw) ∧ Wb h w a co eo
  ne : ∀ o, a ≠ some (pn, o)
  lt : pn < h.next
theorem PenH.mono {pn : Nat} {w : List Nat} {a : Option (Nat × Nat)} {h h' : H} (p : PenH pn w a h) (hn : h.next ≤ h'.next) (k1 : h'.get pn = h.get pn) (k : ∀ q, q < h.next → a = some (q, 0) → h'.get q = h.get q) : PenH pn w a h' := by
  obtain ⟨⟨co, eo, g, wb⟩, ne, lt⟩ := p
  exact ⟨⟨co, eo, by rw [k1, g], wb.mono hn k⟩, ne, Nat.lt_of_lt_of_le lt hn⟩
theorem PenH.kp {pn : Nat} {w : List Nat} {a : Option (Nat × Nat)} {h h' : H} (p : PenH pn w a h) (k : Kp h h') : PenH pn w a h' := p.mono k.1 (k.2 _ p.lt) (fun q hq _ => k.2 q hq)
theorem PenH.new (h : H) (pn : Nat) (hp : pn < h.next) (g : h.get pn = some (.cells [.slice none 0 (some 0) 0] .rw)) : PenH pn [] none h := ⟨⟨some 0, 0, g, .nil h⟩, (fun _ e => by cases e), hp⟩
/-- bytes that no pen's writing touches -/
theorem SrcH.fr {pn : Nat} {b b' : Option (Nat × Nat)} {h h' : H} {a : Option (Nat × Nat)} {e : Nat} {l : List Nat} (s : SrcH h a e l) (f : Fr pn b h b' h') (ap : l ≠ [] → ∀ q o, a = some (q, o) → q ≠ pn ∧ b ≠ some (q, 0)) : SrcH h' a e l := by
  rcases s with s | ⟨bi, off, vs, m, h1, h2, h3, h4, h5, h6⟩
  · exact .inl s
  · by_cases hl : l = []
    · exact .inl hl
    · obtain ⟨a1, a2⟩ := ap hl bi off h1
      exact .inr ⟨bi, off, vs, m, h1, h2, Nat.lt_of_lt_of_le h3 f.nx, by rw [f.fr _ h3 a1 a2, h4], h5, h6⟩
/-- a new slice of bytes -/
structure Nw (h h' : H) (w : List Nat) (a : Option (Nat × Nat)) (c : Option Nat) (e : Nat) : Prop where
  kp : Kp h h'
  wb : Wb h' w a c e
  ge : ∀ q o, a = some (q, o) → h.next ≤ q
theorem app_nw (h : H) (l : List Nat) (hl : l.length ≤ 1000000) : ∃ a c e h', appendC h 1 1 (.slice none 0 (some 0) 0) (some (l.length, ofI .u8 l)) = some (.slice a l.length c e, h') ∧ Nw h h' l a c e := by
  obtain ⟨a, c, e, h', r, wb, hn, fr, ow⟩ := ap_wb h [] l none (some 0) 0 (.nil h) (by rw [List.length_nil]; omega)
  refine ⟨a, c, e, h', r, ⟨hn, fun i hi => fr i hi (by intro h; cases h)⟩, wb, fun q o ea => ?_⟩
  rcases ow with ow | ow
  · rw [ow] at ea; cases ea
  · rw [ow] at ea; cases ea; exact Nat.le_refl _
def flV (ps : List Pt) : List Nat := (ps.map (fun q => q.2.2.2)).flatten
structure RV (pn p : Nat) (ps : List Pt) (w : List Nat) (a0 : Option (Nat × Nat)) (h0 : H) (i : Nat) (T : Tr V) (h : H) : Prop where
  il : i ≤ ps.length
  t0 : evO T (.t 0) = .ptr (some (pn, 0))
  t9 : ∃ c, evO T (.t 9) = .slice (some (p, 0)) ps.length c 1
  t10 : evO T (.t 10) = .int .i64 (ps.length : Int)
  t11 : evO T (.t 11) = .int .i64 (i : Int)
  pen : ∃ a, PenH pn (w ++ flV (ps.take i)) a h ∧ Fr pn a0 h0 a h
/-- a part that a pen can take -/
def PartOk (pn : Nat) (a0 : Option (Nat × Nat)) (h : H) (q : Pt) : Prop := SrcH h q.1 q.2.2.1 q.2.2.2 ∧ (q.2.2.2 ≠ [] → ∀ b o, q.1 = some (b, o) → b ≠ pn ∧ a0 ≠ some (b, 0))
end Go.Eng
namespace Go.Eng
open Go
variable {E : Nat → Option Fn} {X : Orc}
set_option linter.unusedSimpArgs false
set_option linter.unusedVariables false
structure EnPut (E : Nat → Option Fn) : Prop where
  put : E k_octet_Pen_put = some f_octet_Pen_put
  wi : EnWid E
structure NoPut (X : Orc) : Prop where
  put : ∀ a h, X (.fn k_octet_Pen_put) a h = none
  wi : NoWid X
end Go.Eng
namespace Go.Eng
open Go
variable {E : Nat → Option Fn} {X : Orc}
set_option linter.unusedSimpArgs false
set_option linter.unusedVariables false
theorem PartOk.fr {pn : Nat} {a0 a1 : Option (Nat × Nat)} {h h1 : H} {q : Pt} (p : PartOk pn a0 h q) (f : Fr pn a0 h a1 h1) : PartOk pn a1 h1 q := by
  obtain ⟨s, ap⟩ := p
  refine ⟨s.fr f ap, fun hl b o e => ⟨(ap hl b o e).1, f.ne ?_ (ap hl b o e).2⟩⟩
  rcases s with s | ⟨bi, off, vs, m, h1, h2, h3, _⟩
  · exact absurd s hl
  · rw [h1] at e; cases e; exact h3
structure EnFix (E : Nat → Option Fn) : Prop where
  fx : E k_octet_Pen_Fixed = some f_octet_Pen_Fixed
  sz : E k_octet_sized = some f_octet_sized
  pt : EnPut E
structure NoFix (X : Orc) : Prop where
  fx : ∀ a h, X (.fn k_octet_Pen_Fixed) a h = none
  sz : ∀ a h, X (.fn k_octet_sized) a h = none
  pt : NoPut X
def sizedI (s : Int) : Bool := decide (s = 1) || (decide (s = 2) || (decide (s = 4) || decide (s = 8)))
theorem sizedI_go (e : E k_octet_sized = some f_octet_sized) (x : ∀ a h, X (.fn k_octet_sized) a h = none) (N : Nat) (s : Int) (h : H) : callX E X (N + 1) (.fn k_octet_sized) [.int .i64 s] h = some (.bool (sizedI s), h) := by
  rw [x_cfn e _ _ (Nat.le_of_ble_eq_true rfl) (x _ _)]
  unfold sizedI
  generalize q1 : decide (s = 1) = b1 at *
  generalize q2 : decide (s = 2) = b2 at *
  generalize q4 : decide (s = 4) = b4 at *
  generalize q8 : decide (s = 8) = b8 at *
  cases b1 <;> cases b2 <;> cases b4 <;> (simp (config := {maxSteps := 2000000}) (disch := first | omega | (simp only [List.length_cons, List.length_nil, List.length_append, List.length_drop]; omega)) only [q1, q2, q4, q8, Bool.true_or, Bool.false_or, ↓b_xor32, ↓b_and32, ↓b_or32, ↓u_not32, b_xor32, b_and32, b_or32, u_not32, w32ad, ↓x_conv, x_convV, ↓x_fieldAddr, x_fieldV, ↓s_nilchk, x_nilchk, Nat.zero_add, Nat.add_zero, Nat.mul_one, ↓l_loop, ↓l_succ, ↓l_normal, l_normal, l_exit, l_ret, l_iteN, ↓h_put_get, ↓h_new_get, ↓h_del_get, h_next_put, h_next_new, h_next_del, Nat.add_assoc, Nat.add_eq_left, Nat.left_eq_add, Nat.add_left_cancel_iff, ↓s_load, m_load, ↓m_load1, m_load1, ↓m_st, m_stE, m_storeI, m_storeE, w_zero, w_succ, ↓s_alloc, ↓x_idxA, ↓x_idxS, x_idxAE, x_idxSE, x_addrE, x_idx, x_lenS, ↓s_len, ↓x_buildS, x_buildE, ↓x_P0, ↓x_P1, x_fill0, x_filli, x_fills, x_fillb, c_int, List.length_cons, List.length_nil, List.cons_append, List.drop_succ_cons, List.drop_zero, List.drop_nil, List.nil_append, Int.reduceAdd, Int.reduceToNat, Int.reduceLT, Int.reduceLE, Nat.reduceAdd, Nat.reduceMul, Nat.reduceLeDiff, Int.reduceEq, Int.reduceSub, Int.cast_ofNat_Int, s_resc, s_consR, m_load4, m_store4, s_res0, ↓s_skip, ↓s_ops, ↓s_dops, ↓s_seq, ↓s_cond, ↓s_block, ↓s_exit, ↓s_ret, ↓s_scope, ↓s_nil, ↓s_op, ↓s_opg, ↓s_wanted', ↓s_wantV, s_wantV, s_wantV0, beq_true, beq_false, ↓s_bindS, s_bindS, ↓s_bindE, s_bindE, s_bindE_ret, s_bindE_exit, s_bindE_iteN, s_norm, ↓s_condV, s_condV, s_block_ret, s_block_normal, s_block_exit, s_block_iteN, ↓s_getp, ↓s_getp0, ↓s_get, s_get0, ↓s_con, ↓s_fn, ↓s_os0, ↓s_os1, ↓s_list0, ↓s_list1, ↓s_mov, ↓s_pick, ↓s_pickE, s_pickE, ↓s_bin, ↓s_un, ↓s_minmax, ↓s_call, ↓s_callv, ↓s_callV, ↓s_ext, s_same, b_eql, b_neq, b_lss, b_leq, b_gtr, b_geq, b_add, b_sub, b_mul, b_eqlb, b_neqb, b_fnil, b_fnil', b_fnil2, b_fnil2', u_neg, u_not, m_two, s_end, s_end', s_end_iteN, s_res0, s_res1, s_tup1, s_tup2, ↓iteN_true, ↓iteN_false, iteN_true, iteN_false, Nat.zero_add, List.nil_append, List.append_nil, Nat.reduceEqDiff, reduceIte, decide_true, decide_false, Bool.not_true, Bool.not_false, List.getElem?_cons_zero, List.getElem?_cons_succ, Bool.false_eq_true, if_true, if_false, beq_self_eq_true])
theorem sizedI_nat {s : Int} (h : sizedI s = true) : ∃ n : Nat, s = (n : Int) ∧ 0 < n ∧ n ≤ 8 ∧ (n = 1 ∨ n = 2 ∨ n = 4 ∨ n = 8) := by
  unfold sizedI at h
  simp only [Bool.or_eq_true, decide_eq_true_eq] at h
  exact ⟨s.toNat, by omega, by omega, by omega, by omega⟩
/-- what Fixed answers, and writes -/
def fixE (s : Int) (n : Nat) : Nat := if sizedI s = true then if (widV n : Int) ≤ s then 0 else 10 else 2
def fixB (s : Int) (n : Nat) : List Nat := if fixE s n = 0 then leN s.toNat n else []
structure EnSize (E : Nat → Option Fn) : Prop where
  sz : E k_octet_Pen_Size = some f_octet_Pen_Size
  cp : E k_octet_Compact = some f_octet_Compact
  mkk : E k_octet_mark = some f_octet_mark
  pt : EnPut E
end Go.Eng
namespace Go.Eng
open Go
variable {E : Nat → Option Fn} {X : Orc}
set_option linter.unusedSimpArgs false
set_option linter.unusedVariables false
/-- the number of bytes, the lowest first -/
def numV (l : List Nat) : Nat := l.foldr (fun b n => n * 256 + b) 0
theorem numV_lt : ∀ l : List Nat, byt l = true → numV l < 256 ^ l.length := by
  intro l
  induction l with
  | nil => intro _; exact Nat.one_pos
  | cons a r ih =>
    intro h
    have h1 := ih (byt_iff.2 (fun x hx => byt_iff.1 h x (List.mem_cons_of_mem _ hx)))
    have h2 := byt_iff.1 h a (List.mem_cons_self ..)
    show numV r * 256 + a < 256 ^ (r.length + 1)
    rw [Nat.pow_succ]; omega
theorem or64 (n b : Nat) (hn : n < 72057594037927936) (hb : b < 256) (e : EqK) (h : H) : binV .or e h (.int .u64 ((n * 256 : Nat) : Int)) (.int .u64 (b : Int)) = some (.int .u64 ((n * 256 + b : Nat) : Int)) := by
  have e1 : binV .or e h (.int .u64 ((n * 256 : Nat) : Int)) (.int .u64 (b : Int)) = some (.int .u64 (asK .u64 (Nat.lor (n * 256 % 18446744073709551616) (b % 18446744073709551616)))) := rfl
  rw [e1, Nat.mod_eq_of_lt (by omega), Nat.mod_eq_of_lt (a := b) (by omega)]
  have o : Nat.lor (n * 256) b = n * 256 + b := by
    have := Nat.two_pow_add_eq_or_of_lt (i := 8) (b := b) hb n
    show (n * 256) ||| b = n * 256 + b
    rw [show n * 256 = 2 ^ 8 * n by omega, ← this]
  rw [o]
  have : asK .u64 (n * 256 + b) = ((n * 256 + b : Nat) : Int) := by
    unfold asK
    rw [cond_blt, if_pos (by simp [half]; omega)]
    rfl
  rw [this]
theorem shl64 (n : Nat) (hn : n < 72057594037927936) (e : EqK) (h : H) : binV .shl e h (.int .u64 (n : Int)) (.int .u64 8) = some (.int .u64 ((n * 256 : Nat) : Int)) := by
  have e1 : binV .shl e h (.int .u64 (n : Int)) (.int .u64 8) = some (.int .u64 (wr .u64 ((n * 256 : Nat) : Int))) := rfl
  rw [e1, u64n _ (by omega)]
structure NI (a : Option (Nat × Nat)) (c : Option Nat) (ez : Nat) (l : List Nat) (h0 : H) (i : Nat) (T : Tr V) (h : H) : Prop where
  il : i ≤ l.length
  t0 : evO T (.t 0) = .slice a l.length c ez
  t3 : evO T (.t 3) = .int .u64 (numV (l.drop (l.length - i)) : Nat)
  t4 : evO T (.t 4) = .int .i64 ((l.length : Int) - 1 - (i : Int))
  hh : h = h0
theorem ni_step (Q : Orc) (m : Nat) (a : Option (Nat × Nat)) (c : Option Nat) (ez : Nat) (l : List Nat) (bl : byt l = true) (hl : l.length ≤ 8) (h0 : H) (src : SrcH h0 a ez l) : ∀ i T h, i < l.length → NI a c ez l h0 i T h → ∃ T' h', evC Q 21 m none L_octet_number_0 ⟨T, [], h⟩ = some (.normal, ⟨T', [], h'⟩) ∧ NI a c ez l h0 (i + 1) T' h' := by
  intro i T h hi ⟨_, t0, t3, t4, hh⟩
  subst hh
  obtain ⟨bi, off, vs, md, rfl, rfl, h3, h4, h5, h6⟩ := src.resolve_left (fun h => by rw [h] at hi; cases hi)
  obtain ⟨p, ep⟩ : ∃ p, l.length - 1 - i = p := ⟨_, rfl⟩
  have hp : p < l.length := by omega
  have e1 : (l.length : Int) - 1 - (i : Int) = (p : Int) := by omega
  have cg : vs[off + p]? = some (.int .u8 (l.getD p 0 : Nat)) := by
    have : ((vs.drop off).take l.length)[p]? = (ofI .u8 l)[p]? := by rw [h6]
    rw [List.getElem?_take_of_lt hp, List.getElem?_drop, ofI_get _ _ _ hp] at this
    exact this
  have yl : l.getD p 0 < 256 := by
    rw [List.getD_eq_getElem?_getD, List.getElem?_eq_getElem hp]; exact byt_iff.1 bl _ (List.getElem_mem hp)
  have ds : l.drop (l.length - (i + 1)) = l.getD p 0 :: l.drop (l.length - i) := by
    rw [show l.length - (i + 1) = p by omega, show l.length - i = p + 1 by omega, List.drop_eq_getElem_cons hp, List.getD_eq_getElem?_getD, List.getElem?_eq_getElem hp]; rfl
  have ns : numV (l.drop (l.length - (i + 1))) = numV (l.drop (l.length - i)) * 256 + l.getD p 0 := by rw [ds]; rfl
  have nl := numV_lt (l.drop (l.length - i)) (byt_iff.2 (fun x hx => byt_iff.1 bl x (List.mem_of_mem_drop hx)))
  rw [List.length_drop, show l.length - (l.length - i) = i by omega] at nl
  have n3 : numV (l.drop (l.length - i)) < 72057594037927936 := Nat.lt_of_lt_of_le nl (Nat.pow_le_pow_right (n := 256) (i := i) (j := 7) (by omega) (by omega))
  clear nl
  rw [e1] at t4
  have c0 : decide ((0 : Int) ≤ (p : Int)) = true := decide_eq_true (by omega)
  have w2 : wr .i64 ((p : Int) - 1) = (l.length : Int) - 1 - ((i + 1 : Nat) : Int) := by rw [wr_i64 (by omega)]; omega
  have ix : idx (p : Int) l.length = some p := idxn hp
  have i1 : i + 1 ≤ l.length := hi
  generalize numV (l.drop (l.length - i)) = n at *
  generalize l.getD p 0 = y at *
  have s1 := shl64 n n3
  have s2 := or64 n y n3 yl
  have wy : wr .u64 (y : Int) = (y : Int) := u64n _ (by omega)
  rw [← ns] at s2
  refine ⟨_, _, by
    simp (config := {maxSteps := 2000000}) (disch := first | omega | (simp only [List.length_cons, List.length_nil, List.length_append, List.length_drop]; omega)) only [L_octet_number_0, t0, t3, t4, h4, cg, c0, w2, ix, s1, s2, wy, ↓b_xor32, ↓b_and32, ↓b_or32, ↓u_not32, b_xor32, b_and32, b_or32, u_not32, w32ad, ↓x_conv, x_convV, ↓x_fieldAddr, x_fieldV, ↓s_nilchk, x_nilchk, Nat.zero_add, Nat.add_zero, Nat.mul_one, ↓l_loop, ↓l_succ, ↓l_normal, l_normal, l_exit, l_ret, l_iteN, ↓h_put_get, ↓h_new_get, ↓h_del_get, h_next_put, h_next_new, h_next_del, Nat.add_assoc, Nat.add_eq_left, Nat.left_eq_add, Nat.add_left_cancel_iff, ↓s_load, m_load, ↓m_load1, m_load1, ↓m_st, m_stE, m_storeI, m_storeE, w_zero, w_succ, ↓s_alloc, ↓x_idxA, ↓x_idxS, x_idxAE, x_idxSE, x_addrE, x_idx, x_lenS, ↓s_len, ↓x_buildS, x_buildE, ↓x_P0, ↓x_P1, x_fill0, x_filli, x_fills, x_fillb, c_int, List.length_cons, List.length_nil, List.cons_append, List.drop_succ_cons, List.drop_zero, List.drop_nil, List.nil_append, Int.reduceAdd, Int.reduceToNat, Int.reduceLT, Int.reduceLE, Nat.reduceAdd, Nat.reduceMul, Nat.reduceLeDiff, Int.reduceEq, Int.reduceSub, Int.cast_ofNat_Int, s_resc, s_consR, m_load4, m_store4, s_res0, ↓s_skip, ↓s_ops, ↓s_dops, ↓s_seq, ↓s_cond, ↓s_block, ↓s_exit, ↓s_ret, ↓s_scope, ↓s_nil, ↓s_op, ↓s_opg, ↓s_wanted', ↓s_wantV, s_wantV, s_wantV0, beq_true, beq_false, ↓s_bindS, s_bindS, ↓s_bindE, s_bindE, s_bindE_ret, s_bindE_exit, s_bindE_iteN, s_norm, ↓s_condV, s_condV, s_block_ret, s_block_normal, s_block_exit, s_block_iteN, ↓s_getp, ↓s_getp0, ↓s_get, s_get0, ↓s_con, ↓s_fn, ↓s_os0, ↓s_os1, ↓s_list0, ↓s_list1, ↓s_mov, ↓s_pick, ↓s_pickE, s_pickE, ↓s_bin, ↓s_un, ↓s_minmax, ↓s_call, ↓s_callv, ↓s_callV, ↓s_ext, s_same, b_eql, b_neq, b_lss, b_leq, b_gtr, b_geq, b_add, b_sub, b_mul, b_eqlb, b_neqb, b_fnil, b_fnil', b_fnil2, b_fnil2', u_neg, u_not, m_two, s_end, s_end', s_end_iteN, s_res0, s_res1, s_tup1, s_tup2, ↓iteN_true, ↓iteN_false, iteN_true, iteN_false, Nat.zero_add, List.nil_append, List.append_nil, Nat.reduceEqDiff, reduceIte, decide_true, decide_false, Bool.not_true, Bool.not_false, List.getElem?_cons_zero, List.getElem?_cons_succ, Bool.false_eq_true, if_true, if_false, beq_self_eq_true]
    exact rfl, ⟨i1, (by (simp only [s_getp, s_getp0, Nat.reduceEqDiff, decide_false, decide_true, iteN_false, iteN_true, t0]; try rfl)), (by (simp only [s_getp, s_getp0, Nat.reduceEqDiff, decide_false, decide_true, iteN_false, iteN_true, t3]; try rfl)), (by (simp only [s_getp, s_getp0, Nat.reduceEqDiff, decide_false, decide_true, iteN_false, iteN_true, t4]; try rfl)), rfl⟩⟩
theorem number_go (e : E k_octet_number = some f_octet_number) (x : ∀ a h, X (.fn k_octet_number) a h = none) (N : Nat) (a : Option (Nat × Nat)) (c : Option Nat) (ez : Nat) (l : List Nat) (bl : byt l = true) (hl : l.length ≤ 8) (h : H) (src : SrcH h a ez l) :
    callX E X (N + 10) (.fn k_octet_number) [.slice a l.length c ez] h = some (.int .u64 (numV l : Nat), h) := by
  rw [x_cfn e _ _ (Nat.le_of_ble_eq_true rfl) (x _ _)]
  have w1 : wr .i64 ((l.length : Int) - 1) = (l.length : Int) - 1 := by rw [wr_i64 (by omega)]
  have fin : ∀ T, NI a c ez l h 0 T h → fnEnd [.tmp 2] (bindE (blockE 0 (loopN (evC (callX E X (N + 9)) 21 (N + 9) none L_octet_number_0) (N + 9) ⟨T, [], h⟩)) (evC (callX E X (N + 9)) 21 (N + 9) none R_octet_number_0)) = some (.int .u64 (numV l : Nat), h) := by
    intro T I
    obtain ⟨T', h', r, t3, hh⟩ := loop_go (f := evC (callX E X (N + 9)) 21 (N + 9) none L_octet_number_0) (NI a c ez l h) l.length (.exit 0) (by intro h; cases h) (fun T h' => evO T (.t 3) = .int .u64 (numV l : Nat) ∧ h' = h) (ni_step _ _ a c ez l bl hl h src) (fun T h' I => by
      obtain ⟨il, t0, t3, t4, hh⟩ := I
      rw [Nat.sub_self, List.drop_zero] at t3
      have c0 : decide ((0 : Int) ≤ (l.length : Int) - 1 - (l.length : Int)) = false := decide_eq_false (by omega)
      refine ⟨_, _, by
        simp (config := {maxSteps := 2000000}) (disch := first | omega | (simp only [List.length_cons, List.length_nil, List.length_append, List.length_drop]; omega)) only [L_octet_number_0, t4, c0, ↓b_xor32, ↓b_and32, ↓b_or32, ↓u_not32, b_xor32, b_and32, b_or32, u_not32, w32ad, ↓x_conv, x_convV, ↓x_fieldAddr, x_fieldV, ↓s_nilchk, x_nilchk, Nat.zero_add, Nat.add_zero, Nat.mul_one, ↓l_loop, ↓l_succ, ↓l_normal, l_normal, l_exit, l_ret, l_iteN, ↓h_put_get, ↓h_new_get, ↓h_del_get, h_next_put, h_next_new, h_next_del, Nat.add_assoc, Nat.add_eq_left, Nat.left_eq_add, Nat.add_left_cancel_iff, ↓s_load, m_load, ↓m_load1, m_load1, ↓m_st, m_stE, m_storeI, m_storeE, w_zero, w_succ, ↓s_alloc, ↓x_idxA, ↓x_idxS, x_idxAE, x_idxSE, x_addrE, x_idx, x_lenS, ↓s_len, ↓x_buildS, x_buildE, ↓x_P0, ↓x_P1, x_fill0, x_filli, x_fills, x_fillb, c_int, List.length_cons, List.length_nil, List.cons_append, List.drop_succ_cons, List.drop_zero, List.drop_nil, List.nil_append, Int.reduceAdd, Int.reduceToNat, Int.reduceLT, Int.reduceLE, Nat.reduceAdd, Nat.reduceMul, Nat.reduceLeDiff, Int.reduceEq, Int.reduceSub, Int.cast_ofNat_Int, s_resc, s_consR, m_load4, m_store4, s_res0, ↓s_skip, ↓s_ops, ↓s_dops, ↓s_seq, ↓s_cond, ↓s_block, ↓s_exit, ↓s_ret, ↓s_scope, ↓s_nil, ↓s_op, ↓s_opg, ↓s_wanted', ↓s_wantV, s_wantV, s_wantV0, beq_true, beq_false, ↓s_bindS, s_bindS, ↓s_bindE, s_bindE, s_bindE_ret, s_bindE_exit, s_bindE_iteN, s_norm, ↓s_condV, s_condV, s_block_ret, s_block_normal, s_block_exit, s_block_iteN, ↓s_getp, ↓s_getp0, ↓s_get, s_get0, ↓s_con, ↓s_fn, ↓s_os0, ↓s_os1, ↓s_list0, ↓s_list1, ↓s_mov, ↓s_pick, ↓s_pickE, s_pickE, ↓s_bin, ↓s_un, ↓s_minmax, ↓s_call, ↓s_callv, ↓s_callV, ↓s_ext, s_same, b_eql, b_neq, b_lss, b_leq, b_gtr, b_geq, b_add, b_sub, b_mul, b_eqlb, b_neqb, b_fnil, b_fnil', b_fnil2, b_fnil2', u_neg, u_not, m_two, s_end, s_end', s_end_iteN, s_res0, s_res1, s_tup1, s_tup2, ↓iteN_true, ↓iteN_false, iteN_true, iteN_false, Nat.zero_add, List.nil_append, List.append_nil, Nat.reduceEqDiff, reduceIte, decide_true, decide_false, Bool.not_true, Bool.not_false, List.getElem?_cons_zero, List.getElem?_cons_succ, Bool.false_eq_true, if_true, if_false, beq_self_eq_true]
        exact rfl, (by (simp only [s_getp, s_getp0, Nat.reduceEqDiff, decide_false, decide_true, iteN_false, iteN_true, t3]; try rfl)), hh⟩) l.length 0 (by omega) (N + 9) (by omega) T h I
    rw [r, hh]
    simp (config := {maxSteps := 2000000}) (disch := first | omega | (simp only [List.length_cons, List.length_nil, List.length_append, List.length_drop]; omega)) only [R_octet_number_0, t3, ↓b_xor32, ↓b_and32, ↓b_or32, ↓u_not32, b_xor32, b_and32, b_or32, u_not32, w32ad, ↓x_conv, x_convV, ↓x_fieldAddr, x_fieldV, ↓s_nilchk, x_nilchk, Nat.zero_add, Nat.add_zero, Nat.mul_one, ↓l_loop, ↓l_succ, ↓l_normal, l_normal, l_exit, l_ret, l_iteN, ↓h_put_get, ↓h_new_get, ↓h_del_get, h_next_put, h_next_new, h_next_del, Nat.add_assoc, Nat.add_eq_left, Nat.left_eq_add, Nat.add_left_cancel_iff, ↓s_load, m_load, ↓m_load1, m_load1, ↓m_st, m_stE, m_storeI, m_storeE, w_zero, w_succ, ↓s_alloc, ↓x_idxA, ↓x_idxS, x_idxAE, x_idxSE, x_addrE, x_idx, x_lenS, ↓s_len, ↓x_buildS, x_buildE, ↓x_P0, ↓x_P1, x_fill0, x_filli, x_fills, x_fillb, c_int, List.length_cons, List.length_nil, List.cons_append, List.drop_succ_cons, List.drop_zero, List.drop_nil, List.nil_append, Int.reduceAdd, Int.reduceToNat, Int.reduceLT, Int.reduceLE, Nat.reduceAdd, Nat.reduceMul, Nat.reduceLeDiff, Int.reduceEq, Int.reduceSub, Int.cast_ofNat_Int, s_resc, s_consR, m_load4, m_store4, s_res0, ↓s_skip, ↓s_ops, ↓s_dops, ↓s_seq, ↓s_cond, ↓s_block, ↓s_exit, ↓s_ret, ↓s_scope, ↓s_nil, ↓s_op, ↓s_opg, ↓s_wanted', ↓s_wantV, s_wantV, s_wantV0, beq_true, beq_false, ↓s_bindS, s_bindS, ↓s_bindE, s_bindE, s_bindE_ret, s_bindE_exit, s_bindE_iteN, s_norm, ↓s_condV, s_condV, s_block_ret, s_block_normal, s_block_exit, s_block_iteN, ↓s_getp, ↓s_getp0, ↓s_get, s_get0, ↓s_con, ↓s_fn, ↓s_os0, ↓s_os1, ↓s_list0, ↓s_list1, ↓s_mov, ↓s_pick, ↓s_pickE, s_pickE, ↓s_bin, ↓s_un, ↓s_minmax, ↓s_call, ↓s_callv, ↓s_callV, ↓s_ext, s_same, b_eql, b_neq, b_lss, b_leq, b_gtr, b_geq, b_add, b_sub, b_mul, b_eqlb, b_neqb, b_fnil, b_fnil', b_fnil2, b_fnil2', u_neg, u_not, m_two, s_end, s_end', s_end_iteN, s_res0, s_res1, s_tup1, s_tup2, ↓iteN_true, ↓iteN_false, iteN_true, iteN_false, Nat.zero_add, List.nil_append, List.append_nil, Nat.reduceEqDiff, reduceIte, decide_true, decide_false, Bool.not_true, Bool.not_false, List.getElem?_cons_zero, List.getElem?_cons_succ, Bool.false_eq_true, if_true, if_false, beq_self_eq_true]
  obtain ⟨R, eR⟩ : ∃ R, R_octet_number_0 = R := ⟨_, rfl⟩
  obtain ⟨Lo, eL⟩ : ∃ R, L_octet_number_0 = R := ⟨_, rfl⟩
  rw [eR, eL] at fin ⊢
  simp (config := {maxSteps := 2000000}) (disch := first | omega | (simp only [List.length_cons, List.length_nil, List.length_append, List.length_drop]; omega)) only [w1, ↓s_len, x_lenS, ↓b_xor32, ↓b_and32, ↓b_or32, ↓u_not32, b_xor32, b_and32, b_or32, u_not32, w32ad, ↓x_conv, x_convV, ↓x_fieldAddr, x_fieldV, ↓s_nilchk, x_nilchk, Nat.zero_add, Nat.add_zero, Nat.mul_one, ↓l_loop, ↓l_succ, ↓l_normal, l_normal, l_exit, l_ret, l_iteN, ↓h_put_get, ↓h_new_get, ↓h_del_get, h_next_put, h_next_new, h_next_del, Nat.add_assoc, Nat.add_eq_left, Nat.left_eq_add, Nat.add_left_cancel_iff, ↓s_load, m_load, ↓m_load1, m_load1, ↓m_st, m_stE, m_storeI, m_storeE, w_zero, w_succ, ↓s_alloc, ↓x_idxA, ↓x_idxS, x_idxAE, x_idxSE, x_addrE, x_idx, x_lenS, ↓s_len, ↓x_buildS, x_buildE, ↓x_P0, ↓x_P1, x_fill0, x_filli, x_fills, x_fillb, c_int, List.length_cons, List.length_nil, List.cons_append, List.drop_succ_cons, List.drop_zero, List.drop_nil, List.nil_append, Int.reduceAdd, Int.reduceToNat, Int.reduceLT, Int.reduceLE, Nat.reduceAdd, Nat.reduceMul, Nat.reduceLeDiff, Int.reduceEq, Int.reduceSub, Int.cast_ofNat_Int, s_resc, s_consR, m_load4, m_store4, s_res0, ↓s_skip, ↓s_ops, ↓s_dops, ↓s_seq, ↓s_cond, ↓s_block, ↓s_exit, ↓s_ret, ↓s_scope, ↓s_nil, ↓s_op, ↓s_opg, ↓s_wanted', ↓s_wantV, s_wantV, s_wantV0, beq_true, beq_false, ↓s_bindS, s_bindS, ↓s_bindE, s_bindE, s_bindE_ret, s_bindE_exit, s_bindE_iteN, s_norm, ↓s_condV, s_condV, s_block_ret, s_block_normal, s_block_exit, s_block_iteN, ↓s_getp, ↓s_getp0, ↓s_get, s_get0, ↓s_con, ↓s_fn, ↓s_os0, ↓s_os1, ↓s_list0, ↓s_list1, ↓s_mov, ↓s_pick, ↓s_pickE, s_pickE, ↓s_bin, ↓s_un, ↓s_minmax, ↓s_call, ↓s_callv, ↓s_callV, ↓s_ext, s_same, b_eql, b_neq, b_lss, b_leq, b_gtr, b_geq, b_add, b_sub, b_mul, b_eqlb, b_neqb, b_fnil, b_fnil', b_fnil2, b_fnil2', u_neg, u_not, m_two, s_end, s_end', s_end_iteN, s_res0, s_res1, s_tup1, s_tup2, ↓iteN_true, ↓iteN_false, iteN_true, iteN_false, Nat.zero_add, List.nil_append, List.append_nil, Nat.reduceEqDiff, reduceIte, decide_true, decide_false, Bool.not_true, Bool.not_false, List.getElem?_cons_zero, List.getElem?_cons_succ, Bool.false_eq_true, if_true, if_false, beq_self_eq_true]
  exact fin _ ⟨by omega, (by (simp only [s_getp, s_getp0, Nat.reduceEqDiff, decide_false, decide_true, iteN_false, iteN_true, eL]; try rfl)), by rw [Nat.sub_zero, List.drop_length]; show _ = V.int .u64 ((0 : Nat) : Int); exact (by (simp only [s_getp, s_getp0, Nat.reduceEqDiff, decide_false, decide_true, iteN_false, iteN_true, eL]; try rfl)), by show _ = V.int .i64 ((l.length : Int) - 1 - ((0 : Nat) : Int)); rw [show (l.length : Int) - 1 - ((0 : Nat) : Int) = (l.length : Int) - 1 by omega]; exact (by (simp only [s_getp, s_getp0, Nat.reduceEqDiff, decide_false, decide_true, iteN_false, iteN_true, eL]; try rfl)), rfl⟩
/-- parts of a slice that is nobody else's -/
theorem Wb.slc {h : H} {w : List Nat} {a : Option (Nat × Nat)} {c : Option Nat} {e : Nat} (s : Wb h w a c e) (lo hi : Nat) (k k' : IntKind) (h1 : lo ≤ hi) (h2 : hi ≤ w.length) : slcV 1 (some (.int k (lo : Int))) (some (.int k' (hi : Int))) none (.slice a w.length c e) = some (.slice (upA a lo) (hi - lo) (subC c lo) 1) := by
  rcases s with ⟨rfl, rfl, rfl, rfl⟩ | ⟨_, q, md, rfl, rfl, rfl, _⟩
  · rw [List.length_nil] at h2
    obtain rfl : hi = 0 := by omega
    obtain rfl : lo = 0 := by omega
    rfl
  · exact slcV_lhA _ _ _ _ _ _ h2 h1
/-- an eye at a place of l -/
structure EyeH (p : Nat) (l : List Nat) (at_ : Nat) (a : Option (Nat × Nat)) (h : H) : Prop where
  pt : ∃ c e, h.get p = some (.cells [.slice a l.length c e, .int .i64 (at_ : Int), .bool true] .rw) ∧ Wb h l a c e
  ne : ∀ o, a ≠ some (p, o)
  lt : p < h.next
  le : at_ ≤ l.length
theorem EyeH.mono {p : Nat} {l : List Nat} {at_ : Nat} {a : Option (Nat × Nat)} {h h' : H} (y : EyeH p l at_ a h) (hn : h.next ≤ h'.next) (k1 : h'.get p = h.get p) (k : ∀ q, q < h.next → a = some (q, 0) → h'.get q = h.get q) : EyeH p l at_ a h' := by
  obtain ⟨⟨c, e, g, wb⟩, ne, lt, le⟩ := y
  exact ⟨⟨c, e, by rw [k1, g], wb.mono hn k⟩, ne, Nat.lt_of_lt_of_le lt hn, le⟩
theorem EyeH.kp {p : Nat} {l : List Nat} {at_ : Nat} {a : Option (Nat × Nat)} {h h' : H} (y : EyeH p l at_ a h) (k : Kp h h') : EyeH p l at_ a h' := y.mono k.1 (k.2 _ y.lt) (fun q hq _ => k.2 q hq)
theorem EyeH.kq {p p' : Nat} {l : List Nat} {at_ : Nat} {a : Option (Nat × Nat)} {h h' : H} (y : EyeH p l at_ a h) (k : Kq p' h h') (hp : p ≠ p') (ha : ∀ o, a ≠ some (p', o)) : EyeH p l at_ a h' := y.mono k.1 (k.2 _ y.lt hp) (fun q hq e => k.2 q hq (fun e' => ha 0 (by rw [e, e'])))
/-- the place is another one -/
theorem EyeH.put {p : Nat} {l : List Nat} {at_ : Nat} {a : Option (Nat × Nat)} {h h' : H} (y : EyeH p l at_ a h) (k : Kp h h') (at' : Nat) (hl : at' ≤ l.length) (c : Option Nat) (e : Nat) (g : h.get p = some (.cells [.slice a l.length c e, .int .i64 (at_ : Int), .bool true] .rw)) : EyeH p l at' a (h'.put p (.cells [.slice a l.length c e, .int .i64 (at' : Int), .bool true] .rw)) ∧ Kq p h (h'.put p (.cells [.slice a l.length c e, .int .i64 (at' : Int), .bool true] .rw)) := by
  obtain ⟨⟨c', e', g', wb⟩, ne, lt, le⟩ := y
  rw [g] at g'
  cases g'
  exact ⟨⟨⟨c, e, h_put_same _ _ _, (wb.kp k).mono (Nat.le_refl _) (fun q hq ea => h_put_ne _ _ (fun e' => ne 0 (by rw [e', ea])))⟩, ne, Nat.lt_of_lt_of_le lt k.1, hl⟩, (k.q).put _ (.inr rfl)⟩
structure EnEye (E : Nat → Option Fn) : Prop where
  lk : E k_octet_Eye_looks = some f_octet_Eye_looks
  lf : E k_octet_Eye_Left = some f_octet_Eye_Left
  en : E k_octet_Eye_End = some f_octet_Eye_End
  fx : E k_octet_Eye_Fixed = some f_octet_Eye_Fixed
  sz : E k_octet_Eye_Size = some f_octet_Eye_Size
  by_ : E k_octet_Eye_Bytes = some f_octet_Eye_Bytes
  rw_ : E k_octet_Eye_Raw = some f_octet_Eye_Raw
  tk : E k_octet_Eye_take = some f_octet_Eye_take
  cc : E k_octet_compact = some f_octet_compact
  fo : E k_octet_following = some f_octet_following
  nm : E k_octet_number = some f_octet_number
  sd : E k_octet_sized = some f_octet_sized
  cp : E k_octet_Compact = some f_octet_Compact
  wi : EnWid E
structure NoEye (X : Orc) : Prop where
  lk : ∀ a h, X (.fn k_octet_Eye_looks) a h = none
  lf : ∀ a h, X (.fn k_octet_Eye_Left) a h = none
  en : ∀ a h, X (.fn k_octet_Eye_End) a h = none
  fx : ∀ a h, X (.fn k_octet_Eye_Fixed) a h = none
  sz : ∀ a h, X (.fn k_octet_Eye_Size) a h = none
  by_ : ∀ a h, X (.fn k_octet_Eye_Bytes) a h = none
  rw_ : ∀ a h, X (.fn k_octet_Eye_Raw) a h = none
  tk : ∀ a h, X (.fn k_octet_Eye_take) a h = none
  cc : ∀ a h, X (.fn k_octet_compact) a h = none
  fo : ∀ a h, X (.fn k_octet_following) a h = none
  nm : ∀ a h, X (.fn k_octet_number) a h = none
  sd : ∀ a h, X (.fn k_octet_sized) a h = none
  cp : ∀ a h, X (.fn k_octet_Compact) a h = none
  wi : NoWid X
/-- an eye -/
theorem look_go (e : E k_octet_Look = some f_octet_Look) (x : ∀ a h, X (.fn k_octet_Look) a h = none) (N : Nat) (l : List Nat) (hl : l.length ≤ 1000000) (a : Option (Nat × Nat)) (c : Option Nat) (ez : Nat) (h : H) (src : SrcH h a ez l) :
    ∃ h' p a', callX E X (N + 1) (.fn k_octet_Look) [.slice a l.length c ez] h = some (.ptr (some (p, 0)), h') ∧ Kp h h' ∧ h.next ≤ p ∧ EyeH p l 0 a' h' ∧ ∀ q o, a' = some (q, o) → h.next ≤ q := by
  rw [x_cfn e _ _ (Nat.le_of_ble_eq_true rfl) (x _ _)]
  have sc := src.cellz c
  obtain ⟨a', c', e', h1, ap, nw⟩ := app_nw h l hl
  have ca : ∀ l : List V, (V.agg l).cells = l := fun _ => rfl
  refine ⟨h1.new (.cells [.slice a' l.length c' e', .int .i64 0, .bool true] .rw), h1.next, a', ?_, nw.kp.trans (Kp.new _ _), nw.kp.1, ⟨⟨c', e', h_new_same _ _, nw.wb.kp (Kp.new _ _)⟩, fun o ea => absurd (nw.wb.lt ea) (Nat.lt_irrefl _), Nat.lt_succ_self _, Nat.zero_le _⟩, nw.ge⟩
  obtain ⟨n, en⟩ : ∃ n, l.length = n := ⟨_, rfl⟩
  rw [en] at sc ap ⊢
  simp (config := {maxSteps := 2000000}) (disch := first | omega | (simp only [List.length_cons, List.length_nil, List.length_append, List.length_drop]; omega)) only [sc, ap, ca, ↓x_build, x_aggO, x_P0, x_P1, x_fill0, x_fills, x_fillb, ↓s_append, ↓s_box, ↓b_xor32, ↓b_and32, ↓b_or32, ↓u_not32, b_xor32, b_and32, b_or32, u_not32, w32ad, ↓x_conv, x_convV, ↓x_fieldAddr, x_fieldV, ↓s_nilchk, x_nilchk, Nat.zero_add, Nat.add_zero, Nat.mul_one, ↓l_loop, ↓l_succ, ↓l_normal, l_normal, l_exit, l_ret, l_iteN, ↓h_put_get, ↓h_new_get, ↓h_del_get, h_next_put, h_next_new, h_next_del, Nat.add_assoc, Nat.add_eq_left, Nat.left_eq_add, Nat.add_left_cancel_iff, ↓s_load, m_load, ↓m_load1, m_load1, ↓m_st, m_stE, m_storeI, m_storeE, w_zero, w_succ, ↓s_alloc, ↓x_idxA, ↓x_idxS, x_idxAE, x_idxSE, x_addrE, x_idx, x_lenS, ↓s_len, ↓x_buildS, x_buildE, ↓x_P0, ↓x_P1, x_fill0, x_filli, x_fills, x_fillb, c_int, List.length_cons, List.length_nil, List.cons_append, List.drop_succ_cons, List.drop_zero, List.drop_nil, List.nil_append, Int.reduceAdd, Int.reduceToNat, Int.reduceLT, Int.reduceLE, Nat.reduceAdd, Nat.reduceMul, Nat.reduceLeDiff, Int.reduceEq, Int.reduceSub, Int.cast_ofNat_Int, s_resc, s_consR, m_load4, m_store4, s_res0, ↓s_skip, ↓s_ops, ↓s_dops, ↓s_seq, ↓s_cond, ↓s_block, ↓s_exit, ↓s_ret, ↓s_scope, ↓s_nil, ↓s_op, ↓s_opg, ↓s_wanted', ↓s_wantV, s_wantV, s_wantV0, beq_true, beq_false, ↓s_bindS, s_bindS, ↓s_bindE, s_bindE, s_bindE_ret, s_bindE_exit, s_bindE_iteN, s_norm, ↓s_condV, s_condV, s_block_ret, s_block_normal, s_block_exit, s_block_iteN, ↓s_getp, ↓s_getp0, ↓s_get, s_get0, ↓s_con, ↓s_fn, ↓s_os0, ↓s_os1, ↓s_list0, ↓s_list1, ↓s_mov, ↓s_pick, ↓s_pickE, s_pickE, ↓s_bin, ↓s_un, ↓s_minmax, ↓s_call, ↓s_callv, ↓s_callV, ↓s_ext, s_same, b_eql, b_neq, b_lss, b_leq, b_gtr, b_geq, b_add, b_sub, b_mul, b_eqlb, b_neqb, b_fnil, b_fnil', b_fnil2, b_fnil2', u_neg, u_not, m_two, s_end, s_end', s_end_iteN, s_res0, s_res1, s_tup1, s_tup2, ↓iteN_true, ↓iteN_false, iteN_true, iteN_false, Nat.zero_add, List.nil_append, List.append_nil, Nat.reduceEqDiff, reduceIte, decide_true, decide_false, Bool.not_true, Bool.not_false, List.getElem?_cons_zero, List.getElem?_cons_succ, Bool.false_eq_true, if_true, if_false, beq_self_eq_true]
theorem looks_go (e : EnEye E) (x : NoEye X) (N p : Nat) (v1 v2 : V) (md : Md) (h : H) (g : h.get p = some (.cells [v1, v2, .bool true] md)) : callX E X (N + 1) (.fn k_octet_Eye_looks) [.ptr (some (p, 0))] h = some (.bool true, h) := by
  rw [x_cfn e.lk _ _ (Nat.le_of_ble_eq_true rfl) (x.lk _ _)]
  have ne : ∀ h i, binV .neq (.ref .p) h (.ptr (some (i, 0))) (.ptr none) = some (.bool true) := fun h i => rfl
  simp (config := {maxSteps := 2000000}) (disch := first | omega | (simp only [List.length_cons, List.length_nil, List.length_append, List.length_drop]; omega)) only [g, ne, ↓b_xor32, ↓b_and32, ↓b_or32, ↓u_not32, b_xor32, b_and32, b_or32, u_not32, w32ad, ↓x_conv, x_convV, ↓x_fieldAddr, x_fieldV, ↓s_nilchk, x_nilchk, Nat.zero_add, Nat.add_zero, Nat.mul_one, ↓l_loop, ↓l_succ, ↓l_normal, l_normal, l_exit, l_ret, l_iteN, ↓h_put_get, ↓h_new_get, ↓h_del_get, h_next_put, h_next_new, h_next_del, Nat.add_assoc, Nat.add_eq_left, Nat.left_eq_add, Nat.add_left_cancel_iff, ↓s_load, m_load, ↓m_load1, m_load1, ↓m_st, m_stE, m_storeI, m_storeE, w_zero, w_succ, ↓s_alloc, ↓x_idxA, ↓x_idxS, x_idxAE, x_idxSE, x_addrE, x_idx, x_lenS, ↓s_len, ↓x_buildS, x_buildE, ↓x_P0, ↓x_P1, x_fill0, x_filli, x_fills, x_fillb, c_int, List.length_cons, List.length_nil, List.cons_append, List.drop_succ_cons, List.drop_zero, List.drop_nil, List.nil_append, Int.reduceAdd, Int.reduceToNat, Int.reduceLT, Int.reduceLE, Nat.reduceAdd, Nat.reduceMul, Nat.reduceLeDiff, Int.reduceEq, Int.reduceSub, Int.cast_ofNat_Int, s_resc, s_consR, m_load4, m_store4, s_res0, ↓s_skip, ↓s_ops, ↓s_dops, ↓s_seq, ↓s_cond, ↓s_block, ↓s_exit, ↓s_ret, ↓s_scope, ↓s_nil, ↓s_op, ↓s_opg, ↓s_wanted', ↓s_wantV, s_wantV, s_wantV0, beq_true, beq_false, ↓s_bindS, s_bindS, ↓s_bindE, s_bindE, s_bindE_ret, s_bindE_exit, s_bindE_iteN, s_norm, ↓s_condV, s_condV, s_block_ret, s_block_normal, s_block_exit, s_block_iteN, ↓s_getp, ↓s_getp0, ↓s_get, s_get0, ↓s_con, ↓s_fn, ↓s_os0, ↓s_os1, ↓s_list0, ↓s_list1, ↓s_mov, ↓s_pick, ↓s_pickE, s_pickE, ↓s_bin, ↓s_un, ↓s_minmax, ↓s_call, ↓s_callv, ↓s_callV, ↓s_ext, s_same, b_eql, b_neq, b_lss, b_leq, b_gtr, b_geq, b_add, b_sub, b_mul, b_eqlb, b_neqb, b_fnil, b_fnil', b_fnil2, b_fnil2', u_neg, u_not, m_two, s_end, s_end', s_end_iteN, s_res0, s_res1, s_tup1, s_tup2, ↓iteN_true, ↓iteN_false, iteN_true, iteN_false, Nat.zero_add, List.nil_append, List.append_nil, Nat.reduceEqDiff, reduceIte, decide_true, decide_false, Bool.not_true, Bool.not_false, List.getElem?_cons_zero, List.getElem?_cons_succ, Bool.false_eq_true, if_true, if_false, beq_self_eq_true]
theorem left_go (e : EnEye E) (x : NoEye X) (N p : Nat) (l : List Nat) (hl : l.length ≤ 1000000) (at_ : Nat) (a : Option (Nat × Nat)) (h : H) (y : EyeH p l at_ a h) :
    callX E X (N + 2) (.fn k_octet_Eye_Left) [.ptr (some (p, 0))] h = some (.int .i64 ((l.length - at_ : Nat) : Int), h) := by
  rw [x_cfn e.lf _ _ (Nat.le_of_ble_eq_true rfl) (x.lf _ _)]
  have hle := y.le
  obtain ⟨c, ez, g, wb⟩ := y.pt
  have r := looks_go e x N p _ _ .rw h g
  obtain ⟨n, en⟩ : ∃ n, l.length = n := ⟨_, rfl⟩
  rw [en] at hle hl g ⊢
  have w : wr .i64 ((n : Int) - (at_ : Int)) = ((n - at_ : Nat) : Int) := by rw [wr_i64 (by omega)]; omega
  simp (config := {maxSteps := 2000000}) (disch := first | omega | (simp only [List.length_cons, List.length_nil, List.length_append, List.length_drop]; omega)) only [g, r, w, vbeq_slice, vbeq_int, ↓s_len, x_lenS, ↓b_xor32, ↓b_and32, ↓b_or32, ↓u_not32, b_xor32, b_and32, b_or32, u_not32, w32ad, ↓x_conv, x_convV, ↓x_fieldAddr, x_fieldV, ↓s_nilchk, x_nilchk, Nat.zero_add, Nat.add_zero, Nat.mul_one, ↓s_evD, ↓s_dnil, ↓s_dL, ↓s_dLg, ↓s_dR, ↓s_dRg, ↓s_dRj, ↓s_dRjg, ↓s_dB, ↓s_dBg, ↓s_dAlloc, ↓s_bindD, s_bindD, s_finD, s_finDx, s_addP0, s_addP1, s_addB, s_lookP, ↓s_bump0, ↓s_bump_get, s_bump_next, s_ok0, ↓s_ok1, s_okR0, ↓s_okR1, ↓s_okE, s_okE, s_okE1, s_nth0, s_nthS, Nat.add_zero, Bool.and_self, Bool.and_true, Bool.true_and, ↓l_loop, ↓l_succ, ↓l_normal, l_normal, l_exit, l_ret, l_iteN, ↓h_put_get, ↓h_new_get, ↓h_del_get, h_next_put, h_next_new, h_next_del, Nat.add_assoc, Nat.add_eq_left, Nat.left_eq_add, Nat.add_left_cancel_iff, ↓s_load, m_load, ↓m_load1, m_load1, ↓m_st, m_stE, m_storeI, m_storeE, w_zero, w_succ, ↓s_alloc, ↓x_idxA, ↓x_idxS, x_idxAE, x_idxSE, x_addrE, x_idx, x_lenS, ↓s_len, ↓x_buildS, x_buildE, ↓x_P0, ↓x_P1, x_fill0, x_filli, x_fills, x_fillb, c_int, List.length_cons, List.length_nil, List.cons_append, List.drop_succ_cons, List.drop_zero, List.drop_nil, List.nil_append, Int.reduceAdd, Int.reduceToNat, Int.reduceLT, Int.reduceLE, Nat.reduceAdd, Nat.reduceMul, Nat.reduceLeDiff, Int.reduceEq, Int.reduceSub, Int.cast_ofNat_Int, s_resc, s_consR, m_load4, m_store4, s_res0, ↓s_skip, ↓s_ops, ↓s_dops, ↓s_seq, ↓s_cond, ↓s_block, ↓s_exit, ↓s_ret, ↓s_scope, ↓s_nil, ↓s_op, ↓s_opg, ↓s_wanted', ↓s_wantV, s_wantV, s_wantV0, beq_true, beq_false, ↓s_bindS, s_bindS, ↓s_bindE, s_bindE, s_bindE_ret, s_bindE_exit, s_bindE_iteN, s_norm, ↓s_condV, s_condV, s_block_ret, s_block_normal, s_block_exit, s_block_iteN, ↓s_getp, ↓s_getp0, ↓s_get, s_get0, ↓s_con, ↓s_fn, ↓s_os0, ↓s_os1, ↓s_list0, ↓s_list1, ↓s_mov, ↓s_pick, ↓s_pickE, s_pickE, ↓s_bin, ↓s_un, ↓s_minmax, ↓s_call, ↓s_callv, ↓s_callV, ↓s_ext, s_same, b_eql, b_neq, b_lss, b_leq, b_gtr, b_geq, b_add, b_sub, b_mul, b_eqlb, b_neqb, b_fnil, b_fnil', b_fnil2, b_fnil2', u_neg, u_not, m_two, s_end, s_end', s_end_iteN, s_res0, s_res1, s_tup1, s_tup2, ↓iteN_true, ↓iteN_false, iteN_true, iteN_false, Nat.zero_add, List.nil_append, List.append_nil, Nat.reduceEqDiff, reduceIte, decide_true, decide_false, Bool.not_true, Bool.not_false, List.getElem?_cons_zero, List.getElem?_cons_succ, Bool.false_eq_true, if_true, if_false, beq_self_eq_true]
end Go.Eng
namespace Go.Eng
open Go
variable {E : Nat → Option Fn} {X : Orc}
set_option linter.unusedSimpArgs false
set_option linter.unusedVariables false
theorem SrcH.e1 {h : H} {a : Option (Nat × Nat)} {e : Nat} {l : List Nat} (s : SrcH h a e l) : SrcH h a 1 l := by
  rcases s with s | ⟨bi, off, vs, m, h1, h2, h3⟩
  · exact .inl s
  · exact .inr ⟨bi, off, vs, m, h1, rfl, h3⟩
theorem numV_lt8 (l : List Nat) (bl : byt l = true) (h : l.length ≤ 8) : numV l < 18446744073709551616 := Nat.lt_of_lt_of_le (numV_lt l bl) (Nat.pow_le_pow_right (n := 256) (i := l.length) (j := 8) (by omega) h)
/-- what an eye answers: new bytes, and the rest as it was but for the eye -/
structure Nq (p : Nat) (h h' : H) (w : List Nat) (a : Option (Nat × Nat)) (c : Option Nat) (e : Nat) : Prop where
  kq : Kq p h h'
  wb : Wb h' w a c e
  ge : ∀ q o, a = some (q, o) → h.next ≤ q
theorem Nq.nil {p : Nat} {h h' : H} (k : Kq p h h') : Nq p h h' [] none (some 0) 0 := ⟨k, .nil _, fun _ _ e => by cases e⟩
/-- what Fixed reads: the number, the error, the place behind -/
def eyFix (s : Int) (l : List Nat) (at_ : Nat) : Nat × Nat × Nat := if sizedI s = true then if at_ + s.toNat ≤ l.length then (numV ((l.drop at_).take s.toNat), 0, at_ + s.toNat) else (0, 10, at_) else (0, 2, at_)
theorem eyfix_go (e : EnEye E) (x : NoEye X) (N p : Nat) (s : Int) (l : List Nat) (bl : byt l = true) (hl : l.length ≤ 1000000) (at_ : Nat) (a : Option (Nat × Nat)) (h : H) (y : EyeH p l at_ a h) :
    ∃ h', callX E X (N + 12) (.fn k_octet_Eye_Fixed) [.ptr (some (p, 0)), .int .i64 s] h = some (.tup [.int .u64 ((eyFix s l at_).1 : Nat), .int .i64 ((eyFix s l at_).2.1 : Nat)], h') ∧ Kq p h h' ∧ EyeH p l (eyFix s l at_).2.2 a h' := by
  rw [x_cfn e.fx _ _ (Nat.le_of_ble_eq_true rfl) (x.fx _ _)]
  have y0 := y
  obtain ⟨c, ez, g, wb⟩ := y.pt
  have r1 := looks_go e x (N + 10) p _ _ .rw h g
  have r2 := sizedI_go e.sd x.sd (N + 10) s h
  unfold eyFix
  cases hs : sizedI s with
  | false =>
    rw [hs] at r2
    refine ⟨h, ?_, Kq.refl _ _, y⟩
    rw [if_neg (show ¬ (false = true) by simp)]
    simp (config := {maxSteps := 2000000}) (disch := first | omega | (simp only [List.length_cons, List.length_nil, List.length_append, List.length_drop]; omega)) only [r1, r2, ↓b_xor32, ↓b_and32, ↓b_or32, ↓u_not32, b_xor32, b_and32, b_or32, u_not32, w32ad, ↓x_conv, x_convV, ↓x_fieldAddr, x_fieldV, ↓s_nilchk, x_nilchk, Nat.zero_add, Nat.add_zero, Nat.mul_one, ↓l_loop, ↓l_succ, ↓l_normal, l_normal, l_exit, l_ret, l_iteN, ↓h_put_get, ↓h_new_get, ↓h_del_get, h_next_put, h_next_new, h_next_del, Nat.add_assoc, Nat.add_eq_left, Nat.left_eq_add, Nat.add_left_cancel_iff, ↓s_load, m_load, ↓m_load1, m_load1, ↓m_st, m_stE, m_storeI, m_storeE, w_zero, w_succ, ↓s_alloc, ↓x_idxA, ↓x_idxS, x_idxAE, x_idxSE, x_addrE, x_idx, x_lenS, ↓s_len, ↓x_buildS, x_buildE, ↓x_P0, ↓x_P1, x_fill0, x_filli, x_fills, x_fillb, c_int, List.length_cons, List.length_nil, List.cons_append, List.drop_succ_cons, List.drop_zero, List.drop_nil, List.nil_append, Int.reduceAdd, Int.reduceToNat, Int.reduceLT, Int.reduceLE, Nat.reduceAdd, Nat.reduceMul, Nat.reduceLeDiff, Int.reduceEq, Int.reduceSub, Int.cast_ofNat_Int, s_resc, s_consR, m_load4, m_store4, s_res0, ↓s_skip, ↓s_ops, ↓s_dops, ↓s_seq, ↓s_cond, ↓s_block, ↓s_exit, ↓s_ret, ↓s_scope, ↓s_nil, ↓s_op, ↓s_opg, ↓s_wanted', ↓s_wantV, s_wantV, s_wantV0, beq_true, beq_false, ↓s_bindS, s_bindS, ↓s_bindE, s_bindE, s_bindE_ret, s_bindE_exit, s_bindE_iteN, s_norm, ↓s_condV, s_condV, s_block_ret, s_block_normal, s_block_exit, s_block_iteN, ↓s_getp, ↓s_getp0, ↓s_get, s_get0, ↓s_con, ↓s_fn, ↓s_os0, ↓s_os1, ↓s_list0, ↓s_list1, ↓s_mov, ↓s_pick, ↓s_pickE, s_pickE, ↓s_bin, ↓s_un, ↓s_minmax, ↓s_call, ↓s_callv, ↓s_callV, ↓s_ext, s_same, b_eql, b_neq, b_lss, b_leq, b_gtr, b_geq, b_add, b_sub, b_mul, b_eqlb, b_neqb, b_fnil, b_fnil', b_fnil2, b_fnil2', u_neg, u_not, m_two, s_end, s_end', s_end_iteN, s_res0, s_res1, s_tup1, s_tup2, ↓iteN_true, ↓iteN_false, iteN_true, iteN_false, Nat.zero_add, List.nil_append, List.append_nil, Nat.reduceEqDiff, reduceIte, decide_true, decide_false, Bool.not_true, Bool.not_false, List.getElem?_cons_zero, List.getElem?_cons_succ, Bool.false_eq_true, if_true, if_false, beq_self_eq_true]
  | true =>
    rw [hs] at r2
    obtain ⟨k, rfl, k0, k8, _⟩ := sizedI_nat hs
    rw [if_pos rfl, Int.toNat_natCast]
    have r3 := left_go e x (N + 9) p l hl at_ a h y
    have hle := y.le
    by_cases hn : at_ + k ≤ l.length
    · rw [if_pos hn]
      have c1 : decide (((l.length - at_ : Nat) : Int) < (k : Int)) = false := decide_eq_false (by omega)
      have sv := wb.slc at_ (at_ + k) .i64 .i64 (by omega) hn
      rw [Nat.add_sub_cancel_left] at sv
      have lt : ((l.drop at_).take k).length = k := by rw [List.length_take, List.length_drop]; omega
      have r4 := number_go e.nm x.nm (N + 1) (upA a at_) (subC c at_) 1 ((l.drop at_).take k) (byt_iff.2 (fun x hx => byt_iff.1 bl x (List.mem_of_mem_drop (List.mem_of_mem_take hx)))) (by omega) h ((wb.src.drop at_).take k).e1
      rw [lt] at r4
      obtain ⟨y2, k2⟩ := y0.put (Kp.refl h) (at_ + k) hn c ez g
      refine ⟨_, ?_, k2, y2⟩
      generalize numV ((l.drop at_).take k) = n at *
      have w1 : wr .i64 ((at_ : Int) + (k : Int)) = ((at_ + k : Nat) : Int) := by rw [wr_i64 (by omega)]; omega
      obtain ⟨L, eL⟩ : ∃ L, l.length = L := ⟨_, rfl⟩
      rw [eL] at sv g r3 c1 ⊢
      generalize L - at_ = d at *
      simp (config := {maxSteps := 2000000}) (disch := first | omega | (simp only [List.length_cons, List.length_nil, List.length_append, List.length_drop]; omega)) only [g, r1, r2, r3, r4, c1, w1, sv, vbeq_slice, vbeq_int, ↓x_slcS, x_M0, x_M1, ↓b_xor32, ↓b_and32, ↓b_or32, ↓u_not32, b_xor32, b_and32, b_or32, u_not32, w32ad, ↓x_conv, x_convV, ↓x_fieldAddr, x_fieldV, ↓s_nilchk, x_nilchk, Nat.zero_add, Nat.add_zero, Nat.mul_one, ↓s_evD, ↓s_dnil, ↓s_dL, ↓s_dLg, ↓s_dR, ↓s_dRg, ↓s_dRj, ↓s_dRjg, ↓s_dB, ↓s_dBg, ↓s_dAlloc, ↓s_bindD, s_bindD, s_finD, s_finDx, s_addP0, s_addP1, s_addB, s_lookP, ↓s_bump0, ↓s_bump_get, s_bump_next, s_ok0, ↓s_ok1, s_okR0, ↓s_okR1, ↓s_okE, s_okE, s_okE1, s_nth0, s_nthS, Nat.add_zero, Bool.and_self, Bool.and_true, Bool.true_and, ↓l_loop, ↓l_succ, ↓l_normal, l_normal, l_exit, l_ret, l_iteN, ↓h_put_get, ↓h_new_get, ↓h_del_get, h_next_put, h_next_new, h_next_del, Nat.add_assoc, Nat.add_eq_left, Nat.left_eq_add, Nat.add_left_cancel_iff, ↓s_load, m_load, ↓m_load1, m_load1, ↓m_st, m_stE, m_storeI, m_storeE, w_zero, w_succ, ↓s_alloc, ↓x_idxA, ↓x_idxS, x_idxAE, x_idxSE, x_addrE, x_idx, x_lenS, ↓s_len, ↓x_buildS, x_buildE, ↓x_P0, ↓x_P1, x_fill0, x_filli, x_fills, x_fillb, c_int, List.length_cons, List.length_nil, List.cons_append, List.drop_succ_cons, List.drop_zero, List.drop_nil, List.nil_append, Int.reduceAdd, Int.reduceToNat, Int.reduceLT, Int.reduceLE, Nat.reduceAdd, Nat.reduceMul, Nat.reduceLeDiff, Int.reduceEq, Int.reduceSub, Int.cast_ofNat_Int, s_resc, s_consR, m_load4, m_store4, s_res0, ↓s_skip, ↓s_ops, ↓s_dops, ↓s_seq, ↓s_cond, ↓s_block, ↓s_exit, ↓s_ret, ↓s_scope, ↓s_nil, ↓s_op, ↓s_opg, ↓s_wanted', ↓s_wantV, s_wantV, s_wantV0, beq_true, beq_false, ↓s_bindS, s_bindS, ↓s_bindE, s_bindE, s_bindE_ret, s_bindE_exit, s_bindE_iteN, s_norm, ↓s_condV, s_condV, s_block_ret, s_block_normal, s_block_exit, s_block_iteN, ↓s_getp, ↓s_getp0, ↓s_get, s_get0, ↓s_con, ↓s_fn, ↓s_os0, ↓s_os1, ↓s_list0, ↓s_list1, ↓s_mov, ↓s_pick, ↓s_pickE, s_pickE, ↓s_bin, ↓s_un, ↓s_minmax, ↓s_call, ↓s_callv, ↓s_callV, ↓s_ext, s_same, b_eql, b_neq, b_lss, b_leq, b_gtr, b_geq, b_add, b_sub, b_mul, b_eqlb, b_neqb, b_fnil, b_fnil', b_fnil2, b_fnil2', u_neg, u_not, m_two, s_end, s_end', s_end_iteN, s_res0, s_res1, s_tup1, s_tup2, ↓iteN_true, ↓iteN_false, iteN_true, iteN_false, Nat.zero_add, List.nil_append, List.append_nil, Nat.reduceEqDiff, reduceIte, decide_true, decide_false, Bool.not_true, Bool.not_false, List.getElem?_cons_zero, List.getElem?_cons_succ, Bool.false_eq_true, if_true, if_false, beq_self_eq_true]
      try rfl
    · rw [if_neg hn]
      have c1 : decide (((l.length - at_ : Nat) : Int) < (k : Int)) = true := decide_eq_true (by omega)
      refine ⟨h, ?_, Kq.refl _ _, y⟩
      generalize l.length - at_ = d at *
      simp (config := {maxSteps := 2000000}) (disch := first | omega | (simp only [List.length_cons, List.length_nil, List.length_append, List.length_drop]; omega)) only [r1, r2, r3, c1, ↓b_xor32, ↓b_and32, ↓b_or32, ↓u_not32, b_xor32, b_and32, b_or32, u_not32, w32ad, ↓x_conv, x_convV, ↓x_fieldAddr, x_fieldV, ↓s_nilchk, x_nilchk, Nat.zero_add, Nat.add_zero, Nat.mul_one, ↓l_loop, ↓l_succ, ↓l_normal, l_normal, l_exit, l_ret, l_iteN, ↓h_put_get, ↓h_new_get, ↓h_del_get, h_next_put, h_next_new, h_next_del, Nat.add_assoc, Nat.add_eq_left, Nat.left_eq_add, Nat.add_left_cancel_iff, ↓s_load, m_load, ↓m_load1, m_load1, ↓m_st, m_stE, m_storeI, m_storeE, w_zero, w_succ, ↓s_alloc, ↓x_idxA, ↓x_idxS, x_idxAE, x_idxSE, x_addrE, x_idx, x_lenS, ↓s_len, ↓x_buildS, x_buildE, ↓x_P0, ↓x_P1, x_fill0, x_filli, x_fills, x_fillb, c_int, List.length_cons, List.length_nil, List.cons_append, List.drop_succ_cons, List.drop_zero, List.drop_nil, List.nil_append, Int.reduceAdd, Int.reduceToNat, Int.reduceLT, Int.reduceLE, Nat.reduceAdd, Nat.reduceMul, Nat.reduceLeDiff, Int.reduceEq, Int.reduceSub, Int.cast_ofNat_Int, s_resc, s_consR, m_load4, m_store4, s_res0, ↓s_skip, ↓s_ops, ↓s_dops, ↓s_seq, ↓s_cond, ↓s_block, ↓s_exit, ↓s_ret, ↓s_scope, ↓s_nil, ↓s_op, ↓s_opg, ↓s_wanted', ↓s_wantV, s_wantV, s_wantV0, beq_true, beq_false, ↓s_bindS, s_bindS, ↓s_bindE, s_bindE, s_bindE_ret, s_bindE_exit, s_bindE_iteN, s_norm, ↓s_condV, s_condV, s_block_ret, s_block_normal, s_block_exit, s_block_iteN, ↓s_getp, ↓s_getp0, ↓s_get, s_get0, ↓s_con, ↓s_fn, ↓s_os0, ↓s_os1, ↓s_list0, ↓s_list1, ↓s_mov, ↓s_pick, ↓s_pickE, s_pickE, ↓s_bin, ↓s_un, ↓s_minmax, ↓s_call, ↓s_callv, ↓s_callV, ↓s_ext, s_same, b_eql, b_neq, b_lss, b_leq, b_gtr, b_geq, b_add, b_sub, b_mul, b_eqlb, b_neqb, b_fnil, b_fnil', b_fnil2, b_fnil2', u_neg, u_not, m_two, s_end, s_end', s_end_iteN, s_res0, s_res1, s_tup1, s_tup2, ↓iteN_true, ↓iteN_false, iteN_true, iteN_false, Nat.zero_add, List.nil_append, List.append_nil, Nat.reduceEqDiff, reduceIte, decide_true, decide_false, Bool.not_true, Bool.not_false, List.getElem?_cons_zero, List.getElem?_cons_succ, Bool.false_eq_true, if_true, if_false, beq_self_eq_true]
      try rfl
theorem Wb.sub {h : H} {w : List Nat} {a : Option (Nat × Nat)} {c : Option Nat} {e : Nat} (s : Wb h w a c e) (n : Nat) (hn : w.drop n ≠ []) : subC c n = none := by
  rcases s with ⟨rfl, _⟩ | ⟨_, q, md, _, rfl, _⟩
  · simp at hn
  · rfl
end Go.Eng
namespace Go.Eng
open Go
variable {E : Nat → Option Fn} {X : Orc}
set_option linter.unusedSimpArgs false
set_option linter.unusedVariables false
theorem leN_succ (s n : Nat) : leN (s + 1) n = n % 256 :: leN s (n / 256) := by
  unfold leN
  rw [List.range_succ_eq_map, List.map_cons, List.map_map]
  congr 1
  · rw [Nat.mul_zero, Nat.pow_zero, Nat.div_one]
  · apply List.map_congr_left
    intro k _
    show n / 2 ^ (8 * (k + 1)) % 256 = n / 256 / 2 ^ (8 * k) % 256
    rw [Nat.div_div_eq_div_mul, show 2 ^ (8 * (k + 1)) = 256 * 2 ^ (8 * k) by rw [Nat.mul_add, Nat.pow_add]; omega]
theorem numV_leN : ∀ s n, n < 256 ^ s → numV (leN s n) = n := by
  intro s
  induction s with
  | zero => intro n h; rw [Nat.pow_zero] at h; obtain rfl : n = 0 := by omega
            rfl
  | succ s ih =>
    intro n h
    rw [leN_succ]
    show numV (leN s (n / 256)) * 256 + n % 256 = n
    rw [ih _ (by rw [Nat.pow_succ] at h; omega)]; omega
theorem leN_numV : ∀ l : List Nat, byt l = true → leN l.length (numV l) = l := by
  intro l
  induction l with
  | nil => intro _; rfl
  | cons a r ih =>
    intro h
    have h1 := byt_iff.1 h a (List.mem_cons_self ..)
    have h2 := ih (byt_iff.2 (fun x hx => byt_iff.1 h x (List.mem_cons_of_mem _ hx)))
    show leN (r.length + 1) (numV r * 256 + a) = _
    rw [leN_succ, show (numV r * 256 + a) % 256 = a by omega, show (numV r * 256 + a) / 256 = numV r by omega, h2]
theorem leN_numV' (l : List Nat) (bl : byt l = true) (k : Nat) (h : l.length = k) : leN k (numV l) = l := by rw [← h]; exact leN_numV l bl
theorem byt_take {l : List Nat} (b : byt l = true) (n : Nat) : byt (l.take n) = true := byt_iff.2 (fun x hx => byt_iff.1 b x (List.mem_of_mem_take hx))
theorem byt_drop {l : List Nat} (b : byt l = true) (n : Nat) : byt (l.drop n) = true := byt_iff.2 (fun x hx => byt_iff.1 b x (List.mem_of_mem_drop hx))
theorem byt_tail {a : Nat} {r : List Nat} (b : byt (a :: r) = true) : byt r = true := byt_iff.2 (fun x hx => byt_iff.1 b x (List.mem_cons_of_mem _ hx))
theorem byt_app {a b : List Nat} (ha : byt a = true) (hb : byt b = true) : byt (a ++ b) = true := byt_iff.2 (fun x hx => by
  rcases List.mem_append.1 hx with h | h
  · exact byt_iff.1 ha x h
  · exact byt_iff.1 hb x h)
theorem wid_pow' (n k : Nat) (hn : n < 18446744073709551616) (hk : k = 1 ∨ k = 2 ∨ k = 4 ∨ k = 8) : widV n ≤ k ↔ n < 256 ^ k := by
  unfold widV
  rcases hk with rfl | rfl | rfl | rfl
  · show _ ↔ n < 256
    (repeat' split) <;> omega
  · show _ ↔ n < 65536
    (repeat' split) <;> omega
  · show _ ↔ n < 4294967296
    (repeat' split) <;> omega
  · show _ ↔ n < 18446744073709551616
    (repeat' split) <;> omega
end Go.Eng
namespace Go.Eng
open Go
structure EnPen (E : Nat → Option Fn) : Prop where
  fi : EnFix E
  si : EnSize E
  by_ : E k_octet_Pen_Bytes = some f_octet_Pen_Bytes
  rw_ : E k_octet_Pen_Raw = some f_octet_Pen_Raw
  al : E k_octet_Pen_All = some f_octet_Pen_All
end Go.Eng
namespace Go.Eng
open Go
variable {E : Nat → Option Fn} {X : Orc}
set_option linter.unusedSimpArgs false
set_option linter.unusedVariables false
/-! arguments of any shape, as read-only blocks -/
structure LayB (bl : List (Nat × List V)) (lo hi : Nat) : Prop where
  le : lo ≤ hi
  rg : ∀ x ∈ bl, lo ≤ x.1 ∧ x.1 < hi
  nd : (bl.map (·.1)).Nodup
theorem LayB.nil (lo : Nat) : LayB [] lo lo := ⟨Nat.le_refl _, (fun x hx => by cases hx), List.nodup_nil⟩
theorem LayB.app {a b : List (Nat × List V)} {x y z : Nat} (ha : LayB a x y) (hb : LayB b y z) : LayB (a ++ b) x z := by
  refine ⟨Nat.le_trans ha.le hb.le, fun q hq => ?_, ?_⟩
  · rcases List.mem_append.1 hq with h | h
    · exact ⟨(ha.rg q h).1, Nat.lt_of_lt_of_le (ha.rg q h).2 hb.le⟩
    · exact ⟨Nat.le_trans ha.le (hb.rg q h).1, (hb.rg q h).2⟩
  · rw [List.map_append, List.nodup_append]
    refine ⟨ha.nd, hb.nd, fun p hp q hq e => ?_⟩
    obtain ⟨u, hu, rfl⟩ := List.mem_map.1 hp
    obtain ⟨v, hv, rfl⟩ := List.mem_map.1 hq
    have := (ha.rg u hu).2
    have := (hb.rg v hv).1
    omega
theorem LayB.one {b : List (Nat × List V)} {lo hi : Nat} (v : List V) (hb : LayB b (lo + 1) hi) : LayB ((lo, v) :: b) lo hi := by
  have h1 : LayB [(lo, v)] lo (lo + 1) := ⟨by omega, (fun x hx => by rcases List.mem_singleton.1 hx with rfl; exact ⟨Nat.le_refl _, Nat.lt_succ_self _⟩), by simp⟩
  exact h1.app hb
/-- blocks that are there -/
def Has (h : H) (bl : List (Nat × List V)) : Prop := ∀ x ∈ bl, h.get x.1 = some (.cells x.2 .ro) ∧ x.1 < h.next
theorem Has.l {h : H} {a b : List (Nat × List V)} (x : Has h (a ++ b)) : Has h a := fun y hy => x y (List.mem_append_left _ hy)
theorem Has.r {h : H} {a b : List (Nat × List V)} (x : Has h (a ++ b)) : Has h b := fun y hy => x y (List.mem_append_right _ hy)
theorem mkB_skip' : ∀ (bl : List (Nat × List V)) (r : List (Nat × List V)) (i : Nat), (∀ x ∈ bl, x.1 ≠ i) → (mkB (bl ++ r)).get i = (mkB r).get i := by
  intro bl
  induction bl with
  | nil => intro r i _; rfl
  | cons x s ih =>
    intro r i h
    show ((mkB (s ++ r)).set x.1 _).get i = _
    rw [Tr.get_set, if_neg (h x (List.mem_cons_self ..)), ih r i (fun y hy => h y (List.mem_cons_of_mem _ hy))]
theorem has_mk {bl : List (Nat × List V)} {lo nx : Nat} (b : LayB bl lo nx) : Has (mkH bl nx) bl := by
  intro x hx
  refine ⟨?_, (b.rg x hx).2⟩
  obtain ⟨s, t, rfl⟩ := List.append_of_mem hx
  show (mkB (s ++ x :: t)).get x.1 = _
  have nd := b.nd
  rw [List.map_append, List.nodup_append] at nd
  rw [mkB_skip' _ _ _ (fun y hy e => nd.2.2 y.1 (List.mem_map.2 ⟨y, hy, rfl⟩) x.1 (by simp) e)]
  show ((mkB t).set x.1 _).get x.1 = _
  rw [Tr.get_set, if_pos rfl]
/-- a reading: cells, and what is said of them where the blocks are there -/
def Rd (r : Nat → Option Abs) (R : H → List V → Prop) : Prop := ∀ nx, ∃ vs bl n1, r nx = some (vs, bl, n1) ∧ LayB bl nx n1 ∧ ∀ h, Has h bl → R h vs
inductive Al2 {α β : Type} (p : α → β → Prop) : List α → List β → Prop where
  | nil : Al2 p [] []
  | cons {a : α} {b : β} {as : List α} {bs : List β} : p a b → Al2 p as bs → Al2 p (a :: as) (b :: bs)
theorem Al2.len {α β : Type} {p : α → β → Prop} {as : List α} {bs : List β} (h : Al2 p as bs) : as.length = bs.length := by
  induction h with
  | nil => rfl
  | cons _ _ ih => simp [ih]
theorem Al2.imp {α β : Type} {p q : α → β → Prop} {as : List α} {bs : List β} (h : Al2 p as bs) (i : ∀ a b, p a b → q a b) : Al2 q as bs := by
  induction h with
  | nil => exact .nil
  | cons h _ ih => exact .cons (i _ _ h) ih
theorem Al2.get {α β : Type} {p : α → β → Prop} {as : List α} {bs : List β} (h : Al2 p as bs) : ∀ (i : Nat) (a : α), as[i]? = some a → ∃ b, bs[i]? = some b ∧ p a b := by
  induction h with
  | nil => intro i a h; simp at h
  | cons h1 _ ih =>
    intro i a h
    cases i with
    | zero => simp at h; subst h; exact ⟨_, rfl, h1⟩
    | succ i => simp at h; simpa using ih i a h
section
variable {Hh : Type} {enc : TypeId × Value → Hh} {P : Program} {W : World} {spare : Nat → Bool} {held : Bool} {base : Nat}
theorem rd_int (n : Nat) {t : TypeId} {k : IntKind} (hu : P.underlying t = some (.int k)) (x : Int) : Rd (absD (H := Hh) P (n + 1) t (.lit (.int k x))) (fun _ vs => vs = [.int k x]) := fun nx => ⟨_, [], nx, by simp only [absD, hu], .nil _, fun _ _ => rfl⟩
theorem rd_nil (n : Nat) {t e : TypeId} (hu : P.underlying t = some (.slice e)) : Rd (absD (H := Hh) P (n + 1) t .nil) (fun _ vs => vs = [.slice none 0 none (P.cellsOf e)]) := fun nx => ⟨_, [], nx, by simp only [absD, hu], .nil _, fun _ _ => rfl⟩
/-- bytes -/
def BytR (l : List Nat) (h : H) (vs : List V) : Prop := ∃ a, vs = [.slice a l.length none 1] ∧ SrcH h a 1 l
theorem trod_u8s' {t e : TypeId} (ht : P.underlying t = some (.slice e)) (he : P.underlying e = some (.int .u8)) (hc : P.cellsOf e = 1) {f : Nat} {cs : List Value} {x : DataW Hh × List MemPlace} (h : DataW.trod enc P W base spare held f t cs = some x) :
    ∃ l : List Nat, byt l = true ∧ (P.bytesOf e = 1 → ∀ B, (∀ n ∈ x.1.weights P t, n ≤ B) → l.length ≤ B) ∧ ∀ n, Rd (absD P (n + 2) t x.1) (BytR l) := by
  have go : ∀ (ys : List (DataW Hh × List MemPlace)), (∀ y ∈ ys, ∃ (g : Nat) (c : List Value), DataW.trod enc P W base spare held g e c = some y) → ∃ l : List Nat, byt l = true ∧ ys.map (·.1) = l.map (fun (z : Nat) => DataW.lit (.int .u8 (z : Int))) := by
    intro ys
    induction ys with
    | nil => intro _; exact ⟨[], rfl, rfl⟩
    | cons y r ih =>
      intro hy
      obtain ⟨l, b, e1⟩ := ih (fun z hz => hy z (List.mem_cons_of_mem _ hz))
      obtain ⟨g, c, hg⟩ := hy y (List.mem_cons_self ..)
      obtain ⟨n, _, e2, w⟩ := DataW.trod_int he hg
      simp [Lit.wf, IntKind.min, IntKind.max, IntKind.signed, IntKind.bits] at w
      obtain ⟨z, rfl⟩ := Int.eq_ofNat_of_zero_le w.1
      refine ⟨z :: l, ?_, by rw [List.map_cons, List.map_cons, e1, e2]⟩
      rw [byt_iff] at b ⊢
      intro q hq
      rcases List.mem_cons.1 hq with rfl | hq
      · have := w.2; omega
      · exact b q hq
  have lits : ∀ (l : List Nat) (n : Nat), Rd (absL (absD (H := Hh) P (n + 1) e) (l.map (fun (z : Nat) => DataW.lit (.int .u8 (z : Int))))) (fun _ vs => vs = ofI .u8 l) := by
    intro l n
    induction l with
    | nil => intro nx; exact ⟨[], [], nx, rfl, .nil _, fun _ _ => rfl⟩
    | cons y r ih =>
      intro nx
      obtain ⟨vs, bl, n1, e1, l1, k1⟩ := rd_int (Hh := Hh) n he (y : Int) nx
      obtain ⟨vs2, bl2, n2, e2, l2, k2⟩ := ih n1
      refine ⟨vs ++ vs2, bl ++ bl2, n2, by rw [List.map_cons]; simp only [absL, e1, e2], l1.app l2, fun h hh => ?_⟩
      rw [k1 h hh.l, k2 h hh.r]; rfl
  rcases DataW.trod_slice ht h with ⟨_, hx⟩ | ⟨ad, len, cap, elems, rest, n, _, _, hx, _, _, _, hl, hi, _, _⟩
  · refine ⟨[], rfl, (fun _ _ _ => Nat.zero_le _), fun n nx => ?_⟩
    rw [hx]
    obtain ⟨vs, bl, n1, e1, l1, k1⟩ := rd_nil (Hh := Hh) (n + 1) ht nx
    exact ⟨vs, bl, n1, e1, l1, fun h hh => ⟨none, by rw [k1 h hh, hc]; rfl, .inl rfl⟩⟩
  · obtain ⟨l, b, el⟩ := go elems (fun y hy => by
      obtain ⟨i, hi1, hi2⟩ := List.getElem_of_mem hy
      have hi3 : elems[i]? = some y := by rw [List.getElem?_eq_getElem hi1, hi2]
      have h4 := (hi i (by omega)).trans hi3
      simp only [Option.bind_eq_some_iff] at h4
      obtain ⟨cs, _, h5⟩ := h4
      exact ⟨_, _, h5⟩)
    refine ⟨l, b, fun hby B hB => ?_, fun n nx => ?_⟩
    · have ll : (elems.map (·.1)).length = l.length := by rw [el, List.length_map]
      have := hB (((elems.map (·.1)).length + (rest.map (·.1)).length) * P.bytesOf e) (by rw [hx]; simp [DataW.weights, ht])
      rw [hby] at this; omega
    rw [hx]
    show ∃ vs bl n1, absD P (n + 2) t (.slice (elems.map (·.1)) (rest.map (·.1))) nx = _ ∧ _
    obtain ⟨vs, bl, n1, e1, l1, k1⟩ := lits l n (nx + 1)
    have ll : (elems.map (·.1)).length = l.length := by rw [el, List.length_map]
    rw [← el] at e1
    cases hn : (elems.map (·.1)).length + (rest.map (·.1)).length with
    | zero =>
      have h0 : l = [] := List.length_eq_zero_iff.1 (by omega)
      refine ⟨[.slice (some (nx, 0)) 0 none 1], [], n1, ?_, ⟨by have := l1.le; omega, (fun x hx => by cases hx), List.nodup_nil⟩, fun h _ => ⟨some (nx, 0), by rw [h0]; rfl, .inl h0⟩⟩
      rw [absD_slc' (n + 1) ht, e1]
      simp only [hn, hc]
    | succ m =>
      refine ⟨[.slice (some (nx, 0)) (elems.map (·.1)).length none 1], (nx, vs) :: bl, n1, ?_, l1.one vs, fun h hh => ⟨some (nx, 0), by rw [← ll], ?_⟩⟩
      · rw [absD_slc' (n + 1) ht, e1]
        simp only [hn, hc]
      · obtain ⟨g, gl⟩ := hh (nx, vs) (List.mem_cons_self ..)
        have ev := k1 h (fun x hx => hh x (List.mem_cons_of_mem _ hx))
        simp only at g gl
        rw [ev] at g
        exact .inr ⟨nx, 0, _, .ro, rfl, rfl, gl, g, by rw [ofI_len]; omega, by rw [List.drop_zero]; exact List.take_of_length_le (by rw [ofI_len]; exact Nat.le_refl _)⟩
end
/-- cells in pieces of k -/
theorem flat_len {k : Nat} : ∀ {ps : List (List V)}, (∀ p ∈ ps, p.length = k) → ps.flatten.length = ps.length * k := by
  intro ps
  induction ps with
  | nil => intro _; simp
  | cons p r ih => intro h; rw [List.flatten_cons, List.length_append, ih (fun q hq => h q (List.mem_cons_of_mem _ hq)), h p (List.mem_cons_self ..), List.length_cons, Nat.succ_mul]; omega
theorem flat_get {k : Nat} : ∀ {ps : List (List V)}, (∀ p ∈ ps, p.length = k) → ∀ (i : Nat) (p : List V), ps[i]? = some p → (ps.flatten.drop (i * k)).take k = p := by
  intro ps
  induction ps with
  | nil => intro _ i p h; simp at h
  | cons q r ih =>
    intro h i p hp
    have hq := h q (List.mem_cons_self ..)
    cases i with
    | zero => simp at hp; subst hp; rw [Nat.zero_mul, List.drop_zero, List.flatten_cons, List.take_left' hq]
    | succ i =>
      rw [List.flatten_cons, Nat.succ_mul, Nat.add_comm, ← List.drop_drop, List.drop_left' hq]
      exact ih (fun x hx => h x (List.mem_cons_of_mem _ hx)) i p (by simpa using hp)
theorem flat_cell {k : Nat} {ps : List (List V)} (hk : ∀ p ∈ ps, p.length = k) (i : Nat) (p : List V) (hp : ps[i]? = some p) (j : Nat) (hj : j < k) : ps.flatten[i * k + j]? = p[j]? := by
  have := flat_get hk i p hp
  rw [← this, List.getElem?_take_of_lt hj, List.getElem?_drop]
end Go.Eng
namespace Go.Eng
open Go
variable {E : Nat → Option Fn} {X : Orc}
set_option linter.unusedSimpArgs false
set_option linter.unusedVariables false
/-! the document's own answers of layer 1 -/
structure EnRf (E : Nat → Option Fn) : Prop where
  pw : E k_purserref01_power = some f_purserref01_power
  fx : E k_purserref01_Fixed = some f_purserref01_Fixed
  sz : E k_purserref01_Size = some f_purserref01_Size
  by_ : E k_purserref01_Bytes = some f_purserref01_Bytes
  tw : E k_purserref01_Twin = some f_purserref01_Twin
structure NoRf (X : Orc) : Prop where
  pw : ∀ a h, X (.fn k_purserref01_power) a h = none
  fx : ∀ a h, X (.fn k_purserref01_Fixed) a h = none
  sz : ∀ a h, X (.fn k_purserref01_Size) a h = none
  by_ : ∀ a h, X (.fn k_purserref01_Bytes) a h = none
  tw : ∀ a h, X (.fn k_purserref01_Twin) a h = none
theorem pow256 (k : Nat) : 256 ^ k = 2 ^ (8 * k) := by rw [Nat.pow_mul]
structure PwI (n : Nat) (h0 : H) (i : Nat) (T : Tr V) (h : H) : Prop where
  il : i ≤ n
  t0 : evO T (.t 0) = .int .i64 (n : Int)
  t3 : evO T (.t 3) = .int .u64 ((256 ^ i : Nat) : Int)
  t4 : evO T (.t 4) = .int .i64 (i : Int)
  hh : h = h0
theorem power_go (e : E k_purserref01_power = some f_purserref01_power) (x : ∀ a h, X (.fn k_purserref01_power) a h = none) (N n : Nat) (hn : n ≤ 7) (h : H) : callX E X (N + 10) (.fn k_purserref01_power) [.int .i64 (n : Int)] h = some (.int .u64 ((256 ^ n : Nat) : Int), h) := by
  rw [x_cfn e _ _ (Nat.le_of_ble_eq_true rfl) (x _ _)]
  have fin : ∀ T, PwI n h 0 T h → fnEnd [.tmp 2] (bindE (blockE 0 (loopN (evC (callX E X (N + 9)) 13 (N + 9) none L_purserref01_power_0) (N + 9) ⟨T, [], h⟩)) (evC (callX E X (N + 9)) 13 (N + 9) none R_purserref01_power_0)) = some (.int .u64 ((256 ^ n : Nat) : Int), h) := by
    intro T I
    obtain ⟨T', h', r, t3, hh⟩ := loop_go (f := evC (callX E X (N + 9)) 13 (N + 9) none L_purserref01_power_0) (PwI n h) n (.exit 0) (by intro h; cases h) (fun T h' => evO T (.t 3) = .int .u64 ((256 ^ n : Nat) : Int) ∧ h' = h) (fun i T h' hi I => by
      obtain ⟨_, t0, t3, t4, hh⟩ := I
      have c0 : decide ((i : Int) < (n : Int)) = true := decide_eq_true (by omega)
      have wi : wr .i64 ((i : Int) + 1) = ((i + 1 : Nat) : Int) := by rw [wr_i64 (by omega)]; omega
      have pl : 256 ^ (i + 1) ≤ 256 ^ 7 := Nat.pow_le_pow_right (by omega) (by omega)
      have ps : 256 ^ (i + 1) = 256 ^ i * 256 := Nat.pow_succ ..
      have pl2 : 256 ^ (i + 1) ≤ 72057594037927936 := pl
      clear pl
      have i1 : i + 1 ≤ n := hi
      obtain ⟨p', ep'⟩ : ∃ p', 256 ^ (i + 1) = p' := ⟨_, rfl⟩
      obtain ⟨p, ep⟩ : ∃ p, 256 ^ i = p := ⟨_, rfl⟩
      rw [ep'] at ps pl2
      rw [ep] at ps t3
      have w1 : wr .u64 ((p : Int) * 256) = (p' : Int) := by rw [show (p : Int) * 256 = ((p' : Nat) : Int) by omega]; exact u64n _ (by omega)
      refine ⟨_, h', by
        simp (config := {maxSteps := 2000000}) (disch := first | omega | (simp only [List.length_cons, List.length_nil, List.length_append, List.length_drop]; omega)) only [L_purserref01_power_0, t0, t3, t4, c0, wi, w1, ↓b_xor32, ↓b_and32, ↓b_or32, ↓u_not32, b_xor32, b_and32, b_or32, u_not32, w32ad, ↓x_conv, x_convV, ↓x_fieldAddr, x_fieldV, ↓s_nilchk, x_nilchk, Nat.zero_add, Nat.add_zero, Nat.mul_one, ↓l_loop, ↓l_succ, ↓l_normal, l_normal, l_exit, l_ret, l_iteN, ↓h_put_get, ↓h_new_get, ↓h_del_get, h_next_put, h_next_new, h_next_del, Nat.add_assoc, Nat.add_eq_left, Nat.left_eq_add, Nat.add_left_cancel_iff, ↓s_load, m_load, ↓m_load1, m_load1, ↓m_st, m_stE, m_storeI, m_storeE, w_zero, w_succ, ↓s_alloc, ↓x_idxA, ↓x_idxS, x_idxAE, x_idxSE, x_addrE, x_idx, x_lenS, ↓s_len, ↓x_buildS, x_buildE, ↓x_P0, ↓x_P1, x_fill0, x_filli, x_fills, x_fillb, c_int, List.length_cons, List.length_nil, List.cons_append, List.drop_succ_cons, List.drop_zero, List.drop_nil, List.nil_append, Int.reduceAdd, Int.reduceToNat, Int.reduceLT, Int.reduceLE, Nat.reduceAdd, Nat.reduceMul, Nat.reduceLeDiff, Int.reduceEq, Int.reduceSub, Int.cast_ofNat_Int, s_resc, s_consR, m_load4, m_store4, s_res0, ↓s_skip, ↓s_ops, ↓s_dops, ↓s_seq, ↓s_cond, ↓s_block, ↓s_exit, ↓s_ret, ↓s_scope, ↓s_nil, ↓s_op, ↓s_opg, ↓s_wanted', ↓s_wantV, s_wantV, s_wantV0, beq_true, beq_false, ↓s_bindS, s_bindS, ↓s_bindE, s_bindE, s_bindE_ret, s_bindE_exit, s_bindE_iteN, s_norm, ↓s_condV, s_condV, s_block_ret, s_block_normal, s_block_exit, s_block_iteN, ↓s_getp, ↓s_getp0, ↓s_get, s_get0, ↓s_con, ↓s_fn, ↓s_os0, ↓s_os1, ↓s_list0, ↓s_list1, ↓s_mov, ↓s_pick, ↓s_pickE, s_pickE, ↓s_bin, ↓s_un, ↓s_minmax, ↓s_call, ↓s_callv, ↓s_callV, ↓s_ext, s_same, b_eql, b_neq, b_lss, b_leq, b_gtr, b_geq, b_add, b_sub, b_mul, b_eqlb, b_neqb, b_fnil, b_fnil', b_fnil2, b_fnil2', u_neg, u_not, m_two, s_end, s_end', s_end_iteN, s_res0, s_res1, s_tup1, s_tup2, ↓iteN_true, ↓iteN_false, iteN_true, iteN_false, Nat.zero_add, List.nil_append, List.append_nil, Nat.reduceEqDiff, reduceIte, decide_true, decide_false, Bool.not_true, Bool.not_false, List.getElem?_cons_zero, List.getElem?_cons_succ, Bool.false_eq_true, if_true, if_false, beq_self_eq_true]
        exact rfl, ⟨i1, (by (simp only [s_getp, s_getp0, Nat.reduceEqDiff, decide_false, decide_true, iteN_false, iteN_true, t0]; try rfl)), by rw [ep']; exact (by (simp only [s_getp, s_getp0, Nat.reduceEqDiff, decide_false, decide_true, iteN_false, iteN_true, t3]; try rfl)), (by (simp only [s_getp, s_getp0, Nat.reduceEqDiff, decide_false, decide_true, iteN_false, iteN_true, t4]; try rfl)), hh⟩⟩) (fun T h' I => by
      obtain ⟨il, t0, t3, t4, hh⟩ := I
      have c0 : decide ((n : Int) < (n : Int)) = false := decide_eq_false (by omega)
      refine ⟨_, _, by
        simp (config := {maxSteps := 2000000}) (disch := first | omega | (simp only [List.length_cons, List.length_nil, List.length_append, List.length_drop]; omega)) only [L_purserref01_power_0, t0, t4, c0, ↓b_xor32, ↓b_and32, ↓b_or32, ↓u_not32, b_xor32, b_and32, b_or32, u_not32, w32ad, ↓x_conv, x_convV, ↓x_fieldAddr, x_fieldV, ↓s_nilchk, x_nilchk, Nat.zero_add, Nat.add_zero, Nat.mul_one, ↓l_loop, ↓l_succ, ↓l_normal, l_normal, l_exit, l_ret, l_iteN, ↓h_put_get, ↓h_new_get, ↓h_del_get, h_next_put, h_next_new, h_next_del, Nat.add_assoc, Nat.add_eq_left, Nat.left_eq_add, Nat.add_left_cancel_iff, ↓s_load, m_load, ↓m_load1, m_load1, ↓m_st, m_stE, m_storeI, m_storeE, w_zero, w_succ, ↓s_alloc, ↓x_idxA, ↓x_idxS, x_idxAE, x_idxSE, x_addrE, x_idx, x_lenS, ↓s_len, ↓x_buildS, x_buildE, ↓x_P0, ↓x_P1, x_fill0, x_filli, x_fills, x_fillb, c_int, List.length_cons, List.length_nil, List.cons_append, List.drop_succ_cons, List.drop_zero, List.drop_nil, List.nil_append, Int.reduceAdd, Int.reduceToNat, Int.reduceLT, Int.reduceLE, Nat.reduceAdd, Nat.reduceMul, Nat.reduceLeDiff, Int.reduceEq, Int.reduceSub, Int.cast_ofNat_Int, s_resc, s_consR, m_load4, m_store4, s_res0, ↓s_skip, ↓s_ops, ↓s_dops, ↓s_seq, ↓s_cond, ↓s_block, ↓s_exit, ↓s_ret, ↓s_scope, ↓s_nil, ↓s_op, ↓s_opg, ↓s_wanted', ↓s_wantV, s_wantV, s_wantV0, beq_true, beq_false, ↓s_bindS, s_bindS, ↓s_bindE, s_bindE, s_bindE_ret, s_bindE_exit, s_bindE_iteN, s_norm, ↓s_condV, s_condV, s_block_ret, s_block_normal, s_block_exit, s_block_iteN, ↓s_getp, ↓s_getp0, ↓s_get, s_get0, ↓s_con, ↓s_fn, ↓s_os0, ↓s_os1, ↓s_list0, ↓s_list1, ↓s_mov, ↓s_pick, ↓s_pickE, s_pickE, ↓s_bin, ↓s_un, ↓s_minmax, ↓s_call, ↓s_callv, ↓s_callV, ↓s_ext, s_same, b_eql, b_neq, b_lss, b_leq, b_gtr, b_geq, b_add, b_sub, b_mul, b_eqlb, b_neqb, b_fnil, b_fnil', b_fnil2, b_fnil2', u_neg, u_not, m_two, s_end, s_end', s_end_iteN, s_res0, s_res1, s_tup1, s_tup2, ↓iteN_true, ↓iteN_false, iteN_true, iteN_false, Nat.zero_add, List.nil_append, List.append_nil, Nat.reduceEqDiff, reduceIte, decide_true, decide_false, Bool.not_true, Bool.not_false, List.getElem?_cons_zero, List.getElem?_cons_succ, Bool.false_eq_true, if_true, if_false, beq_self_eq_true]
        exact rfl, (by (simp only [s_getp, s_getp0, Nat.reduceEqDiff, decide_false, decide_true, iteN_false, iteN_true, t3]; try rfl)), hh⟩) n 0 (by omega) (N + 9) (by omega) T h I
    rw [r, hh]
    generalize 256 ^ n = p at *
    simp (config := {maxSteps := 2000000}) (disch := first | omega | (simp only [List.length_cons, List.length_nil, List.length_append, List.length_drop]; omega)) only [R_purserref01_power_0, t3, ↓b_xor32, ↓b_and32, ↓b_or32, ↓u_not32, b_xor32, b_and32, b_or32, u_not32, w32ad, ↓x_conv, x_convV, ↓x_fieldAddr, x_fieldV, ↓s_nilchk, x_nilchk, Nat.zero_add, Nat.add_zero, Nat.mul_one, ↓l_loop, ↓l_succ, ↓l_normal, l_normal, l_exit, l_ret, l_iteN, ↓h_put_get, ↓h_new_get, ↓h_del_get, h_next_put, h_next_new, h_next_del, Nat.add_assoc, Nat.add_eq_left, Nat.left_eq_add, Nat.add_left_cancel_iff, ↓s_load, m_load, ↓m_load1, m_load1, ↓m_st, m_stE, m_storeI, m_storeE, w_zero, w_succ, ↓s_alloc, ↓x_idxA, ↓x_idxS, x_idxAE, x_idxSE, x_addrE, x_idx, x_lenS, ↓s_len, ↓x_buildS, x_buildE, ↓x_P0, ↓x_P1, x_fill0, x_filli, x_fills, x_fillb, c_int, List.length_cons, List.length_nil, List.cons_append, List.drop_succ_cons, List.drop_zero, List.drop_nil, List.nil_append, Int.reduceAdd, Int.reduceToNat, Int.reduceLT, Int.reduceLE, Nat.reduceAdd, Nat.reduceMul, Nat.reduceLeDiff, Int.reduceEq, Int.reduceSub, Int.cast_ofNat_Int, s_resc, s_consR, m_load4, m_store4, s_res0, ↓s_skip, ↓s_ops, ↓s_dops, ↓s_seq, ↓s_cond, ↓s_block, ↓s_exit, ↓s_ret, ↓s_scope, ↓s_nil, ↓s_op, ↓s_opg, ↓s_wanted', ↓s_wantV, s_wantV, s_wantV0, beq_true, beq_false, ↓s_bindS, s_bindS, ↓s_bindE, s_bindE, s_bindE_ret, s_bindE_exit, s_bindE_iteN, s_norm, ↓s_condV, s_condV, s_block_ret, s_block_normal, s_block_exit, s_block_iteN, ↓s_getp, ↓s_getp0, ↓s_get, s_get0, ↓s_con, ↓s_fn, ↓s_os0, ↓s_os1, ↓s_list0, ↓s_list1, ↓s_mov, ↓s_pick, ↓s_pickE, s_pickE, ↓s_bin, ↓s_un, ↓s_minmax, ↓s_call, ↓s_callv, ↓s_callV, ↓s_ext, s_same, b_eql, b_neq, b_lss, b_leq, b_gtr, b_geq, b_add, b_sub, b_mul, b_eqlb, b_neqb, b_fnil, b_fnil', b_fnil2, b_fnil2', u_neg, u_not, m_two, s_end, s_end', s_end_iteN, s_res0, s_res1, s_tup1, s_tup2, ↓iteN_true, ↓iteN_false, iteN_true, iteN_false, Nat.zero_add, List.nil_append, List.append_nil, Nat.reduceEqDiff, reduceIte, decide_true, decide_false, Bool.not_true, Bool.not_false, List.getElem?_cons_zero, List.getElem?_cons_succ, Bool.false_eq_true, if_true, if_false, beq_self_eq_true]
  obtain ⟨R, eR⟩ : ∃ R, R_purserref01_power_0 = R := ⟨_, rfl⟩
  obtain ⟨Lo, eL⟩ : ∃ R, L_purserref01_power_0 = R := ⟨_, rfl⟩
  rw [eR, eL] at fin ⊢
  generalize e256 : 256 ^ n = p at *
  simp (config := {maxSteps := 2000000}) (disch := first | omega | (simp only [List.length_cons, List.length_nil, List.length_append, List.length_drop]; omega)) only [↓b_xor32, ↓b_and32, ↓b_or32, ↓u_not32, b_xor32, b_and32, b_or32, u_not32, w32ad, ↓x_conv, x_convV, ↓x_fieldAddr, x_fieldV, ↓s_nilchk, x_nilchk, Nat.zero_add, Nat.add_zero, Nat.mul_one, ↓l_loop, ↓l_succ, ↓l_normal, l_normal, l_exit, l_ret, l_iteN, ↓h_put_get, ↓h_new_get, ↓h_del_get, h_next_put, h_next_new, h_next_del, Nat.add_assoc, Nat.add_eq_left, Nat.left_eq_add, Nat.add_left_cancel_iff, ↓s_load, m_load, ↓m_load1, m_load1, ↓m_st, m_stE, m_storeI, m_storeE, w_zero, w_succ, ↓s_alloc, ↓x_idxA, ↓x_idxS, x_idxAE, x_idxSE, x_addrE, x_idx, x_lenS, ↓s_len, ↓x_buildS, x_buildE, ↓x_P0, ↓x_P1, x_fill0, x_filli, x_fills, x_fillb, c_int, List.length_cons, List.length_nil, List.cons_append, List.drop_succ_cons, List.drop_zero, List.drop_nil, List.nil_append, Int.reduceAdd, Int.reduceToNat, Int.reduceLT, Int.reduceLE, Nat.reduceAdd, Nat.reduceMul, Nat.reduceLeDiff, Int.reduceEq, Int.reduceSub, Int.cast_ofNat_Int, s_resc, s_consR, m_load4, m_store4, s_res0, ↓s_skip, ↓s_ops, ↓s_dops, ↓s_seq, ↓s_cond, ↓s_block, ↓s_exit, ↓s_ret, ↓s_scope, ↓s_nil, ↓s_op, ↓s_opg, ↓s_wanted', ↓s_wantV, s_wantV, s_wantV0, beq_true, beq_false, ↓s_bindS, s_bindS, ↓s_bindE, s_bindE, s_bindE_ret, s_bindE_exit, s_bindE_iteN, s_norm, ↓s_condV, s_condV, s_block_ret, s_block_normal, s_block_exit, s_block_iteN, ↓s_getp, ↓s_getp0, ↓s_get, s_get0, ↓s_con, ↓s_fn, ↓s_os0, ↓s_os1, ↓s_list0, ↓s_list1, ↓s_mov, ↓s_pick, ↓s_pickE, s_pickE, ↓s_bin, ↓s_un, ↓s_minmax, ↓s_call, ↓s_callv, ↓s_callV, ↓s_ext, s_same, b_eql, b_neq, b_lss, b_leq, b_gtr, b_geq, b_add, b_sub, b_mul, b_eqlb, b_neqb, b_fnil, b_fnil', b_fnil2, b_fnil2', u_neg, u_not, m_two, s_end, s_end', s_end_iteN, s_res0, s_res1, s_tup1, s_tup2, ↓iteN_true, ↓iteN_false, iteN_true, iteN_false, Nat.zero_add, List.nil_append, List.append_nil, Nat.reduceEqDiff, reduceIte, decide_true, decide_false, Bool.not_true, Bool.not_false, List.getElem?_cons_zero, List.getElem?_cons_succ, Bool.false_eq_true, if_true, if_false, beq_self_eq_true]
  exact fin _ ⟨by omega, (by (simp only [s_getp, s_getp0, Nat.reduceEqDiff, decide_false, decide_true, iteN_false, iteN_true, eL]; try rfl)), by rw [Nat.pow_zero]; exact (by (simp only [s_getp, s_getp0, Nat.reduceEqDiff, decide_false, decide_true, iteN_false, iteN_true, eL]; try rfl)), (by (simp only [s_getp, s_getp0, Nat.reduceEqDiff, decide_false, decide_true, iteN_false, iteN_true, eL]; try rfl)), rfl⟩
theorem leN_snoc (i n : Nat) : leN (i + 1) n = leN i n ++ [n / 2 ^ (8 * i) % 256] := by
  unfold leN
  rw [List.range_succ, List.map_append]; rfl
structure RFI (k n : Nat) (h0 : H) (i : Nat) (T : Tr V) (h : H) : Prop where
  il : i ≤ k
  t0 : evO T (.t 0) = .int .i64 (k : Int)
  t1 : evO T (.t 1) = .int .u64 (n : Int)
  t7 : evO T (.t 7) = .int .i64 (i : Int)
  st : ∃ a c e, evO T (.t 6) = .slice a i c e ∧ Nw h0 h (leN i n) a c e
theorem quoU (n p : Nat) (hp : 0 < p) (hn : n < 18446744073709551616) (e : EqK) (h : H) : binV .quo e h (.int .u64 (n : Int)) (.int .u64 (p : Int)) = some (.int .u64 ((n / p : Nat) : Int)) := by
  rw [b_quo _ _ _ _ _ (by omega), show Int.tdiv (n : Int) (p : Int) = ((n / p : Nat) : Int) from rfl, u64n _ (Nat.lt_of_le_of_lt (Nat.div_le_self _ _) hn)]
theorem remU (n : Nat) (e : EqK) (h : H) : binV .rem e h (.int .u64 (n : Int)) (.int .u64 256) = some (.int .u64 ((n % 256 : Nat) : Int)) := by
  rw [b_rem _ _ _ _ _ (by omega)]; rfl
theorem rf_step (e : EnRf E) (x : NoRf X) (N m k n : Nat) (hk : k ≤ 8) (hn : n < 18446744073709551616) (h0 : H) : ∀ i T h, i < k → RFI k n h0 i T h → ∃ T' h', evC (callX E X (N + 10)) 45 m none L_purserref01_Fixed_0 ⟨T, [], h⟩ = some (.normal, ⟨T', [], h'⟩) ∧ RFI k n h0 (i + 1) T' h' := by
  intro i T h hi ⟨_, t0, t1, t7, ⟨a, c, ez, t6, nw⟩⟩
  have c0 : decide ((i : Int) < (k : Int)) = true := decide_eq_true (by omega)
  have wi : wr .i64 ((i : Int) + 1) = ((i + 1 : Nat) : Int) := by rw [wr_i64 (by omega)]; omega
  have r1 := power_go e.pw x.pw N i (by omega) h
  have q1 := fun ee hh => quoU n (256 ^ i) (Nat.pow_pos (by omega)) hn ee hh
  have ls := leN_snoc i n
  rw [← pow256] at ls
  have i1 : i + 1 ≤ k := hi
  generalize 256 ^ i = p at *
  have q2 := fun ee hh => remU (n / p) ee hh
  have bl : n / p % 256 < 256 := Nat.mod_lt _ (by decide)
  generalize n / p = d at *
  generalize d % 256 = b at *
  have w8 : wr .u8 (b : Int) = (b : Int) := by rw [w8n, Nat.mod_eq_of_lt bl]
  obtain ⟨h1, e1⟩ : ∃ h1, h.new (.cells [.int .u8 (b : Int)] .rw) = h1 := ⟨_, rfl⟩
  have k1 : Kp h h1 := by rw [← e1]; exact Kp.new _ _
  have n1 : h1.next = h.next + 1 := by rw [← e1]; rfl
  have sc : srcCells h1 1 (.slice (some (h.next, 0)) 1 (some 1) 1) = some (1, ofI .u8 [b]) := by rw [← e1, m_src, h_new_same]; rfl
  have wb1 := nw.wb.kp k1
  have l0 := leN_len i n
  obtain ⟨a', c', e', h2, ap, wb2, n2, f2, ow⟩ := ap_wb h1 (leN i n) [b] a c ez wb1 (by rw [l0]; show i + 1 ≤ _; omega)
  rw [← ls, leN_len, leN_len] at ap
  rw [← ls] at wb2
  have nw2 : Nw h0 h2 (leN (i + 1) n) a' c' e' := by
    have kk := nw.kp
    refine ⟨⟨by have := kk.1; omega, fun j hj => ?_⟩, wb2, fun q o ea => ?_⟩
    · have := kk.1
      rw [f2 j (by omega) (fun ea => by have := nw.ge _ _ ea; omega), k1.2 _ (by omega), kk.2 _ hj]
    · rcases ow with ow | ow
      · rw [ow] at ea; exact nw.ge _ _ ea
      · rw [ow] at ea; cases ea; have := kk.1; omega
  replace ap : appendC h1 1 1 (.slice a i c ez) (some (1, ofI .u8 [b])) = some (.slice a' (i + 1) c' e', h2) := ap
  obtain ⟨C, eC⟩ : ∃ C, ofI .u8 [b] = C := ⟨_, rfl⟩
  rw [eC] at sc ap
  refine ⟨_, h2, by
    simp (config := {maxSteps := 2000000}) (disch := first | omega | (simp only [List.length_cons, List.length_nil, List.length_append, List.length_drop]; omega)) only [L_purserref01_Fixed_0, t0, t1, t6, t7, r1, q1, q2, w8, e1, sc, ap, c0, wi, ↓s_append, ↓b_xor32, ↓b_and32, ↓b_or32, ↓u_not32, b_xor32, b_and32, b_or32, u_not32, w32ad, ↓x_conv, x_convV, ↓x_fieldAddr, x_fieldV, ↓s_nilchk, x_nilchk, Nat.zero_add, Nat.add_zero, Nat.mul_one, ↓l_loop, ↓l_succ, ↓l_normal, l_normal, l_exit, l_ret, l_iteN, ↓h_put_get, ↓h_new_get, ↓h_del_get, h_next_put, h_next_new, h_next_del, Nat.add_assoc, Nat.add_eq_left, Nat.left_eq_add, Nat.add_left_cancel_iff, ↓s_load, m_load, ↓m_load1, m_load1, ↓m_st, m_stE, m_storeI, m_storeE, w_zero, w_succ, ↓s_alloc, ↓x_idxA, ↓x_idxS, x_idxAE, x_idxSE, x_addrE, x_idx, x_lenS, ↓s_len, ↓x_buildS, x_buildE, ↓x_P0, ↓x_P1, x_fill0, x_filli, x_fills, x_fillb, c_int, List.length_cons, List.length_nil, List.cons_append, List.drop_succ_cons, List.drop_zero, List.drop_nil, List.nil_append, Int.reduceAdd, Int.reduceToNat, Int.reduceLT, Int.reduceLE, Nat.reduceAdd, Nat.reduceMul, Nat.reduceLeDiff, Int.reduceEq, Int.reduceSub, Int.cast_ofNat_Int, s_resc, s_consR, m_load4, m_store4, s_res0, ↓s_skip, ↓s_ops, ↓s_dops, ↓s_seq, ↓s_cond, ↓s_block, ↓s_exit, ↓s_ret, ↓s_scope, ↓s_nil, ↓s_op, ↓s_opg, ↓s_wanted', ↓s_wantV, s_wantV, s_wantV0, beq_true, beq_false, ↓s_bindS, s_bindS, ↓s_bindE, s_bindE, s_bindE_ret, s_bindE_exit, s_bindE_iteN, s_norm, ↓s_condV, s_condV, s_block_ret, s_block_normal, s_block_exit, s_block_iteN, ↓s_getp, ↓s_getp0, ↓s_get, s_get0, ↓s_con, ↓s_fn, ↓s_os0, ↓s_os1, ↓s_list0, ↓s_list1, ↓s_mov, ↓s_pick, ↓s_pickE, s_pickE, ↓s_bin, ↓s_un, ↓s_minmax, ↓s_call, ↓s_callv, ↓s_callV, ↓s_ext, s_same, b_eql, b_neq, b_lss, b_leq, b_gtr, b_geq, b_add, b_sub, b_mul, b_eqlb, b_neqb, b_fnil, b_fnil', b_fnil2, b_fnil2', u_neg, u_not, m_two, s_end, s_end', s_end_iteN, s_res0, s_res1, s_tup1, s_tup2, ↓iteN_true, ↓iteN_false, iteN_true, iteN_false, Nat.zero_add, List.nil_append, List.append_nil, Nat.reduceEqDiff, reduceIte, decide_true, decide_false, Bool.not_true, Bool.not_false, List.getElem?_cons_zero, List.getElem?_cons_succ, Bool.false_eq_true, if_true, if_false, beq_self_eq_true]
    exact rfl, ⟨i1, (by (simp only [s_getp, s_getp0, Nat.reduceEqDiff, decide_false, decide_true, iteN_false, iteN_true, t0]; try rfl)), (by (simp only [s_getp, s_getp0, Nat.reduceEqDiff, decide_false, decide_true, iteN_false, iteN_true, t1]; try rfl)), (by (simp only [s_getp, s_getp0, Nat.reduceEqDiff, decide_false, decide_true, iteN_false, iteN_true, t7]; try rfl)), ⟨a', c', e', (by (simp only [s_getp, s_getp0, Nat.reduceEqDiff, decide_false, decide_true, iteN_false, iteN_true, t6]; try rfl)), nw2⟩⟩⟩
theorem rfixed_go (e : EnRf E) (x : NoRf X) (N : Nat) (s : Int) (n : Nat) (hn : n < 18446744073709551616) (h : H) :
    ∃ h' a c ez, callX E X (N + 20) (.fn k_purserref01_Fixed) [.int .i64 s, .int .u64 (n : Int)] h = some (.tup [.slice a (fixB s n).length c ez, .int .i64 (fixE s n : Nat)], h') ∧ Nw h h' (fixB s n) a c ez := by
  rw [x_cfn e.fx _ _ (Nat.le_of_ble_eq_true rfl) (x.fx _ _)]
  cases hs : sizedI s with
  | false =>
    have e2 : fixE s n = 2 := by unfold fixE; rw [hs, if_neg (by simp)]
    have e3 : fixB s n = [] := by unfold fixB; rw [e2, if_neg (by omega)]
    rw [e2, e3]
    unfold sizedI at hs
    simp only [Bool.or_eq_false_iff] at hs
    obtain ⟨q1, q2, q4, q8⟩ := hs
    refine ⟨h, none, some 0, 0, ?_, ⟨Kp.refl _, .nil _, fun _ _ e => by cases e⟩⟩
    rw [List.length_nil]
    simp (config := {maxSteps := 2000000}) (disch := first | omega | (simp only [List.length_cons, List.length_nil, List.length_append, List.length_drop]; omega)) only [q1, q2, q4, q8, ↓b_xor32, ↓b_and32, ↓b_or32, ↓u_not32, b_xor32, b_and32, b_or32, u_not32, w32ad, ↓x_conv, x_convV, ↓x_fieldAddr, x_fieldV, ↓s_nilchk, x_nilchk, Nat.zero_add, Nat.add_zero, Nat.mul_one, ↓l_loop, ↓l_succ, ↓l_normal, l_normal, l_exit, l_ret, l_iteN, ↓h_put_get, ↓h_new_get, ↓h_del_get, h_next_put, h_next_new, h_next_del, Nat.add_assoc, Nat.add_eq_left, Nat.left_eq_add, Nat.add_left_cancel_iff, ↓s_load, m_load, ↓m_load1, m_load1, ↓m_st, m_stE, m_storeI, m_storeE, w_zero, w_succ, ↓s_alloc, ↓x_idxA, ↓x_idxS, x_idxAE, x_idxSE, x_addrE, x_idx, x_lenS, ↓s_len, ↓x_buildS, x_buildE, ↓x_P0, ↓x_P1, x_fill0, x_filli, x_fills, x_fillb, c_int, List.length_cons, List.length_nil, List.cons_append, List.drop_succ_cons, List.drop_zero, List.drop_nil, List.nil_append, Int.reduceAdd, Int.reduceToNat, Int.reduceLT, Int.reduceLE, Nat.reduceAdd, Nat.reduceMul, Nat.reduceLeDiff, Int.reduceEq, Int.reduceSub, Int.cast_ofNat_Int, s_resc, s_consR, m_load4, m_store4, s_res0, ↓s_skip, ↓s_ops, ↓s_dops, ↓s_seq, ↓s_cond, ↓s_block, ↓s_exit, ↓s_ret, ↓s_scope, ↓s_nil, ↓s_op, ↓s_opg, ↓s_wanted', ↓s_wantV, s_wantV, s_wantV0, beq_true, beq_false, ↓s_bindS, s_bindS, ↓s_bindE, s_bindE, s_bindE_ret, s_bindE_exit, s_bindE_iteN, s_norm, ↓s_condV, s_condV, s_block_ret, s_block_normal, s_block_exit, s_block_iteN, ↓s_getp, ↓s_getp0, ↓s_get, s_get0, ↓s_con, ↓s_fn, ↓s_os0, ↓s_os1, ↓s_list0, ↓s_list1, ↓s_mov, ↓s_pick, ↓s_pickE, s_pickE, ↓s_bin, ↓s_un, ↓s_minmax, ↓s_call, ↓s_callv, ↓s_callV, ↓s_ext, s_same, b_eql, b_neq, b_lss, b_leq, b_gtr, b_geq, b_add, b_sub, b_mul, b_eqlb, b_neqb, b_fnil, b_fnil', b_fnil2, b_fnil2', u_neg, u_not, m_two, s_end, s_end', s_end_iteN, s_res0, s_res1, s_tup1, s_tup2, ↓iteN_true, ↓iteN_false, iteN_true, iteN_false, Nat.zero_add, List.nil_append, List.append_nil, Nat.reduceEqDiff, reduceIte, decide_true, decide_false, Bool.not_true, Bool.not_false, List.getElem?_cons_zero, List.getElem?_cons_succ, Bool.false_eq_true, if_true, if_false, beq_self_eq_true]
  | true =>
    obtain ⟨k, rfl, k0, k8, kk⟩ := sizedI_nat hs
    have wp := wid_pow' n k hn kk
    have fin : n < 256 ^ k → ∀ T, RFI k n h 0 T h → ∃ h' a c ez, fnEnd [.tmp 4, .tmp 5] (bindE (blockE 0 (loopN (evC (callX E X (N + 19)) 45 (N + 19) none L_purserref01_Fixed_0) (N + 19) ⟨T, [], h⟩)) (evC (callX E X (N + 19)) 45 (N + 19) none R_purserref01_Fixed_0)) = some (.tup [.slice a (fixB k n).length c ez, .int .i64 (fixE k n : Nat)], h') ∧ Nw h h' (fixB k n) a c ez := by
      intro hlt T I
      have e2 : fixE k n = 0 := by unfold fixE; rw [hs, if_pos rfl, if_pos (by have := wp.2 hlt; omega)]
      have e3 : fixB k n = leN k n := by unfold fixB; rw [e2, if_pos rfl, Int.toNat_natCast]
      obtain ⟨T', h', r, a, c, ez, t6, nw⟩ := loop_go (f := evC (callX E X (N + 19)) 45 (N + 19) none L_purserref01_Fixed_0) (RFI k n h) k (.exit 0) (by intro h; cases h) (fun T h' => ∃ a c e, evO T (.t 6) = .slice a k c e ∧ Nw h h' (leN k n) a c e) (rf_step e x (N + 9) (N + 19) k n k8 hn h) (fun T h' I => by
        obtain ⟨il, t0, t1, t7, ⟨a, c, ez, t6, nw⟩⟩ := I
        have c0 : decide ((k : Int) < (k : Int)) = false := decide_eq_false (by omega)
        refine ⟨_, _, by
          simp (config := {maxSteps := 2000000}) (disch := first | omega | (simp only [List.length_cons, List.length_nil, List.length_append, List.length_drop]; omega)) only [L_purserref01_Fixed_0, t0, t7, c0, ↓b_xor32, ↓b_and32, ↓b_or32, ↓u_not32, b_xor32, b_and32, b_or32, u_not32, w32ad, ↓x_conv, x_convV, ↓x_fieldAddr, x_fieldV, ↓s_nilchk, x_nilchk, Nat.zero_add, Nat.add_zero, Nat.mul_one, ↓l_loop, ↓l_succ, ↓l_normal, l_normal, l_exit, l_ret, l_iteN, ↓h_put_get, ↓h_new_get, ↓h_del_get, h_next_put, h_next_new, h_next_del, Nat.add_assoc, Nat.add_eq_left, Nat.left_eq_add, Nat.add_left_cancel_iff, ↓s_load, m_load, ↓m_load1, m_load1, ↓m_st, m_stE, m_storeI, m_storeE, w_zero, w_succ, ↓s_alloc, ↓x_idxA, ↓x_idxS, x_idxAE, x_idxSE, x_addrE, x_idx, x_lenS, ↓s_len, ↓x_buildS, x_buildE, ↓x_P0, ↓x_P1, x_fill0, x_filli, x_fills, x_fillb, c_int, List.length_cons, List.length_nil, List.cons_append, List.drop_succ_cons, List.drop_zero, List.drop_nil, List.nil_append, Int.reduceAdd, Int.reduceToNat, Int.reduceLT, Int.reduceLE, Nat.reduceAdd, Nat.reduceMul, Nat.reduceLeDiff, Int.reduceEq, Int.reduceSub, Int.cast_ofNat_Int, s_resc, s_consR, m_load4, m_store4, s_res0, ↓s_skip, ↓s_ops, ↓s_dops, ↓s_seq, ↓s_cond, ↓s_block, ↓s_exit, ↓s_ret, ↓s_scope, ↓s_nil, ↓s_op, ↓s_opg, ↓s_wanted', ↓s_wantV, s_wantV, s_wantV0, beq_true, beq_false, ↓s_bindS, s_bindS, ↓s_bindE, s_bindE, s_bindE_ret, s_bindE_exit, s_bindE_iteN, s_norm, ↓s_condV, s_condV, s_block_ret, s_block_normal, s_block_exit, s_block_iteN, ↓s_getp, ↓s_getp0, ↓s_get, s_get0, ↓s_con, ↓s_fn, ↓s_os0, ↓s_os1, ↓s_list0, ↓s_list1, ↓s_mov, ↓s_pick, ↓s_pickE, s_pickE, ↓s_bin, ↓s_un, ↓s_minmax, ↓s_call, ↓s_callv, ↓s_callV, ↓s_ext, s_same, b_eql, b_neq, b_lss, b_leq, b_gtr, b_geq, b_add, b_sub, b_mul, b_eqlb, b_neqb, b_fnil, b_fnil', b_fnil2, b_fnil2', u_neg, u_not, m_two, s_end, s_end', s_end_iteN, s_res0, s_res1, s_tup1, s_tup2, ↓iteN_true, ↓iteN_false, iteN_true, iteN_false, Nat.zero_add, List.nil_append, List.append_nil, Nat.reduceEqDiff, reduceIte, decide_true, decide_false, Bool.not_true, Bool.not_false, List.getElem?_cons_zero, List.getElem?_cons_succ, Bool.false_eq_true, if_true, if_false, beq_self_eq_true]
          exact rfl, ⟨a, c, ez, (by (simp only [s_getp, s_getp0, Nat.reduceEqDiff, decide_false, decide_true, iteN_false, iteN_true, t6]; try rfl)), nw⟩⟩) k 0 (by omega) (N + 19) (by omega) T h I
      rw [r, e2, e3, leN_len]
      refine ⟨h', a, c, ez, ?_, nw⟩
      simp (config := {maxSteps := 2000000}) (disch := first | omega | (simp only [List.length_cons, List.length_nil, List.length_append, List.length_drop]; omega)) only [R_purserref01_Fixed_0, t6, ↓b_xor32, ↓b_and32, ↓b_or32, ↓u_not32, b_xor32, b_and32, b_or32, u_not32, w32ad, ↓x_conv, x_convV, ↓x_fieldAddr, x_fieldV, ↓s_nilchk, x_nilchk, Nat.zero_add, Nat.add_zero, Nat.mul_one, ↓l_loop, ↓l_succ, ↓l_normal, l_normal, l_exit, l_ret, l_iteN, ↓h_put_get, ↓h_new_get, ↓h_del_get, h_next_put, h_next_new, h_next_del, Nat.add_assoc, Nat.add_eq_left, Nat.left_eq_add, Nat.add_left_cancel_iff, ↓s_load, m_load, ↓m_load1, m_load1, ↓m_st, m_stE, m_storeI, m_storeE, w_zero, w_succ, ↓s_alloc, ↓x_idxA, ↓x_idxS, x_idxAE, x_idxSE, x_addrE, x_idx, x_lenS, ↓s_len, ↓x_buildS, x_buildE, ↓x_P0, ↓x_P1, x_fill0, x_filli, x_fills, x_fillb, c_int, List.length_cons, List.length_nil, List.cons_append, List.drop_succ_cons, List.drop_zero, List.drop_nil, List.nil_append, Int.reduceAdd, Int.reduceToNat, Int.reduceLT, Int.reduceLE, Nat.reduceAdd, Nat.reduceMul, Nat.reduceLeDiff, Int.reduceEq, Int.reduceSub, Int.cast_ofNat_Int, s_resc, s_consR, m_load4, m_store4, s_res0, ↓s_skip, ↓s_ops, ↓s_dops, ↓s_seq, ↓s_cond, ↓s_block, ↓s_exit, ↓s_ret, ↓s_scope, ↓s_nil, ↓s_op, ↓s_opg, ↓s_wanted', ↓s_wantV, s_wantV, s_wantV0, beq_true, beq_false, ↓s_bindS, s_bindS, ↓s_bindE, s_bindE, s_bindE_ret, s_bindE_exit, s_bindE_iteN, s_norm, ↓s_condV, s_condV, s_block_ret, s_block_normal, s_block_exit, s_block_iteN, ↓s_getp, ↓s_getp0, ↓s_get, s_get0, ↓s_con, ↓s_fn, ↓s_os0, ↓s_os1, ↓s_list0, ↓s_list1, ↓s_mov, ↓s_pick, ↓s_pickE, s_pickE, ↓s_bin, ↓s_un, ↓s_minmax, ↓s_call, ↓s_callv, ↓s_callV, ↓s_ext, s_same, b_eql, b_neq, b_lss, b_leq, b_gtr, b_geq, b_add, b_sub, b_mul, b_eqlb, b_neqb, b_fnil, b_fnil', b_fnil2, b_fnil2', u_neg, u_not, m_two, s_end, s_end', s_end_iteN, s_res0, s_res1, s_tup1, s_tup2, ↓iteN_true, ↓iteN_false, iteN_true, iteN_false, Nat.zero_add, List.nil_append, List.append_nil, Nat.reduceEqDiff, reduceIte, decide_true, decide_false, Bool.not_true, Bool.not_false, List.getElem?_cons_zero, List.getElem?_cons_succ, Bool.false_eq_true, if_true, if_false, beq_self_eq_true]
      try rfl
    have bad : ¬ n < 256 ^ k → fixE k n = 10 ∧ fixB k n = [] := fun hlt => by
      have e2 : fixE k n = 10 := by unfold fixE; rw [hs, if_pos rfl, if_neg (fun h => hlt (wp.1 (by omega)))]
      exact ⟨e2, by unfold fixB; rw [e2, if_neg (by omega)]⟩
    have r1 := fun (h7 : k ≤ 7) => power_go e.pw x.pw (N + 9) k h7 h
    replace r1 : k ≤ 7 → callX E X (N + 19) (.fn k_purserref01_power) [.int .i64 (k : Int)] h = some (.int .u64 ((256 ^ k : Nat) : Int), h) := r1
    obtain ⟨R, eR⟩ : ∃ R, R_purserref01_Fixed_0 = R := ⟨_, rfl⟩
    obtain ⟨Lo, eL⟩ : ∃ R, L_purserref01_Fixed_0 = R := ⟨_, rfl⟩
    rw [eR, eL] at fin ⊢
    have dk : ∀ j : Nat, decide ((k : Int) = (j : Int)) = decide (k = j) := fun j => by rw [decide_eq_decide]; omega
    have d1 := dk 1
    have d2 := dk 2
    have d4 := dk 4
    have d8 := dk 8
    simp only [Int.cast_ofNat_Int] at d1 d2 d4 d8
    have I0 : ∀ T, evO T (.t 0) = .int .i64 (k : Int) → evO T (.t 1) = .int .u64 (n : Int) → evO T (.t 7) = .int .i64 0 → evO T (.t 6) = .slice none 0 (some 0) 0 → RFI k n h 0 T h := fun T a1 a2 a3 a4 => ⟨by omega, a1, a2, a3, ⟨none, some 0, 0, a4, ⟨Kp.refl _, .nil _, fun _ _ e => by cases e⟩⟩⟩
    have hd : (decide (k = 1) || (decide (k = 2) || (decide (k = 4) || decide (k = 8)))) = true := by
      rcases kk with h | h | h | h <;> subst h <;> rfl
    by_cases h7 : k ≤ 7
    · have c7 : decide ((k : Int) < 8) = true := decide_eq_true (by omega)
      replace r1 := r1 h7
      by_cases hlt : n < 256 ^ k
      · have fin' := fin hlt
        clear fin bad
        generalize 256 ^ k = p at *
        have cg : decide ((p : Int) ≤ (n : Int)) = false := decide_eq_false (by omega)
        generalize decide (k = 1) = b1 at *
        generalize decide (k = 2) = b2 at *
        generalize decide (k = 4) = b4 at *
        generalize decide (k = 8) = b8 at *
        cases b1 <;> cases b2 <;> cases b4 <;> cases b8 <;> first | (exfalso; revert hd; decide; done) | skip
        all_goals (simp (config := {maxSteps := 2000000}) (disch := first | omega | (simp only [List.length_cons, List.length_nil, List.length_append, List.length_drop]; omega)) only [d1, d2, d4, d8, c7, r1, cg, ↓b_xor32, ↓b_and32, ↓b_or32, ↓u_not32, b_xor32, b_and32, b_or32, u_not32, w32ad, ↓x_conv, x_convV, ↓x_fieldAddr, x_fieldV, ↓s_nilchk, x_nilchk, Nat.zero_add, Nat.add_zero, Nat.mul_one, ↓l_loop, ↓l_succ, ↓l_normal, l_normal, l_exit, l_ret, l_iteN, ↓h_put_get, ↓h_new_get, ↓h_del_get, h_next_put, h_next_new, h_next_del, Nat.add_assoc, Nat.add_eq_left, Nat.left_eq_add, Nat.add_left_cancel_iff, ↓s_load, m_load, ↓m_load1, m_load1, ↓m_st, m_stE, m_storeI, m_storeE, w_zero, w_succ, ↓s_alloc, ↓x_idxA, ↓x_idxS, x_idxAE, x_idxSE, x_addrE, x_idx, x_lenS, ↓s_len, ↓x_buildS, x_buildE, ↓x_P0, ↓x_P1, x_fill0, x_filli, x_fills, x_fillb, c_int, List.length_cons, List.length_nil, List.cons_append, List.drop_succ_cons, List.drop_zero, List.drop_nil, List.nil_append, Int.reduceAdd, Int.reduceToNat, Int.reduceLT, Int.reduceLE, Nat.reduceAdd, Nat.reduceMul, Nat.reduceLeDiff, Int.reduceEq, Int.reduceSub, Int.cast_ofNat_Int, s_resc, s_consR, m_load4, m_store4, s_res0, ↓s_skip, ↓s_ops, ↓s_dops, ↓s_seq, ↓s_cond, ↓s_block, ↓s_exit, ↓s_ret, ↓s_scope, ↓s_nil, ↓s_op, ↓s_opg, ↓s_wanted', ↓s_wantV, s_wantV, s_wantV0, beq_true, beq_false, ↓s_bindS, s_bindS, ↓s_bindE, s_bindE, s_bindE_ret, s_bindE_exit, s_bindE_iteN, s_norm, ↓s_condV, s_condV, s_block_ret, s_block_normal, s_block_exit, s_block_iteN, ↓s_getp, ↓s_getp0, ↓s_get, s_get0, ↓s_con, ↓s_fn, ↓s_os0, ↓s_os1, ↓s_list0, ↓s_list1, ↓s_mov, ↓s_pick, ↓s_pickE, s_pickE, ↓s_bin, ↓s_un, ↓s_minmax, ↓s_call, ↓s_callv, ↓s_callV, ↓s_ext, s_same, b_eql, b_neq, b_lss, b_leq, b_gtr, b_geq, b_add, b_sub, b_mul, b_eqlb, b_neqb, b_fnil, b_fnil', b_fnil2, b_fnil2', u_neg, u_not, m_two, s_end, s_end', s_end_iteN, s_res0, s_res1, s_tup1, s_tup2, ↓iteN_true, ↓iteN_false, iteN_true, iteN_false, Nat.zero_add, List.nil_append, List.append_nil, Nat.reduceEqDiff, reduceIte, decide_true, decide_false, Bool.not_true, Bool.not_false, List.getElem?_cons_zero, List.getElem?_cons_succ, Bool.false_eq_true, if_true, if_false, beq_self_eq_true]; exact fin' _ (I0 _ (by (simp only [s_getp, s_getp0, Nat.reduceEqDiff, decide_false, decide_true, iteN_false, iteN_true, eL]; try rfl)) (by (simp only [s_getp, s_getp0, Nat.reduceEqDiff, decide_false, decide_true, iteN_false, iteN_true, eL]; try rfl)) (by (simp only [s_getp, s_getp0, Nat.reduceEqDiff, decide_false, decide_true, iteN_false, iteN_true, eL]; try rfl)) (by (simp only [s_getp, s_getp0, Nat.reduceEqDiff, decide_false, decide_true, iteN_false, iteN_true, eL]; try rfl))))
      · obtain ⟨e2, e3⟩ := bad hlt
        rw [e2, e3]
        generalize 256 ^ k = p at *
        have cg : decide ((p : Int) ≤ (n : Int)) = true := decide_eq_true (by omega)
        refine ⟨h, none, some 0, 0, ?_, ⟨Kp.refl _, .nil _, fun _ _ e => by cases e⟩⟩
        rw [List.length_nil]
        generalize decide (k = 1) = b1 at *
        generalize decide (k = 2) = b2 at *
        generalize decide (k = 4) = b4 at *
        generalize decide (k = 8) = b8 at *
        cases b1 <;> cases b2 <;> cases b4 <;> cases b8 <;> first | (exfalso; revert hd; decide; done) | skip
        all_goals (simp (config := {maxSteps := 2000000}) (disch := first | omega | (simp only [List.length_cons, List.length_nil, List.length_append, List.length_drop]; omega)) only [d1, d2, d4, d8, c7, r1, cg, ↓b_xor32, ↓b_and32, ↓b_or32, ↓u_not32, b_xor32, b_and32, b_or32, u_not32, w32ad, ↓x_conv, x_convV, ↓x_fieldAddr, x_fieldV, ↓s_nilchk, x_nilchk, Nat.zero_add, Nat.add_zero, Nat.mul_one, ↓l_loop, ↓l_succ, ↓l_normal, l_normal, l_exit, l_ret, l_iteN, ↓h_put_get, ↓h_new_get, ↓h_del_get, h_next_put, h_next_new, h_next_del, Nat.add_assoc, Nat.add_eq_left, Nat.left_eq_add, Nat.add_left_cancel_iff, ↓s_load, m_load, ↓m_load1, m_load1, ↓m_st, m_stE, m_storeI, m_storeE, w_zero, w_succ, ↓s_alloc, ↓x_idxA, ↓x_idxS, x_idxAE, x_idxSE, x_addrE, x_idx, x_lenS, ↓s_len, ↓x_buildS, x_buildE, ↓x_P0, ↓x_P1, x_fill0, x_filli, x_fills, x_fillb, c_int, List.length_cons, List.length_nil, List.cons_append, List.drop_succ_cons, List.drop_zero, List.drop_nil, List.nil_append, Int.reduceAdd, Int.reduceToNat, Int.reduceLT, Int.reduceLE, Nat.reduceAdd, Nat.reduceMul, Nat.reduceLeDiff, Int.reduceEq, Int.reduceSub, Int.cast_ofNat_Int, s_resc, s_consR, m_load4, m_store4, s_res0, ↓s_skip, ↓s_ops, ↓s_dops, ↓s_seq, ↓s_cond, ↓s_block, ↓s_exit, ↓s_ret, ↓s_scope, ↓s_nil, ↓s_op, ↓s_opg, ↓s_wanted', ↓s_wantV, s_wantV, s_wantV0, beq_true, beq_false, ↓s_bindS, s_bindS, ↓s_bindE, s_bindE, s_bindE_ret, s_bindE_exit, s_bindE_iteN, s_norm, ↓s_condV, s_condV, s_block_ret, s_block_normal, s_block_exit, s_block_iteN, ↓s_getp, ↓s_getp0, ↓s_get, s_get0, ↓s_con, ↓s_fn, ↓s_os0, ↓s_os1, ↓s_list0, ↓s_list1, ↓s_mov, ↓s_pick, ↓s_pickE, s_pickE, ↓s_bin, ↓s_un, ↓s_minmax, ↓s_call, ↓s_callv, ↓s_callV, ↓s_ext, s_same, b_eql, b_neq, b_lss, b_leq, b_gtr, b_geq, b_add, b_sub, b_mul, b_eqlb, b_neqb, b_fnil, b_fnil', b_fnil2, b_fnil2', u_neg, u_not, m_two, s_end, s_end', s_end_iteN, s_res0, s_res1, s_tup1, s_tup2, ↓iteN_true, ↓iteN_false, iteN_true, iteN_false, Nat.zero_add, List.nil_append, List.append_nil, Nat.reduceEqDiff, reduceIte, decide_true, decide_false, Bool.not_true, Bool.not_false, List.getElem?_cons_zero, List.getElem?_cons_succ, Bool.false_eq_true, if_true, if_false, beq_self_eq_true])
    · obtain rfl : k = 8 := by omega
      have fin := fin hn
      have c7 : decide (((8 : Nat) : Int) < 8) = false := rfl
      have c7' : decide ((8 : Int) < 8) = false := rfl
      simp (config := {maxSteps := 2000000}) (disch := first | omega | (simp only [List.length_cons, List.length_nil, List.length_append, List.length_drop]; omega)) only [c7, c7', ↓b_xor32, ↓b_and32, ↓b_or32, ↓u_not32, b_xor32, b_and32, b_or32, u_not32, w32ad, ↓x_conv, x_convV, ↓x_fieldAddr, x_fieldV, ↓s_nilchk, x_nilchk, Nat.zero_add, Nat.add_zero, Nat.mul_one, ↓l_loop, ↓l_succ, ↓l_normal, l_normal, l_exit, l_ret, l_iteN, ↓h_put_get, ↓h_new_get, ↓h_del_get, h_next_put, h_next_new, h_next_del, Nat.add_assoc, Nat.add_eq_left, Nat.left_eq_add, Nat.add_left_cancel_iff, ↓s_load, m_load, ↓m_load1, m_load1, ↓m_st, m_stE, m_storeI, m_storeE, w_zero, w_succ, ↓s_alloc, ↓x_idxA, ↓x_idxS, x_idxAE, x_idxSE, x_addrE, x_idx, x_lenS, ↓s_len, ↓x_buildS, x_buildE, ↓x_P0, ↓x_P1, x_fill0, x_filli, x_fills, x_fillb, c_int, List.length_cons, List.length_nil, List.cons_append, List.drop_succ_cons, List.drop_zero, List.drop_nil, List.nil_append, Int.reduceAdd, Int.reduceToNat, Int.reduceLT, Int.reduceLE, Nat.reduceAdd, Nat.reduceMul, Nat.reduceLeDiff, Int.reduceEq, Int.reduceSub, Int.cast_ofNat_Int, s_resc, s_consR, m_load4, m_store4, s_res0, ↓s_skip, ↓s_ops, ↓s_dops, ↓s_seq, ↓s_cond, ↓s_block, ↓s_exit, ↓s_ret, ↓s_scope, ↓s_nil, ↓s_op, ↓s_opg, ↓s_wanted', ↓s_wantV, s_wantV, s_wantV0, beq_true, beq_false, ↓s_bindS, s_bindS, ↓s_bindE, s_bindE, s_bindE_ret, s_bindE_exit, s_bindE_iteN, s_norm, ↓s_condV, s_condV, s_block_ret, s_block_normal, s_block_exit, s_block_iteN, ↓s_getp, ↓s_getp0, ↓s_get, s_get0, ↓s_con, ↓s_fn, ↓s_os0, ↓s_os1, ↓s_list0, ↓s_list1, ↓s_mov, ↓s_pick, ↓s_pickE, s_pickE, ↓s_bin, ↓s_un, ↓s_minmax, ↓s_call, ↓s_callv, ↓s_callV, ↓s_ext, s_same, b_eql, b_neq, b_lss, b_leq, b_gtr, b_geq, b_add, b_sub, b_mul, b_eqlb, b_neqb, b_fnil, b_fnil', b_fnil2, b_fnil2', u_neg, u_not, m_two, s_end, s_end', s_end_iteN, s_res0, s_res1, s_tup1, s_tup2, ↓iteN_true, ↓iteN_false, iteN_true, iteN_false, Nat.zero_add, List.nil_append, List.append_nil, Nat.reduceEqDiff, reduceIte, decide_true, decide_false, Bool.not_true, Bool.not_false, List.getElem?_cons_zero, List.getElem?_cons_succ, Bool.false_eq_true, if_true, if_false, beq_self_eq_true]
      exact fin _ (I0 _ (by (simp only [s_getp, s_getp0, Nat.reduceEqDiff, decide_false, decide_true, iteN_false, iteN_true, eL]; try rfl)) (by (simp only [s_getp, s_getp0, Nat.reduceEqDiff, decide_false, decide_true, iteN_false, iteN_true, eL]; try rfl)) (by (simp only [s_getp, s_getp0, Nat.reduceEqDiff, decide_false, decide_true, iteN_false, iteN_true, eL]; try rfl)) (by (simp only [s_getp, s_getp0, Nat.reduceEqDiff, decide_false, decide_true, iteN_false, iteN_true, eL]; try rfl)))
end Go.Eng
namespace Go.Eng
open Go
variable {E : Nat → Option Fn} {X : Orc}
set_option linter.unusedSimpArgs false
set_option linter.unusedVariables false
/-- what Size of the document answers: a slice that is its own, or a row of one -/
def SzH (h : H) (w : List Nat) (a : Option (Nat × Nat)) (c : Option Nat) (e : Nat) : Prop := Wb h w a c e ∨ ∃ y q, w = [y] ∧ a = some (q, 0) ∧ c = some 1 ∧ e = 1 ∧ h.get q = some (.cells (ofI .u8 w) .rw) ∧ q < h.next
theorem SzH.src {h : H} {w : List Nat} {a : Option (Nat × Nat)} {c : Option Nat} {e : Nat} (s : SzH h w a c e) : SrcH h a e w := by
  rcases s with s | ⟨y, q, rfl, rfl, rfl, rfl, g, hq⟩
  · exact s.src
  · exact .inr ⟨q, 0, _, .rw, rfl, rfl, hq, g, by rw [ofI_len]; omega, by rw [List.drop_zero]; exact List.take_of_length_le (by rw [ofI_len]; exact Nat.le_refl _)⟩
theorem twinv_go (e : E k_purserref01_Twin = some f_purserref01_Twin) (x : ∀ a h, X (.fn k_purserref01_Twin) a h = none) (N : Nat) (l : List Nat) (hl : l.length ≤ 1000000) (a : Option (Nat × Nat)) (c : Option Nat) (ez : Nat) (h : H) (src : SrcH h a ez l) :
    ∃ ao co eo h', callX E X (N + 1) (.fn k_purserref01_Twin) [.slice a l.length c ez] h = some (.slice ao l.length co eo, h') ∧ Nw h h' l ao co eo := by
  rw [x_cfn e _ _ (Nat.le_of_ble_eq_true rfl) (x _ _)]
  have sc := src.cellz c
  obtain ⟨a2, c2, e2, h', ap, nw⟩ := app_nw h l hl
  refine ⟨a2, c2, e2, h', ?_, nw⟩
  obtain ⟨n, en⟩ : ∃ n, l.length = n := ⟨_, rfl⟩
  rw [en] at sc ap ⊢
  simp (config := {maxSteps := 2000000}) (disch := first | omega | (simp only [List.length_cons, List.length_nil, List.length_append, List.length_drop]; omega)) only [sc, ap, ↓s_append, ↓b_xor32, ↓b_and32, ↓b_or32, ↓u_not32, b_xor32, b_and32, b_or32, u_not32, w32ad, ↓x_conv, x_convV, ↓x_fieldAddr, x_fieldV, ↓s_nilchk, x_nilchk, Nat.zero_add, Nat.add_zero, Nat.mul_one, ↓l_loop, ↓l_succ, ↓l_normal, l_normal, l_exit, l_ret, l_iteN, ↓h_put_get, ↓h_new_get, ↓h_del_get, h_next_put, h_next_new, h_next_del, Nat.add_assoc, Nat.add_eq_left, Nat.left_eq_add, Nat.add_left_cancel_iff, ↓s_load, m_load, ↓m_load1, m_load1, ↓m_st, m_stE, m_storeI, m_storeE, w_zero, w_succ, ↓s_alloc, ↓x_idxA, ↓x_idxS, x_idxAE, x_idxSE, x_addrE, x_idx, x_lenS, ↓s_len, ↓x_buildS, x_buildE, ↓x_P0, ↓x_P1, x_fill0, x_filli, x_fills, x_fillb, c_int, List.length_cons, List.length_nil, List.cons_append, List.drop_succ_cons, List.drop_zero, List.drop_nil, List.nil_append, Int.reduceAdd, Int.reduceToNat, Int.reduceLT, Int.reduceLE, Nat.reduceAdd, Nat.reduceMul, Nat.reduceLeDiff, Int.reduceEq, Int.reduceSub, Int.cast_ofNat_Int, s_resc, s_consR, m_load4, m_store4, s_res0, ↓s_skip, ↓s_ops, ↓s_dops, ↓s_seq, ↓s_cond, ↓s_block, ↓s_exit, ↓s_ret, ↓s_scope, ↓s_nil, ↓s_op, ↓s_opg, ↓s_wanted', ↓s_wantV, s_wantV, s_wantV0, beq_true, beq_false, ↓s_bindS, s_bindS, ↓s_bindE, s_bindE, s_bindE_ret, s_bindE_exit, s_bindE_iteN, s_norm, ↓s_condV, s_condV, s_block_ret, s_block_normal, s_block_exit, s_block_iteN, ↓s_getp, ↓s_getp0, ↓s_get, s_get0, ↓s_con, ↓s_fn, ↓s_os0, ↓s_os1, ↓s_list0, ↓s_list1, ↓s_mov, ↓s_pick, ↓s_pickE, s_pickE, ↓s_bin, ↓s_un, ↓s_minmax, ↓s_call, ↓s_callv, ↓s_callV, ↓s_ext, s_same, b_eql, b_neq, b_lss, b_leq, b_gtr, b_geq, b_add, b_sub, b_mul, b_eqlb, b_neqb, b_fnil, b_fnil', b_fnil2, b_fnil2', u_neg, u_not, m_two, s_end, s_end', s_end_iteN, s_res0, s_res1, s_tup1, s_tup2, ↓iteN_true, ↓iteN_false, iteN_true, iteN_false, Nat.zero_add, List.nil_append, List.append_nil, Nat.reduceEqDiff, reduceIte, decide_true, decide_false, Bool.not_true, Bool.not_false, List.getElem?_cons_zero, List.getElem?_cons_succ, Bool.false_eq_true, if_true, if_false, beq_self_eq_true]
end Go.Eng
