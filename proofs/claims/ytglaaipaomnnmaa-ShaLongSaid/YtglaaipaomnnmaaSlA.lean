/- What functions of the program come to: own work. -/
import Derived.Test.YtglaaipaomnnmaaShE
import Derived.Test.YtglaaipaomnnmaaSlF
import Derived.OpenShut
import Derived.ChangeSame
import Derived.ChangeArms
namespace Go.Eng
open Go
set_option linter.unusedSimpArgs false
set_option linter.unusedVariables false
/-! arguments, as the evaluator takes them -/
theorem absA_nil {H : Type} (P : Program) (n nx : Nat) : absA (H := H) P n [] [] nx = some ([], [], nx) := rfl
theorem absA_cons {H : Type} {P : Program} {n : Nat} {t : TypeId} {ts : List TypeId} {d : DataW H} {ds : List (DataW H)} {nx n1 n2 : Nat} {vs avs : List V} {bl bl' : List (Nat × List V)} {av : V}
    (h1 : absD P n t d nx = some (vs, bl, n1)) (hv : argV P t vs = av) (h2 : absA P n ts ds n1 = some (avs, bl', n2)) : absA P n (t :: ts) (d :: ds) nx = some (av :: avs, bl ++ bl', n2) := by
  simp only [absA, h1, h2, hv]
theorem argV_arr {P : Program} {t e : TypeId} {n : Nat} (h : P.underlying t = some (.array n e)) (vs : List V) : argV P t vs = .agg vs := by unfold argV; rw [h]
theorem argV_slc {P : Program} {t e : TypeId} (h : P.underlying t = some (.slice e)) (v : V) : argV P t [v] = v := by unfold argV; rw [h]
theorem argV_int {P : Program} {t : TypeId} {k : IntKind} (h : P.underlying t = some (.int k)) (v : V) : argV P t [v] = v := by unfold argV; rw [h]
theorem argV_bool {P : Program} {t : TypeId} (h : P.underlying t = some .bool) (v : V) : argV P t [v] = v := by unfold argV; rw [h]
theorem absL_I {H : Type} (P : Program) (e n : Nat) (he : P.underlying e = some (.int .u8)) (nx : Nat) : ∀ (s : List Nat), absL (absD (H := H) P (n + 1) e) (s.map fun (x : Nat) => .lit (.int .u8 (x : Int))) nx = some (ofI .u8 s, [], nx) := by
  intro s
  induction s with
  | nil => rfl
  | cons a r ih =>
    simp only [List.map_cons, absL]
    have : absD (H := H) P (n + 1) e (.lit (.int .u8 (a : Int))) nx = some ([.int .u8 (a : Int)], [], nx) := by simp only [absD, he]
    rw [this]
    simp only [ih]
    rfl
theorem lits_u8 {H : Type} {xs : List (DataW H × List MemPlace)} (go : ∀ x ∈ xs, ∃ b : Nat, x.1 = .lit (.int .u8 (b : Int)) ∧ b < 256) : ∃ s : List Nat, xs.map (·.1) = s.map (fun (x : Nat) => DataW.lit (.int .u8 (x : Int))) ∧ byt s = true ∧ s.length = xs.length := by
  induction xs with
  | nil => exact ⟨[], rfl, rfl, rfl⟩
  | cons x r ih =>
    obtain ⟨s, q1, q2, q3⟩ := ih (fun y hy => go y (List.mem_cons_of_mem _ hy))
    obtain ⟨b, b1, b2⟩ := go x (List.mem_cons_self ..)
    refine ⟨b :: s, by simp only [List.map_cons, b1, q1], ?_, by simp [q3]⟩
    rw [byt_iff] at q2 ⊢
    intro y hy
    rcases List.mem_cons.1 hy with rfl | hy
    · exact b2
    · exact q2 y hy
section
variable {H : Type} {enc : TypeId × Value → H} {P : Program} {W : World} {spare : Nat → Bool} {held : Bool} {base : Nat}
theorem trod_hash {t e : TypeId} {N : Nat} (ht : P.underlying t = some (.array N e)) (he : P.underlying e = some (.int .u8)) {v : Value} {d : DataW H} {p : List MemPlace} (h : DataW.Trod enc P W base spare held t v d p) :
    ∃ s : List Nat, s.length = N ∧ byt s = true ∧ ∀ n nx, absD P (n + 2) t d nx = some (ofI .u8 s, [], nx) := by
  obtain ⟨f, hf⟩ := h
  obtain ⟨xs, m, _, hx, _, hl, hi⟩ := DataW.trod_array ht hf
  have go : ∀ x ∈ xs, ∃ b : Nat, x.1 = .lit (.int .u8 (b : Int)) ∧ b < 256 := by
    intro x hxm
    obtain ⟨i, hi1, hi2⟩ := List.getElem_of_mem hxm
    have hi3 : xs[i]? = some x := by rw [List.getElem?_eq_getElem hi1, hi2]
    obtain ⟨n, _, e1, w⟩ := DataW.trod_int he ((hi i (by omega)).trans hi3)
    simp [Lit.wf, IntKind.min, IntKind.max, IntKind.signed, IntKind.bits] at w
    obtain ⟨b, rfl⟩ := Int.eq_ofNat_of_zero_le w.1
    exact ⟨b, by rw [e1], by omega⟩
  obtain ⟨s, s1, s2, s3⟩ := lits_u8 go
  refine ⟨s, by omega, s2, fun n nx => ?_⟩
  have ed : d = .agg (s.map fun (x : Nat) => .lit (.int .u8 (x : Int))) := by
    have := congrArg Prod.fst hx
    simp only at this
    rw [this, s1]
  rw [ed]
  unfold absD
  rw [ht]
  exact absL_I P e n he nx s
/-- bytes behind a place from 'lo' on -/
def Lay (bl : List (Nat × List V)) (a : Option (Nat × Nat)) (l : List Nat) (lo hi : Nat) : Prop :=
  lo ≤ hi ∧ ((l = [] ∧ ∀ x ∈ bl, lo ≤ x.1 ∧ x.1 < hi) ∨ (a = some (lo, 0) ∧ bl = [(lo, ofI .u8 l)] ∧ lo < hi))
theorem absD_slc' (n : Nat) {t e : TypeId} (ht : P.underlying t = some (.slice e)) (A B : List (DataW H)) (nx : Nat) : absD P (n + 1) t (.slice A B) nx = (match absL (absD P n e) A (nx + 1) with
    | none => none
    | some (vs, bl, n1) => match A.length + B.length with
      | 0 => some ([.slice (some (nx, 0)) 0 none (P.cellsOf e)], [], n1)
      | _ + 1 => some ([.slice (some (nx, 0)) A.length none (P.cellsOf e)], (nx, vs) :: bl, n1)) := by
  unfold absD
  rw [ht]
  rfl
theorem trod_u8s {t e : TypeId} (ht : P.underlying t = some (.slice e)) (he : P.underlying e = some (.int .u8)) (hc : P.cellsOf e = 1) {v : Value} {d : DataW H} {p : List MemPlace} (h : DataW.Trod enc P W base spare held t v d p) :
    ∃ l : List Nat, byt l = true ∧ ∀ n nx, ∃ a bl n1, absD P (n + 2) t d nx = some ([.slice a l.length none 1], bl, n1) ∧ Lay bl a l nx n1 := by
  obtain ⟨f, hf⟩ := h
  rcases DataW.trod_slice ht hf with ⟨_, hx⟩ | ⟨ad, len, cap, elems, rest, n, _, _, hx, _, _, _, hl, hi, _, _⟩
  · have hd : d = .nil := congrArg Prod.fst hx
    subst hd
    refine ⟨[], rfl, fun n nx => ⟨none, [], nx, ?_, Nat.le_refl _, .inl ⟨rfl, by simp⟩⟩⟩
    simp only [absD, ht, hc, List.length_nil]
  · have hd : d = .slice (elems.map (·.1)) (rest.map (·.1)) := congrArg Prod.fst hx
    have go : ∀ x ∈ elems, ∃ b : Nat, x.1 = .lit (.int .u8 (b : Int)) ∧ b < 256 := by
      intro x hxm
      obtain ⟨i, hi1, hi2⟩ := List.getElem_of_mem hxm
      have hi3 : elems[i]? = some x := by rw [List.getElem?_eq_getElem hi1, hi2]
      have h4 := (hi i (by omega)).trans hi3
      simp only [Option.bind_eq_some_iff] at h4
      obtain ⟨cs, _, h5⟩ := h4
      obtain ⟨n, _, e1, w⟩ := DataW.trod_int he h5
      simp [Lit.wf, IntKind.min, IntKind.max, IntKind.signed, IntKind.bits] at w
      obtain ⟨b, rfl⟩ := Int.eq_ofNat_of_zero_le w.1
      exact ⟨b, by rw [e1], by omega⟩
    obtain ⟨s, s1, s2, s3⟩ := lits_u8 go
    have sl : (elems.map (·.1)).length = s.length := by rw [s1, List.length_map]
    subst hd
    refine ⟨s, s2, fun n nx => ?_⟩
    have hab : absL (absD (H := H) P (n + 1) e) (elems.map (·.1)) (nx + 1) = some (ofI .u8 s, [], nx + 1) := by rw [s1]; exact absL_I P e n he _ s
    cases hn : (elems.map (·.1)).length + (rest.map (·.1)).length with
    | zero =>
      have h0 : s.length = 0 := by omega
      refine ⟨some (nx, 0), [], nx + 1, ?_, by omega, .inl ⟨List.length_eq_zero_iff.1 h0, by simp⟩⟩
      rw [absD_slc' (n + 1) ht, hab]
      simp only [hc, hn, h0]
    | succ m =>
      refine ⟨some (nx, 0), [(nx, ofI .u8 s)], nx + 1, ?_, by omega, .inr ⟨rfl, rfl, by omega⟩⟩
      rw [absD_slc' (n + 1) ht, hab]
      simp only [hc, hn]
      rw [sl]
theorem absD_int' (n : Nat) {t : TypeId} {k : IntKind} (hu : P.underlying t = some (.int k)) (x : Int) (nx : Nat) : absD (H := H) P (n + 1) t (.lit (.int k x)) nx = some ([.int k x], [], nx) := by simp only [absD, hu]
end
theorem mkB_skip : ∀ (bl r : List (Nat × List V)) (i : Nat), (∀ x ∈ bl, x.1 ≠ i) → (mkB (bl ++ r)).get i = (mkB r).get i := by
  intro bl
  induction bl with
  | nil => intro r i _; rfl
  | cons x s ih =>
    intro r i h
    show ((mkB (s ++ r)).set x.1 _).get i = _
    rw [Tr.get_set, if_neg (h x (List.mem_cons_self ..)), ih r i (fun y hy => h y (List.mem_cons_of_mem _ hy))]
theorem mkB_hit (k : Nat) (v : List V) (r : List (Nat × List V)) : (mkB ((k, v) :: r)).get k = some (.cells v .ro) := by
  show ((mkB r).set k _).get k = _
  rw [Tr.get_set, if_pos rfl]
/-- the bytes of an argument, ahead of which 'pre' was laid -/
theorem Lay.src {pre bl post : List (Nat × List V)} {a : Option (Nat × Nat)} {l : List Nat} {lo hi nx : Nat} (L : Lay bl a l lo hi) (hp : ∀ x ∈ pre, x.1 < lo) (hn : hi ≤ nx) : SrcH (mkH (pre ++ (bl ++ post)) nx) a 1 l := by
  obtain ⟨hle, h | ⟨ha, hb, hlt⟩⟩ := L
  · exact .inl h.1
  · refine .inr ⟨lo, 0, ofI .u8 l, .ro, ha, rfl, by show lo < nx; omega, ?_, by rw [ofI_len]; omega, by rw [List.drop_zero]; exact List.take_of_length_le (by rw [ofI_len]; exact Nat.le_refl _)⟩
    show (mkB (pre ++ (bl ++ post))).get lo = _
    rw [mkB_skip _ _ _ (fun x hx => Nat.ne_of_lt (hp x hx)), hb]
    exact mkB_hit _ _ _
theorem Lay.keys {bl : List (Nat × List V)} {a : Option (Nat × Nat)} {l : List Nat} {lo hi : Nat} (L : Lay bl a l lo hi) : ∀ x ∈ bl, lo ≤ x.1 ∧ x.1 < hi := by
  obtain ⟨hle, h | ⟨ha, hb, hlt⟩⟩ := L
  · exact h.2
  · intro x hx; rw [hb] at hx; rcases List.mem_singleton.1 hx with rfl; exact ⟨Nat.le_refl _, hlt⟩
end Go.Eng
namespace Go.Eng
open Go
variable {E : Nat → Option Fn} {X : Orc}
set_option linter.unusedSimpArgs false
set_option linter.unusedVariables false
theorem slcV_hiA (n b : Nat) (a : Option (Nat × Nat)) (k : IntKind) (hb : b ≤ n) : slcV 1 none (some (.int k (b : Int))) none (.slice a n none 1) = some (.slice a b none 1) := by
  unfold slcV
  simp only [Nat.beq_refl, Bool.true_or, _root_.cond_true, Option.getD_none, x_bnd _ _ _ _ hb, x_bnd0]
  cases a <;> simp [upA, subC]
theorem slcV_loA (n m : Nat) (a : Option (Nat × Nat)) (k : IntKind) (hm : m ≤ n) : slcV 1 (some (.int k (m : Int))) none none (.slice a n none 1) = some (.slice (upA a m) (n - m) none 1) := slcS_lo _ _ _ _ _ _ hm rfl
theorem slcV_lhA (n m b : Nat) (a : Option (Nat × Nat)) (k k' : IntKind) (hb : b ≤ n) (hm : m ≤ b) : slcV 1 (some (.int k (m : Int))) (some (.int k' (b : Int))) none (.slice a n none 1) = some (.slice (upA a m) (b - m) none 1) := by
  unfold slcV
  simp only [Nat.beq_refl, Bool.true_or, _root_.cond_true, Option.getD_none, x_bnd _ _ _ _ hb, x_bnd _ _ _ _ hm, Nat.mul_one]
  rfl
theorem SrcH.take {h : H} {a : Option (Nat × Nat)} {e : Nat} {l : List Nat} (s : SrcH h a e l) (n : Nat) : SrcH h a e (l.take n) := by
  rcases s with h | ⟨bi, off, vs, m, h1, h2, h3, h4, h5, h6⟩
  · left; rw [h]; simp
  · right
    refine ⟨bi, off, vs, m, h1, h2, h3, h4, by rw [List.length_take]; omega, ?_⟩
    rw [List.length_take, ← List.take_take, h6, ofI_take]
theorem SrcH.drop {h : H} {a : Option (Nat × Nat)} {e : Nat} {l : List Nat} (s : SrcH h a e l) (n : Nat) : SrcH h (upA a n) e (l.drop n) := by
  rcases s with h | ⟨bi, off, vs, m, h1, h2, h3, h4, h5, h6⟩
  · left; rw [h]; simp
  · by_cases hn : n < l.length
    · right
      refine ⟨bi, off + n, vs, m, by rw [h1]; rfl, h2, h3, h4, by rw [List.length_drop]; omega, ?_⟩
      rw [List.length_drop, ← List.drop_drop, ← List.drop_take, h6, ofI_drop]
    · left; exact List.drop_eq_nil_of_le (by omega)
theorem len_go (e1 : E (k_sha_Sum_Len) = some f_sha_Sum_Len) (x1 : ∀ a h, X (.fn k_sha_Sum_Len) a h = none) (e : EnSha E) (x : NoSha X) (N p : Nat) (s : Sm) (ok : SmOk s) (md : Md) (h : H) (hp : h.get p = some (.cells (sumC s.st s.blk s.len) md)) :
    callX E X (N + 2) (.fn k_sha_Sum_Len) [.ptr (some (p, 0))] h = some (.int .u64 (s.len : Int), h) := by
  rw [x_cfn e1 _ _ (Nat.le_of_ble_eq_true rfl) (x1 _ _)]
  have su := sums_go e x N p s.st s.blk s.len md h ok.1 ok.2.1 hp
  have ll : (sumC s.st s.blk s.len)[72]? = some (.int .u64 (s.len : Int)) := sumC_l _ _ _ ok.1 ok.2.1
  generalize sumC s.st s.blk s.len = C at *
  simp (config := {maxSteps := 2000000}) (disch := first | omega | (simp only [List.length_cons, List.length_nil, List.length_append, List.length_drop]; omega)) only [su, hp, ll, ↓b_xor32, ↓b_and32, ↓b_or32, ↓u_not32, b_xor32, b_and32, b_or32, u_not32, w32ad, ↓x_conv, x_convV, ↓x_fieldAddr, x_fieldV, ↓s_nilchk, x_nilchk, Nat.zero_add, Nat.add_zero, Nat.mul_one, ↓l_loop, ↓l_succ, ↓l_normal, l_normal, l_exit, l_ret, l_iteN, ↓h_put_get, ↓h_new_get, ↓h_del_get, h_next_put, h_next_new, h_next_del, Nat.add_assoc, Nat.add_eq_left, Nat.left_eq_add, Nat.add_left_cancel_iff, ↓s_load, m_load, ↓m_load1, m_load1, ↓m_st, m_stE, m_storeI, m_storeE, w_zero, w_succ, ↓s_alloc, ↓x_idxA, ↓x_idxS, x_idxAE, x_idxSE, x_addrE, x_idx, x_lenS, ↓s_len, ↓x_buildS, x_buildE, ↓x_P0, ↓x_P1, x_fill0, x_filli, x_fills, x_fillb, c_int, List.length_cons, List.length_nil, List.cons_append, List.drop_succ_cons, List.drop_zero, List.drop_nil, List.nil_append, Int.reduceAdd, Int.reduceToNat, Int.reduceLT, Int.reduceLE, Nat.reduceAdd, Nat.reduceMul, Nat.reduceLeDiff, Int.reduceEq, Int.reduceSub, Int.cast_ofNat_Int, s_resc, s_consR, m_load4, m_store4, s_res0, ↓s_skip, ↓s_ops, ↓s_dops, ↓s_seq, ↓s_cond, ↓s_block, ↓s_exit, ↓s_ret, ↓s_scope, ↓s_nil, ↓s_op, ↓s_opg, ↓s_wanted', ↓s_wantV, s_wantV, s_wantV0, beq_true, beq_false, ↓s_bindS, s_bindS, ↓s_bindE, s_bindE, s_bindE_ret, s_bindE_exit, s_bindE_iteN, s_norm, ↓s_condV, s_condV, s_block_ret, s_block_normal, s_block_exit, s_block_iteN, ↓s_getp, ↓s_getp0, ↓s_get, s_get0, ↓s_con, ↓s_fn, ↓s_os0, ↓s_os1, ↓s_list0, ↓s_list1, ↓s_mov, ↓s_pick, ↓s_pickE, s_pickE, ↓s_bin, ↓s_un, ↓s_minmax, ↓s_call, ↓s_callv, ↓s_callV, ↓s_ext, s_same, b_eql, b_neq, b_lss, b_leq, b_gtr, b_geq, b_add, b_sub, b_mul, b_eqlb, b_neqb, b_fnil, b_fnil', b_fnil2, b_fnil2', u_neg, u_not, m_two, s_end, s_end', s_end_iteN, s_res0, s_res1, s_tup1, s_tup2, ↓iteN_true, ↓iteN_false, iteN_true, iteN_false, Nat.zero_add, List.nil_append, List.append_nil, Nat.reduceEqDiff, reduceIte, decide_true, decide_false, Bool.not_true, Bool.not_false, List.getElem?_cons_zero, List.getElem?_cons_succ, Bool.false_eq_true, if_true, if_false, beq_self_eq_true]
theorem len_absorb : ∀ (l : List Nat) (s : Sm), SmOk s → s.len + l.length < 18446744073709551616 → (absorb s l).len = s.len + l.length := by
  intro l
  induction l with
  | nil => intro s _ _; rfl
  | cons b r ih =>
    intro s ok h
    simp only [List.length_cons] at h
    have := ih (eat1 s b) (eat1_ok s b ok) (by simp only [eat1]; omega)
    show (absorb (eat1 s b) r).len = _
    rw [this]; simp only [eat1, List.length_cons]; omega
/-- a sum lies at a place -/
def SumAt (h : H) (p : Nat) (s : Sm) : Prop := p < h.next ∧ h.get p = some (.cells (sumC s.st s.blk s.len) .rw)
theorem SumAt.kp {h h' : H} {p : Nat} {s : Sm} (a : SumAt h p s) (k : Kp h h') : SumAt h' p s := ⟨Nat.lt_of_lt_of_le a.1 k.1, by rw [k.2 _ a.1, a.2]⟩
theorem SumAt.kq {h h' : H} {p q : Nat} {s : Sm} (a : SumAt h p s) (k : Kq q h h') (hn : p ≠ q) : SumAt h' p s := ⟨Nat.lt_of_lt_of_le a.1 k.1, by rw [k.2 _ a.1 hn, a.2]⟩
theorem write_at (e : EnSha E) (x : NoSha X) (M p : Nat) (s : Sm) (ok : SmOk s) (l : List Nat) (a : Option (Nat × Nat)) (n : Nat) (hn : l.length = n) (c : Option Nat) (ez : Nat) (h : H) (hM : l.length < M) (hM2 : l.length < 9223372036854775808) (hp : SumAt h p s) (src : Src h p h.next a ez l) :
    ∃ h', callX E X (M + 80) (.fn k_sha_Sum_Write) [.ptr (some (p, 0)), .slice a n c ez] h = some (.ptr (some (p, 0)), h') ∧ SumAt h' p (absorb s l) ∧ Kq p h h' := by
  subst hn
  obtain ⟨h', r, g, k⟩ := write_go e x M p s ok l a c ez h hM hM2 hp.2 hp.1 src
  exact ⟨h', r, ⟨Nat.lt_of_lt_of_le hp.1 k.1, g⟩, k⟩
/-- bytes that lie in an old block, read when others were laid -/
theorem SrcH.src2 {h h' : H} {a : Option (Nat × Nat)} {e : Nat} {l : List Nat} (s : SrcH h a e l) (hle : h.next ≤ h'.next) (k : ∀ i, i < h.next → h'.get i = h.get i) (p : Nat) (hp : h.next ≤ p) : Src h' p h'.next a e l := s.src ⟨hle, k⟩ p hp
theorem new_at (e : EnSha E) (x : NoSha X) (N : Nat) (h : H) : ∃ h' p, callX E X (N + 2) (.fn k_sha_New) [] h = some (.ptr (some (p, 0)), h') ∧ SumAt h' p initS ∧ Kp h h' ∧ h.next ≤ p := by
  obtain ⟨h', r, g, k, n⟩ := new_go e x N h
  exact ⟨h', h'.next - 1, r, ⟨by omega, g⟩, k, by omega⟩
theorem end_at (e : EnSha E) (x : NoSha X) (M p : Nat) (s : Sm) (ok : SmOk s) (h : H) (hM : 100 < M) (hp : SumAt h p s) : ∃ h', callX E X (M + 81) (.fn k_sha_Sum_End) [.ptr (some (p, 0))] h = some (.agg (ofI .u8 (endV s)), h') ∧ Kp h h' := end_go e x M p s ok h hM hp.2 hp.1
structure PL (h0 : H) (l : List Nat) (a : Option (Nat × Nat)) (w p q : Nat) (sp : Sm) (i : Nat) (T : Tr V) (h : H) : Prop where
  il : i ≤ l.length
  t0 : evO T (.t 0) = .slice a l.length none 1
  t5 : evO T (.t 5) = .bool true
  t7 : evO T (.t 7) = .ptr (some (w, 0))
  t8 : evO T (.t 8) = .ptr (some (p, 0))
  t9 : evO T (.t 9) = .ptr (some (q, 0))
  t39 : evO T (.t 39) = .int .i64 (l.length : Int)
  t40 : evO T (.t 40) = .int .i64 (i : Int)
  sq : SumAt h q (absorb initS (l.take i))
  kq : Kq q h0 h
theorem parts_step (e : EnSha E) (x : NoSha X) (M n : Nat) (hM : 1000 < M) (h0 hs : H) (l : List Nat) (hl : l.length ≤ 1000) (a : Option (Nat × Nat)) (w p q : Nat) (sp : Sm) (src : SrcH hs a 1 l) (kh : Kp hs h0) (hq : hs.next ≤ q) :
    ∀ i T h, i < l.length → PL h0 l a w p q sp i T h → ∃ T' h', evC (callX E X (M + 80)) 79 n none L_purserlaw04_ShaParts_0 ⟨T, [], h⟩ = some (.normal, ⟨T', [], h'⟩) ∧ PL h0 l a w p q sp (i + 1) T' h' := by
  intro i T h hi ⟨il, t0, t5, t7, t8, t9, t39, t40, sq, kq⟩
  have c0 : decide ((i : Int) < (l.length : Int)) = true := decide_eq_true (by omega)
  have wi : wr .i64 ((i : Int) + 1) = ((i + 1 : Nat) : Int) := by rw [wr_i64 (by omega)]; omega
  have sv := slcV_lhA l.length i (i + 1) a .i64 .i64 (by omega) (by omega)
  have l1 : ((l.drop i).take 1).length = i + 1 - i := by rw [List.length_take, List.length_drop]; omega
  have khh : ∀ j, j < hs.next → h.get j = hs.get j := fun j hj => by rw [kq.2 j (Nat.lt_of_lt_of_le hj kh.1) (by omega), kh.2 j hj]
  obtain ⟨h', r, g, k⟩ := write_at e x M q (absorb initS (l.take i)) (absorb_ok _ _ initS_ok) ((l.drop i).take 1) (upA a i) (i + 1 - i) l1 none 1 h (by rw [l1]; omega) (by rw [l1]; omega) sq (((src.drop i).take 1).src2 (Nat.le_trans kh.1 kq.1) khh q hq)
  have ea : absorb (absorb initS (l.take i)) ((l.drop i).take 1) = absorb initS (l.take (i + 1)) := by
    rw [← absorb_app]
    congr 1
    rw [List.take_add]
  rw [ea] at g
  refine ⟨_, h', by
    simp (config := {maxSteps := 2000000}) (disch := first | omega | (simp only [List.length_cons, List.length_nil, List.length_append, List.length_drop]; omega)) only [L_purserlaw04_ShaParts_0, t0, t9, t39, t40, c0, wi, sv, r, ↓x_slcS, x_M1, x_M0, ↓b_xor32, ↓b_and32, ↓b_or32, ↓u_not32, b_xor32, b_and32, b_or32, u_not32, w32ad, ↓x_conv, x_convV, ↓x_fieldAddr, x_fieldV, ↓s_nilchk, x_nilchk, Nat.zero_add, Nat.add_zero, Nat.mul_one, ↓l_loop, ↓l_succ, ↓l_normal, l_normal, l_exit, l_ret, l_iteN, ↓h_put_get, ↓h_new_get, ↓h_del_get, h_next_put, h_next_new, h_next_del, Nat.add_assoc, Nat.add_eq_left, Nat.left_eq_add, Nat.add_left_cancel_iff, ↓s_load, m_load, ↓m_load1, m_load1, ↓m_st, m_stE, m_storeI, m_storeE, w_zero, w_succ, ↓s_alloc, ↓x_idxA, ↓x_idxS, x_idxAE, x_idxSE, x_addrE, x_idx, x_lenS, ↓s_len, ↓x_buildS, x_buildE, ↓x_P0, ↓x_P1, x_fill0, x_filli, x_fills, x_fillb, c_int, List.length_cons, List.length_nil, List.cons_append, List.drop_succ_cons, List.drop_zero, List.drop_nil, List.nil_append, Int.reduceAdd, Int.reduceToNat, Int.reduceLT, Int.reduceLE, Nat.reduceAdd, Nat.reduceMul, Nat.reduceLeDiff, Int.reduceEq, Int.reduceSub, Int.cast_ofNat_Int, s_resc, s_consR, m_load4, m_store4, s_res0, ↓s_skip, ↓s_ops, ↓s_dops, ↓s_seq, ↓s_cond, ↓s_block, ↓s_exit, ↓s_ret, ↓s_scope, ↓s_nil, ↓s_op, ↓s_opg, ↓s_wanted', ↓s_wantV, s_wantV, s_wantV0, beq_true, beq_false, ↓s_bindS, s_bindS, ↓s_bindE, s_bindE, s_bindE_ret, s_bindE_exit, s_bindE_iteN, s_norm, ↓s_condV, s_condV, s_block_ret, s_block_normal, s_block_exit, s_block_iteN, ↓s_getp, ↓s_getp0, ↓s_get, s_get0, ↓s_con, ↓s_fn, ↓s_os0, ↓s_os1, ↓s_list0, ↓s_list1, ↓s_mov, ↓s_pick, ↓s_pickE, s_pickE, ↓s_bin, ↓s_un, ↓s_minmax, ↓s_call, ↓s_callv, ↓s_callV, ↓s_ext, s_same, b_eql, b_neq, b_lss, b_leq, b_gtr, b_geq, b_add, b_sub, b_mul, b_eqlb, b_neqb, b_fnil, b_fnil', b_fnil2, b_fnil2', u_neg, u_not, m_two, s_end, s_end', s_end_iteN, s_res0, s_res1, s_tup1, s_tup2, ↓iteN_true, ↓iteN_false, iteN_true, iteN_false, Nat.zero_add, List.nil_append, List.append_nil, Nat.reduceEqDiff, reduceIte, decide_true, decide_false, Bool.not_true, Bool.not_false, List.getElem?_cons_zero, List.getElem?_cons_succ, Bool.false_eq_true, if_true, if_false, beq_self_eq_true]
    exact rfl, ⟨by omega, (by (simp only [s_getp, s_getp0, Nat.reduceEqDiff, decide_false, decide_true, iteN_false, iteN_true, t0]; try rfl)), (by (simp only [s_getp, s_getp0, Nat.reduceEqDiff, decide_false, decide_true, iteN_false, iteN_true, t5]; try rfl)), (by (simp only [s_getp, s_getp0, Nat.reduceEqDiff, decide_false, decide_true, iteN_false, iteN_true, t7]; try rfl)), (by (simp only [s_getp, s_getp0, Nat.reduceEqDiff, decide_false, decide_true, iteN_false, iteN_true, t8]; try rfl)), (by (simp only [s_getp, s_getp0, Nat.reduceEqDiff, decide_false, decide_true, iteN_false, iteN_true, t9]; try rfl)), (by (simp only [s_getp, s_getp0, Nat.reduceEqDiff, decide_false, decide_true, iteN_false, iteN_true, t39]; try rfl)), (by (simp only [s_getp, s_getp0, Nat.reduceEqDiff, decide_false, decide_true, iteN_false, iteN_true, t0]; try rfl)), g, kq.trans k⟩⟩
theorem parts_loop (e : EnSha E) (x : NoSha X) (M n : Nat) (hM : 1000 < M) (h0 hs : H) (l : List Nat) (hl : l.length ≤ 1000) (hn : l.length < n) (a : Option (Nat × Nat)) (w p q : Nat) (sp : Sm) (src : SrcH hs a 1 l) (kh : Kp hs h0) (hq : hs.next ≤ q) (T : Tr V) (h : H) (I : PL h0 l a w p q sp 0 T h) :
    ∃ T' h', loopN (evC (callX E X (M + 80)) 79 n none L_purserlaw04_ShaParts_0) n ⟨T, [], h⟩ = some (.exit 0, ⟨T', [], h'⟩) ∧ PL h0 l a w p q sp l.length T' h' :=
  loop_go (PL h0 l a w p q sp) l.length (.exit 0) (by intro h; cases h) _ (parts_step e x M n hM h0 hs l hl a w p q sp src kh hq) (fun T h I => by
    obtain ⟨il, t0, t5, t7, t8, t9, t39, t40, sq, kq⟩ := I
    have c0 : decide ((l.length : Int) < (l.length : Int)) = false := decide_eq_false (by omega)
    refine ⟨_, _, by
      simp (config := {maxSteps := 2000000}) (disch := first | omega | (simp only [List.length_cons, List.length_nil, List.length_append, List.length_drop]; omega)) only [L_purserlaw04_ShaParts_0, t39, t40, c0, ↓b_xor32, ↓b_and32, ↓b_or32, ↓u_not32, b_xor32, b_and32, b_or32, u_not32, w32ad, ↓x_conv, x_convV, ↓x_fieldAddr, x_fieldV, ↓s_nilchk, x_nilchk, Nat.zero_add, Nat.add_zero, Nat.mul_one, ↓l_loop, ↓l_succ, ↓l_normal, l_normal, l_exit, l_ret, l_iteN, ↓h_put_get, ↓h_new_get, ↓h_del_get, h_next_put, h_next_new, h_next_del, Nat.add_assoc, Nat.add_eq_left, Nat.left_eq_add, Nat.add_left_cancel_iff, ↓s_load, m_load, ↓m_load1, m_load1, ↓m_st, m_stE, m_storeI, m_storeE, w_zero, w_succ, ↓s_alloc, ↓x_idxA, ↓x_idxS, x_idxAE, x_idxSE, x_addrE, x_idx, x_lenS, ↓s_len, ↓x_buildS, x_buildE, ↓x_P0, ↓x_P1, x_fill0, x_filli, x_fills, x_fillb, c_int, List.length_cons, List.length_nil, List.cons_append, List.drop_succ_cons, List.drop_zero, List.drop_nil, List.nil_append, Int.reduceAdd, Int.reduceToNat, Int.reduceLT, Int.reduceLE, Nat.reduceAdd, Nat.reduceMul, Nat.reduceLeDiff, Int.reduceEq, Int.reduceSub, Int.cast_ofNat_Int, s_resc, s_consR, m_load4, m_store4, s_res0, ↓s_skip, ↓s_ops, ↓s_dops, ↓s_seq, ↓s_cond, ↓s_block, ↓s_exit, ↓s_ret, ↓s_scope, ↓s_nil, ↓s_op, ↓s_opg, ↓s_wanted', ↓s_wantV, s_wantV, s_wantV0, beq_true, beq_false, ↓s_bindS, s_bindS, ↓s_bindE, s_bindE, s_bindE_ret, s_bindE_exit, s_bindE_iteN, s_norm, ↓s_condV, s_condV, s_block_ret, s_block_normal, s_block_exit, s_block_iteN, ↓s_getp, ↓s_getp0, ↓s_get, s_get0, ↓s_con, ↓s_fn, ↓s_os0, ↓s_os1, ↓s_list0, ↓s_list1, ↓s_mov, ↓s_pick, ↓s_pickE, s_pickE, ↓s_bin, ↓s_un, ↓s_minmax, ↓s_call, ↓s_callv, ↓s_callV, ↓s_ext, s_same, b_eql, b_neq, b_lss, b_leq, b_gtr, b_geq, b_add, b_sub, b_mul, b_eqlb, b_neqb, b_fnil, b_fnil', b_fnil2, b_fnil2', u_neg, u_not, m_two, s_end, s_end', s_end_iteN, s_res0, s_res1, s_tup1, s_tup2, ↓iteN_true, ↓iteN_false, iteN_true, iteN_false, Nat.zero_add, List.nil_append, List.append_nil, Nat.reduceEqDiff, reduceIte, decide_true, decide_false, Bool.not_true, Bool.not_false, List.getElem?_cons_zero, List.getElem?_cons_succ, Bool.false_eq_true, if_true, if_false, beq_self_eq_true]
      exact rfl, ⟨il, (by (simp only [s_getp, s_getp0, Nat.reduceEqDiff, decide_false, decide_true, iteN_false, iteN_true, t0]; try rfl)), (by (simp only [s_getp, s_getp0, Nat.reduceEqDiff, decide_false, decide_true, iteN_false, iteN_true, t5]; try rfl)), (by (simp only [s_getp, s_getp0, Nat.reduceEqDiff, decide_false, decide_true, iteN_false, iteN_true, t7]; try rfl)), (by (simp only [s_getp, s_getp0, Nat.reduceEqDiff, decide_false, decide_true, iteN_false, iteN_true, t8]; try rfl)), (by (simp only [s_getp, s_getp0, Nat.reduceEqDiff, decide_false, decide_true, iteN_false, iteN_true, t9]; try rfl)), (by (simp only [s_getp, s_getp0, Nat.reduceEqDiff, decide_false, decide_true, iteN_false, iteN_true, t39]; try rfl)), (by (simp only [s_getp, s_getp0, Nat.reduceEqDiff, decide_false, decide_true, iteN_false, iteN_true, t40]; try rfl)), sq, kq⟩⟩) l.length 0 (by omega) n hn T h I
/-- what the laws of sha know -/
noncomputable def shX (k : Nat) : Orc := orX ofX1 (pureX k aliveS)
theorem sh_no (k : Nat) (hk : ∀ f, f = k_math_bits_RotateLeft32 ∨ f = k_sha_turned ∨ f = k_sha_cubeTable ∨ f = k_sha_squareTable ∨ f = k_sha_Sum_schedule ∨ f = k_sha_Sum_mix ∨ f = k_sha_Sum_sums ∨ f = k_sha_Sum_fill ∨ f = k_sha_Sum_fill_1 ∨ f = k_sha_padding ∨ f = k_sha_Sum_Write ∨ f = k_sha_Sum_End ∨ f = k_sha_New → Nat.beq f k = false) : NoSha (shX k) := by
  have g : ∀ f, Nat.beq f k_sha_Of = false → Nat.beq f k = false → ∀ a h, shX k (.fn f) a h = none := fun f h1 h2 a h => (orX_r (bytesX_no h h1)).trans (pureX_no h h2)
  exact ⟨g _ rfl (hk _ (by simp)), g _ rfl (hk _ (by simp)), g _ rfl (hk _ (by simp)), g _ rfl (hk _ (by simp)), g _ rfl (hk _ (by simp)), g _ rfl (hk _ (by simp)), g _ rfl (hk _ (by simp)), g _ rfl (hk _ (by simp)), g _ rfl (hk _ (by simp)), g _ rfl (hk _ (by simp)), g _ rfl (hk _ (by simp)), g _ rfl (hk _ (by simp)), g _ rfl (hk _ (by simp)), fun _ _ _ => rfl⟩
theorem x_ofH (hx : HasOf X) (N : Nat) (l : List Nat) (a : Option (Nat × Nat)) (c : Option Nat) (h : H) {ez : Nat} (src : SrcH h a ez l) (hl : l.length ≤ 100000) : callX E X (N + 1) (.fn k_sha_Of) [.slice a l.length c ez] h = some (.agg (ofI .u8 (shaV l)), h) := by
  refine x_known (hx _ _ l _ ?_ (by unfold ofS; rw [decide_eq_true hl]; rfl))
  rcases src with rfl | ⟨bi, off, vs, m, rfl, rfl, h3, h4, h5, h6⟩
  · rfl
  · cases hn : l.length with
    | zero => rw [List.length_eq_zero_iff.1 hn]; rfl
    | succ n =>
      show rdC (n + 1) off (h.get bi) = some l
      rw [h4]
      unfold rdC
      rw [hn] at h5 h6
      simp only [readN_of _ _ _ h5, h6, unI]
set_option maxRecDepth 100000 in
theorem law_ShaParts (k N : Nat) (hN : 2000 ≤ N) (e : EnSha E) (el : E k_purserlaw04_ShaParts = some f_purserlaw04_ShaParts) (eL : E k_sha_Sum_Len = some f_sha_Sum_Len) (x : NoSha (shX k)) (hk : k = k_purserlaw04_alive) (hx : ∀ a h, shX k (.fn k_purserlaw04_ShaParts) a h = none) (hxL : ∀ a h, shX k (.fn k_sha_Sum_Len) a h = none) (hxO : HasOf (shX k)) (hal : ∀ h, shX k (.fn k) [] h = some (.bool true, h))
    (l : List Nat) (a : Option (Nat × Nat)) (at_ : Nat) (hat : at_ < 65536) (h : H) (src : SrcH h a 1 l) :
    ∃ h2, callX E (shX k) (N + 1) (.fn k_purserlaw04_ShaParts) [.slice a l.length none 1, .int .u16 (at_ : Int)] h = some (.bool true, h2) := by
  rw [x_cfn el _ _ (Nat.le_of_ble_eq_true rfl) (hx _ _)]
  have al : ∀ h, callX E (shX k) N (.fn k) [] h = some (.bool true, h) := fun h => by obtain ⟨M, rfl⟩ : ∃ M, N = M + 1 := ⟨N - 1, by omega⟩; exact x_known (hal h)
  rw [hk] at al
  rw [← z32e]
  by_cases hl : 1000 < l.length
  · have c1 : decide ((1000 : Int) < (l.length : Int)) = true := decide_eq_true (by omega)
    rw [hk]
    simp (config := {maxSteps := 2000000}) (disch := first | omega | rfl | (simp only [ofI_len, shaV_len, List.length_append, List.length_take, List.length_drop, List.length_cons, List.length_nil, List.length_replicate, List.length_set]; done) | (simp only [ofI_len, shaV_len, List.length_append, List.length_take, List.length_drop, List.length_cons, List.length_nil, List.length_replicate, List.length_set]; omega)) only [al, c1, ↓s_len, x_lenS, ↓b_xor32, ↓b_and32, ↓b_or32, ↓u_not32, b_xor32, b_and32, b_or32, u_not32, w32ad, ↓x_conv, x_convV, ↓x_fieldAddr, x_fieldV, ↓s_nilchk, x_nilchk, Nat.zero_add, Nat.add_zero, Nat.mul_one, ↓l_loop, ↓l_succ, ↓l_normal, l_normal, l_exit, l_ret, l_iteN, ↓h_put_get, ↓h_new_get, ↓h_del_get, h_next_put, h_next_new, h_next_del, Nat.add_assoc, Nat.add_eq_left, Nat.left_eq_add, Nat.add_left_cancel_iff, ↓s_load, m_load, ↓m_load1, m_load1, ↓m_st, m_stE, m_storeI, m_storeE, ↓s_alloc, ↓x_idxA, ↓x_idxS, x_idxAE, x_idxSE, x_addrE, x_idx, x_lenS, ↓s_len, ↓x_buildS, x_buildE, ↓x_P0, ↓x_P1, x_fill0, x_filli, x_fills, x_fillb, c_int, List.length_cons, List.length_nil, List.cons_append, List.drop_succ_cons, List.drop_zero, List.drop_nil, List.nil_append, Int.reduceAdd, Int.reduceToNat, Int.reduceLT, Int.reduceLE, Nat.reduceAdd, Nat.reduceMul, Nat.reduceLeDiff, Int.reduceEq, Int.reduceSub, Int.cast_ofNat_Int, s_resc, s_consR, m_load4, m_store4, s_res0, ↓s_skip, ↓s_ops, ↓s_dops, ↓s_seq, ↓s_cond, ↓s_block, ↓s_exit, ↓s_ret, ↓s_scope, ↓s_nil, ↓s_op, ↓s_opg, ↓s_wanted', ↓s_wantV, s_wantV, s_wantV0, beq_true, beq_false, ↓s_bindS, s_bindS, ↓s_bindE, s_bindE, s_bindE_ret, s_bindE_exit, s_bindE_iteN, s_norm, ↓s_condV, s_condV, s_block_ret, s_block_normal, s_block_exit, s_block_iteN, ↓s_getp, ↓s_getp0, ↓s_get, s_get0, ↓s_con, ↓s_fn, ↓s_os0, ↓s_os1, ↓s_list0, ↓s_list1, ↓s_mov, ↓s_pick, ↓s_pickE, s_pickE, ↓s_bin, ↓s_un, ↓s_minmax, ↓s_call, ↓s_callv, ↓s_callV, ↓s_ext, s_same, b_eql, b_neq, b_lss, b_leq, b_gtr, b_geq, b_add, b_sub, b_mul, b_eqlb, b_neqb, b_fnil, b_fnil', b_fnil2, b_fnil2', u_neg, u_not, m_two, s_end, s_end', s_end_iteN, s_res0, s_res1, s_tup1, s_tup2, ↓iteN_true, ↓iteN_false, iteN_true, iteN_false, Nat.zero_add, List.nil_append, List.append_nil, Nat.reduceEqDiff, reduceIte, decide_true, decide_false, Bool.not_true, Bool.not_false, List.getElem?_cons_zero, List.getElem?_cons_succ, Bool.false_eq_true, if_true, if_false, beq_self_eq_true]
    exact ⟨_, rfl⟩
  · have c1 : decide ((1000 : Int) < (l.length : Int)) = false := decide_eq_false (by omega)
    have wat : wr .i64 (at_ : Int) = (at_ : Int) := w64n (by omega)
    have w1 : wr .i64 ((l.length : Int) + 1) = ((l.length + 1 : Nat) : Int) := by rw [wr_i64 (by omega)]; omega
    obtain ⟨n, en⟩ : ∃ n, at_ % (l.length + 1) = n := ⟨_, rfl⟩
    have hn : n ≤ l.length := by have := Nat.mod_lt at_ (Nat.succ_pos l.length); simp only [Nat.succ_eq_add_one] at this; omega
    have ra : ∀ e h, binV .rem e h (.int .i64 (at_ : Int)) (.int .i64 ((l.length + 1 : Nat) : Int)) = some (.int .i64 (n : Int)) := fun e h => by rw [b_rem _ _ _ _ _ (by omega), ← en]; rfl
    obtain ⟨M, rfl⟩ : ∃ M, N = M + 81 := ⟨N - 81, by omega⟩
    have oo := x_ofH (E := E) hxO (M + 80) l a none h src (by omega)
    obtain ⟨q1, q2, q3⟩ := put32 (shaV l) (shaV_len l)
    obtain ⟨hA, eA⟩ : ∃ hA, (h.new (.cells (ofI .u8 (List.replicate 32 0)) .rw)).put h.next (.cells (ofI .u8 (shaV l)) .rw) = hA := ⟨_, rfl⟩
    have kA : Kp h hA := by rw [← eA]; exact (Kp.new _ _).put _ (Nat.le_refl _)
    have nA : hA.next = h.next + 1 := by rw [← eA]; rfl
    have gA : hA.get h.next = some (.cells (ofI .u8 (shaV l)) .rw) := by rw [← eA, h_put_same]
    obtain ⟨hB, p, rB, sB, kB, pB⟩ := new_at e x (M + 79) hA
    have n1 : (l.take n).length = n := by rw [List.length_take]; omega
    have n2 : (l.drop n).length = l.length - n := List.length_drop ..
    have kAB := kA.trans kB
    obtain ⟨hC, rC, sC, kC⟩ := write_at e x (M + 1) p initS initS_ok (l.take n) a n n1 none 1 hB (by omega) (by omega) sB ((src.take n).src kAB p (by omega))
    have kAC : Kp h hC := ⟨Nat.le_trans kAB.1 kC.1, fun i hi => by rw [kC.2 i (Nat.lt_of_lt_of_le hi kAB.1) (by omega), kAB.2 i hi]⟩
    obtain ⟨hD, rD, sD, kD⟩ := write_at e x (M + 1) p _ (absorb_ok _ _ initS_ok) (l.drop n) (upA a n) (l.length - n) n2 none 1 hC (by omega) (by omega) sC ((src.drop n).src2 kAC.1 kAC.2 p (by omega))
    have ea : absorb (absorb initS (l.take n)) (l.drop n) = absorb initS l := by rw [← absorb_app, List.take_append_drop]
    rw [ea] at sD
    have kAD : Kp h hD := ⟨Nat.le_trans kAC.1 kD.1, fun i hi => by rw [kD.2 i (Nat.lt_of_lt_of_le hi kAC.1) (by omega), kAC.2 i hi]⟩
    obtain ⟨hE, q, rE, sE, kE, pE⟩ := new_at e x (M + 79) hD
    have kAE := kAD.trans kE
    have pq : p ≠ q := by have := sD.1; omega
    have gE : hE.get h.next = some (.cells (ofI .u8 (shaV l)) .rw) := by
      have hb : h.next < hB.next := by have := kB.1; omega
      rw [kE.2 _ (by have := kD.1; have := kC.1; omega), kD.2 _ (by have := kC.1; omega) (by omega), kC.2 _ hb (by omega), kB.2 _ (by omega), gA]
    have sEp : SumAt hE p (absorb initS l) := sD.kp kE
    have fin : ∀ T, PL hE l a h.next p q initS 0 T hE → ∃ h2, fnEnd [.tmp 4] (bindE (blockE 0 (loopN (evC (callX E (shX k) (M + 81)) 79 (M + 81) none L_purserlaw04_ShaParts_0) (M + 81) ⟨T, [], hE⟩)) (evC (callX E (shX k) (M + 81)) 79 (M + 81) none R_purserlaw04_ShaParts_0)) = some (.bool true, h2) := by
      intro T I
      obtain ⟨T', hF, r1, il, t0, t5, t7, t8, t9, t39, t40, sF, kF⟩ := parts_loop e x (M + 1) (M + 81) (by omega) hE h l (by omega) (by omega) a h.next p q initS src kAE (by have := kAD.1; omega) T hE I
      rw [List.take_length] at sF
      replace r1 : loopN (evC (callX E (shX k) (M + 81)) 79 (M + 81) none L_purserlaw04_ShaParts_0) (M + 81) ⟨T, [], hE⟩ = some (.exit 0, ⟨T', [], hF⟩) := r1
      rw [r1]
      have ok := absorb_ok l initS initS_ok
      have sFp : SumAt hF p (absorb initS l) := sEp.kq kF pq
      have nE : h.next < hE.next := by have := sEp.1; have := sB.1; omega
      have gF : hF.get h.next = some (.cells (ofI .u8 (shaV l)) .rw) := by rw [kF.2 _ nE (by have := kAD.1; have := kB.1; have := kC.1; have := kD.1; omega), gE]
      obtain ⟨hG, rG, kG⟩ := end_at e x M p _ ok hF (by omega) sFp
      have gG : hG.get h.next = some (.cells (ofI .u8 (shaV l)) .rw) := by rw [kG.2 _ (Nat.lt_of_lt_of_le nE kF.1), gF]
      obtain ⟨hI, rI, kI⟩ := end_at e x M q _ ok hG (by omega) (sF.kp kG)
      have gI : hI.get h.next = some (.cells (ofI .u8 (shaV l)) .rw) := by rw [kI.2 _ (Nat.lt_of_lt_of_le nE (Nat.le_trans kF.1 kG.1)), gG]
      have sIq := (sF.kp kG).kp kI
      have sIp := (sFp.kp kG).kp kI
      have rL := len_go eL hxL e x (M + 79) q _ ok .rw hI sIq.2
      rw [len_absorb l initS initS_ok (by simp only [initS]; omega)] at rL
      simp only [initS, Nat.zero_add] at rL
      obtain ⟨hJ, rJ, sJ, kJ⟩ := write_at e x (M + 1) p _ ok [] none 0 rfl (some 0) 0 hI (by simp) (by simp) sIp (.inl rfl)
      have gJ : hJ.get h.next = some (.cells (ofI .u8 (shaV l)) .rw) := by
        have := Nat.lt_of_lt_of_le nE (Nat.le_trans kF.1 (Nat.le_trans kG.1 kI.1))
        rw [kJ.2 _ this (by have := kB.1; omega), gI]
      obtain ⟨hK, rK, kK⟩ := end_at e x M p _ ok hJ (by omega) sJ
      have gK : hK.get h.next = some (.cells (ofI .u8 (shaV l)) .rw) := by
        have := Nat.lt_of_lt_of_le nE (Nat.le_trans kF.1 (Nat.le_trans kG.1 (Nat.le_trans kI.1 kJ.1)))
        rw [kK.2 _ this, gJ]
      have es : endV (absorb initS l) = shaV l := rfl
      rw [es] at rG rI rK
      replace rJ : callX E (shX k) (M + 81) (.fn k_sha_Sum_Write) [.ptr (some (p, 0)), .slice none 0 (some 0) 0] hI = some (.ptr (some (p, 0)), hJ) := rJ
      have wl : wr .u64 (l.length : Int) = (l.length : Int) := u64n _ (by omega)
      have sl32 := shaV_len l
      simp (config := {maxSteps := 2000000}) (disch := first | omega | rfl | (simp only [ofI_len, shaV_len, List.length_append, List.length_take, List.length_drop, List.length_cons, List.length_nil, List.length_replicate, List.length_set]; done) | (simp only [ofI_len, shaV_len, List.length_append, List.length_take, List.length_drop, List.length_cons, List.length_nil, List.length_replicate, List.length_set]; omega)) only [R_purserlaw04_ShaParts_0, t0, t5, t7, t8, t9, gF, gG, gI, gJ, gK, rG, rI, rL, rJ, rK, wl, sl32, q3, vbeq_I, ↓s_len, x_lenS, ↓s_dBuildS, s_dbE, rdI, ofI_get, m_src, m_src0, srcI, ldI, ld1I, wrAll, wrI, wr1I, stI, st32, take_all, drop_all, List.take_zero, List.drop_zero, List.nil_append, List.append_nil, appF_of, appFI, appF0, appU_of, appUIw, appUIs, app0, appN, eq32, neq32, ↓s_append, ↓x_copy, ↓x_slcA, x_slcAE, slcB_nn, slcB_hi, slcB_lo, slcB_lh, slcV_nn, slcV_hiU, slcV_hiC, slcV_lo, slcV_loL, slcV_hiUL, slcV_hiCL, slcV_mxL, slcB_hiL, slcB_loL, subC_some, subC_none, ↓x_slcS, x_bnd0, x_M1, x_M0, x_lenA, ofQ_some, Nat.sub_zero, ofI_len, shaV_len, ↓s_box, c_agg, List.length_append, List.length_cons, List.length_nil, Nat.reduceLeDiff, Nat.reduceSub, List.length_replicate, ↓b_xor32, ↓b_and32, ↓b_or32, ↓u_not32, b_xor32, b_and32, b_or32, u_not32, w32ad, ↓x_conv, x_convV, ↓x_fieldAddr, x_fieldV, ↓s_nilchk, x_nilchk, Nat.zero_add, Nat.add_zero, Nat.mul_one, ↓s_evD, ↓s_dnil, ↓s_dL, ↓s_dLg, ↓s_dR, ↓s_dRg, ↓s_dRj, ↓s_dRjg, ↓s_dB, ↓s_dBg, ↓s_dAlloc, ↓s_bindD, s_bindD, s_finD, s_finDx, s_addP0, s_addP1, s_addB, s_lookP, ↓s_bump0, ↓s_bump_get, s_bump_next, s_ok0, ↓s_ok1, s_okR0, ↓s_okR1, ↓s_okE, s_okE, s_okE1, s_nth0, s_nthS, Nat.add_zero, Bool.and_self, Bool.and_true, Bool.true_and, ↓l_loop, ↓l_succ, ↓l_normal, l_normal, l_exit, l_ret, l_iteN, ↓h_put_get, ↓h_new_get, ↓h_del_get, h_next_put, h_next_new, h_next_del, Nat.add_assoc, Nat.add_eq_left, Nat.left_eq_add, Nat.add_left_cancel_iff, ↓s_load, m_load, ↓m_load1, m_load1, ↓m_st, m_stE, m_storeI, m_storeE, ↓s_alloc, ↓x_idxA, ↓x_idxS, x_idxAE, x_idxSE, x_addrE, x_idx, x_lenS, ↓s_len, ↓x_buildS, x_buildE, ↓x_P0, ↓x_P1, x_fill0, x_filli, x_fills, x_fillb, c_int, List.length_cons, List.length_nil, List.cons_append, List.drop_succ_cons, List.drop_zero, List.drop_nil, List.nil_append, Int.reduceAdd, Int.reduceToNat, Int.reduceLT, Int.reduceLE, Nat.reduceAdd, Nat.reduceMul, Nat.reduceLeDiff, Int.reduceEq, Int.reduceSub, Int.cast_ofNat_Int, s_resc, s_consR, m_load4, m_store4, s_res0, ↓s_skip, ↓s_ops, ↓s_dops, ↓s_seq, ↓s_cond, ↓s_block, ↓s_exit, ↓s_ret, ↓s_scope, ↓s_nil, ↓s_op, ↓s_opg, ↓s_wanted', ↓s_wantV, s_wantV, s_wantV0, beq_true, beq_false, ↓s_bindS, s_bindS, ↓s_bindE, s_bindE, s_bindE_ret, s_bindE_exit, s_bindE_iteN, s_norm, ↓s_condV, s_condV, s_block_ret, s_block_normal, s_block_exit, s_block_iteN, ↓s_getp, ↓s_getp0, ↓s_get, s_get0, ↓s_con, ↓s_fn, ↓s_os0, ↓s_os1, ↓s_list0, ↓s_list1, ↓s_mov, ↓s_pick, ↓s_pickE, s_pickE, ↓s_bin, ↓s_un, ↓s_minmax, ↓s_call, ↓s_callv, ↓s_callV, ↓s_ext, s_same, b_eql, b_neq, b_lss, b_leq, b_gtr, b_geq, b_add, b_sub, b_mul, b_eqlb, b_neqb, b_fnil, b_fnil', b_fnil2, b_fnil2', u_neg, u_not, m_two, s_end, s_end', s_end_iteN, s_res0, s_res1, s_tup1, s_tup2, ↓iteN_true, ↓iteN_false, iteN_true, iteN_false, Nat.zero_add, List.nil_append, List.append_nil, Nat.reduceEqDiff, reduceIte, decide_true, decide_false, Bool.not_true, Bool.not_false, List.getElem?_cons_zero, List.getElem?_cons_succ, Bool.false_eq_true, if_true, if_false, beq_self_eq_true]
      exact ⟨_, rfl⟩
    obtain ⟨R, eR⟩ : ∃ R, R_purserlaw04_ShaParts_0 = R := ⟨_, rfl⟩
    obtain ⟨Lo, eLo⟩ : ∃ R, L_purserlaw04_ShaParts_0 = R := ⟨_, rfl⟩
    rw [eR, eLo] at fin ⊢
    have sv1 := slcV_hiA l.length n a .i64 hn
    have sv2 := slcV_loA l.length n a .i64 hn
    replace rC : callX E (shX k) (M + 81) (.fn k_sha_Sum_Write) [.ptr (some (p, 0)), .slice a n none 1] hB = some (.ptr (some (p, 0)), hC) := rC
    replace rD : callX E (shX k) (M + 81) (.fn k_sha_Sum_Write) [.ptr (some (p, 0)), .slice (upA a n) (l.length - n) none 1] hC = some (.ptr (some (p, 0)), hD) := rD
    rw [hk] at *
    generalize ofI .u8 (shaV l) = SV at *
    generalize ofI .u8 (List.replicate 32 0) = Z at *
    simp (config := {maxSteps := 2000000}) (disch := first | omega | rfl | (simp only [ofI_len, shaV_len, List.length_append, List.length_take, List.length_drop, List.length_cons, List.length_nil, List.length_replicate, List.length_set]; done) | (simp only [ofI_len, shaV_len, List.length_append, List.length_take, List.length_drop, List.length_cons, List.length_nil, List.length_replicate, List.length_set]; omega)) only [al, c1, oo, wat, w1, ra, q1, q2, eA, rB, rC, rD, rE, sv1, sv2, ↓s_len, x_lenS, ↓x_slcS, x_M0, x_M1, ↓b_xor32, ↓b_and32, ↓b_or32, ↓u_not32, b_xor32, b_and32, b_or32, u_not32, w32ad, ↓x_conv, x_convV, ↓x_fieldAddr, x_fieldV, ↓s_nilchk, x_nilchk, Nat.zero_add, Nat.add_zero, Nat.mul_one, ↓s_evD, ↓s_dnil, ↓s_dL, ↓s_dLg, ↓s_dR, ↓s_dRg, ↓s_dRj, ↓s_dRjg, ↓s_dB, ↓s_dBg, ↓s_dAlloc, ↓s_bindD, s_bindD, s_finD, s_finDx, s_addP0, s_addP1, s_addB, s_lookP, ↓s_bump0, ↓s_bump_get, s_bump_next, s_ok0, ↓s_ok1, s_okR0, ↓s_okR1, ↓s_okE, s_okE, s_okE1, s_nth0, s_nthS, Nat.add_zero, Bool.and_self, Bool.and_true, Bool.true_and, ↓l_loop, ↓l_succ, ↓l_normal, l_normal, l_exit, l_ret, l_iteN, ↓h_put_get, ↓h_new_get, ↓h_del_get, h_next_put, h_next_new, h_next_del, Nat.add_assoc, Nat.add_eq_left, Nat.left_eq_add, Nat.add_left_cancel_iff, ↓s_load, m_load, ↓m_load1, m_load1, ↓m_st, m_stE, m_storeI, w_zero, w_succ, ↓s_alloc, ↓x_idxA, ↓x_idxS, x_idxAE, x_idxSE, x_addrE, x_idx, x_lenS, ↓s_len, ↓x_buildS, x_buildE, ↓x_P0, ↓x_P1, x_fill0, x_filli, x_fills, x_fillb, c_int, List.length_cons, List.length_nil, List.cons_append, List.drop_succ_cons, List.drop_zero, List.drop_nil, List.nil_append, Int.reduceAdd, Int.reduceToNat, Int.reduceLT, Int.reduceLE, Nat.reduceAdd, Nat.reduceMul, Nat.reduceLeDiff, Int.reduceEq, Int.reduceSub, Int.cast_ofNat_Int, s_resc, s_consR, m_load4, m_store4, s_res0, ↓s_skip, ↓s_ops, ↓s_dops, ↓s_seq, ↓s_cond, ↓s_block, ↓s_exit, ↓s_ret, ↓s_scope, ↓s_nil, ↓s_op, ↓s_opg, ↓s_wanted', ↓s_wantV, s_wantV, s_wantV0, beq_true, beq_false, ↓s_bindS, s_bindS, ↓s_bindE, s_bindE, s_bindE_ret, s_bindE_exit, s_bindE_iteN, s_norm, ↓s_condV, s_condV, s_block_ret, s_block_normal, s_block_exit, s_block_iteN, ↓s_getp, ↓s_getp0, ↓s_get, s_get0, ↓s_con, ↓s_fn, ↓s_os0, ↓s_os1, ↓s_list0, ↓s_list1, ↓s_mov, ↓s_pick, ↓s_pickE, s_pickE, ↓s_bin, ↓s_un, ↓s_minmax, ↓s_call, ↓s_callv, ↓s_callV, ↓s_ext, s_same, b_eql, b_neq, b_lss, b_leq, b_gtr, b_geq, b_add, b_sub, b_mul, b_eqlb, b_neqb, b_fnil, b_fnil', b_fnil2, b_fnil2', u_neg, u_not, m_two, s_end, s_end', s_end_iteN, s_res0, s_res1, s_tup1, s_tup2, ↓iteN_true, ↓iteN_false, iteN_true, iteN_false, Nat.zero_add, List.nil_append, List.append_nil, Nat.reduceEqDiff, reduceIte, decide_true, decide_false, Bool.not_true, Bool.not_false, List.getElem?_cons_zero, List.getElem?_cons_succ, Bool.false_eq_true, if_true, if_false, beq_self_eq_true]
    exact fin _ ⟨by omega, (by (simp only [s_getp, s_getp0, Nat.reduceEqDiff, decide_false, decide_true, iteN_false, iteN_true, eA]; try rfl)), (by (simp only [s_getp, s_getp0, Nat.reduceEqDiff, decide_false, decide_true, iteN_false, iteN_true, eA]; try rfl)), (by (simp only [s_getp, s_getp0, Nat.reduceEqDiff, decide_false, decide_true, iteN_false, iteN_true, eA]; try rfl)), (by (simp only [s_getp, s_getp0, Nat.reduceEqDiff, decide_false, decide_true, iteN_false, iteN_true, eA]; try rfl)), (by (simp only [s_getp, s_getp0, Nat.reduceEqDiff, decide_false, decide_true, iteN_false, iteN_true, eA]; try rfl)), (by (simp only [s_getp, s_getp0, Nat.reduceEqDiff, decide_false, decide_true, iteN_false, iteN_true, eA]; try rfl)), (by (simp only [s_getp, s_getp0, Nat.reduceEqDiff, decide_false, decide_true, iteN_false, iteN_true, eA]; try rfl)), sE, Kq.refl _ _⟩
end Go.Eng
namespace Go.Eng
open Go
variable {E : Nat → Option Fn} {X : Orc}
set_option linter.unusedSimpArgs false
set_option linter.unusedVariables false
theorem s_dBuildSg {Q : Orc} {base : Nat} (d : Option Nat) (z : List V) (len esz : Nat) (ps : List (Nat × Nat × O)) (s : Nat) (j : Nat) (w : Bool) (r : List (Op × Cl)) (T : Tr V) (hb : H) (p : List (Nat × Blk)) (hi : List H) (c : List (A × Tr V × List (Nat × List Nat) × V)) :
    evDxl Q base ((⟨d, .buildS z len esz ps, some (j, w)⟩, .Al s) :: r) ⟨T, hb, p, hi, c⟩ = iteN (wanted T (some (j, w))) (dbE (fillV z (evP T ps)) fun l => evDxl Q base r ⟨putT T d (.slice (some (base + s, 0)) len (some len) esz), hb, (s, .cells l .rw) :: p, hi, c⟩) (evDxl Q base r ⟨putT T d undefV, hb, p, hi, c⟩) := by
  have e0 := s_dBuildS (Q := Q) (base := base) d z len esz ps s r T hb p hi c
  simp only [evDxl, evDx1, evD1, wanted] at e0
  simp only [evDxl, evDx1, evD1]
  cases hw : wanted T (some (j, w)) with
  | false => rfl
  | true => simp only [iteN_true]; exact e0
/-! sha.Twice, known -/
def twS (l : List Nat) : Option V := if decide (l.length ≤ 100000) then some (.agg (ofI .u8 (shaV (shaV l)))) else none
theorem twice_go (e : E k_sha_Twice = some f_sha_Twice) (x : ∀ a h, X (.fn k_sha_Twice) a h = none) (hx : HasOf X) (N : Nat) (l : List Nat) (hl : l.length ≤ 100000) (a : Option (Nat × Nat)) (c : Option Nat) (h : H) {ez : Nat} (src : SrcH h a ez l) :
    ∃ h', callX E X (N + 2) (.fn k_sha_Twice) [.slice a l.length c ez] h = some (.agg (ofI .u8 (shaV (shaV l))), h') ∧ Kp h h' := by
  rw [x_cfn e _ _ (Nat.le_of_ble_eq_true rfl) (x _ _)]
  have o1 := x_ofH (E := E) hx N l a c (h.new (.cells (ofI .u8 (List.replicate 32 0)) .rw)) (src.mono (Kp.new _ _)) hl
  have lv := shaV_len l
  have lv2 := shaV_len (shaV l)
  have fo := fun i off n c h => x_ofQ (E := E) hx N i off n c h
  rw [← z32e]
  obtain ⟨n, en⟩ : ∃ n, l.length = n := ⟨_, rfl⟩
  rw [en] at o1 ⊢
  simp (config := {maxSteps := 2000000}) (disch := first | omega | rfl | (simp only [ofI_len, shaV_len, List.length_append, List.length_take, List.length_drop, List.length_cons, List.length_nil, List.length_replicate, List.length_set]; done) | (simp only [ofI_len, shaV_len, List.length_append, List.length_take, List.length_drop, List.length_cons, List.length_nil, List.length_replicate, List.length_set]; omega)) only [o1, lv, lv2, ↓fo, ↓s_dBuildS, s_dbE, rdI, ofI_get, m_src, m_src0, srcI, ldI, ld1I, wrAll, wrI, wr1I, stI, st32, take_all, drop_all, List.take_zero, List.drop_zero, List.nil_append, List.append_nil, appF_of, appFI, appF0, appU_of, appUIw, appUIs, app0, appN, eq32, neq32, ↓s_append, ↓x_copy, ↓x_slcA, x_slcAE, slcB_nn, slcB_hi, slcB_lo, slcB_lh, slcV_nn, slcV_hiU, slcV_hiC, slcV_lo, slcV_loL, slcV_hiUL, slcV_hiCL, slcV_mxL, slcB_hiL, slcB_loL, subC_some, subC_none, ↓x_slcS, x_bnd0, x_M1, x_M0, x_lenA, ofQ_some, Nat.sub_zero, ofI_len, shaV_len, ↓s_box, c_agg, List.length_append, List.length_cons, List.length_nil, Nat.reduceLeDiff, Nat.reduceSub, List.length_replicate, ↓b_xor32, ↓b_and32, ↓b_or32, ↓u_not32, b_xor32, b_and32, b_or32, u_not32, w32ad, ↓x_conv, x_convV, ↓x_fieldAddr, x_fieldV, ↓s_nilchk, x_nilchk, Nat.zero_add, Nat.add_zero, Nat.mul_one, ↓s_evD, ↓s_dnil, ↓s_dL, ↓s_dLg, ↓s_dR, ↓s_dRg, ↓s_dRj, ↓s_dRjg, ↓s_dB, ↓s_dBg, ↓s_dAlloc, ↓s_bindD, s_bindD, s_finD, s_finDx, s_addP0, s_addP1, s_addB, s_lookP, ↓s_bump0, ↓s_bump_get, s_bump_next, s_ok0, ↓s_ok1, s_okR0, ↓s_okR1, ↓s_okE, s_okE, s_okE1, s_nth0, s_nthS, Nat.add_zero, Bool.and_self, Bool.and_true, Bool.true_and, ↓l_loop, ↓l_succ, ↓l_normal, l_normal, l_exit, l_ret, l_iteN, ↓h_put_get, ↓h_new_get, ↓h_del_get, h_next_put, h_next_new, h_next_del, Nat.add_assoc, Nat.add_eq_left, Nat.left_eq_add, Nat.add_left_cancel_iff, ↓s_load, m_load, ↓m_load1, m_load1, ↓m_st, m_stE, m_storeI, m_storeE, ↓s_alloc, ↓x_idxA, ↓x_idxS, x_idxAE, x_idxSE, x_addrE, x_idx, x_lenS, ↓s_len, ↓x_buildS, x_buildE, ↓x_P0, ↓x_P1, x_fill0, x_filli, x_fills, x_fillb, c_int, List.length_cons, List.length_nil, List.cons_append, List.drop_succ_cons, List.drop_zero, List.drop_nil, List.nil_append, Int.reduceAdd, Int.reduceToNat, Int.reduceLT, Int.reduceLE, Nat.reduceAdd, Nat.reduceMul, Nat.reduceLeDiff, Int.reduceEq, Int.reduceSub, Int.cast_ofNat_Int, s_resc, s_consR, m_load4, m_store4, s_res0, ↓s_skip, ↓s_ops, ↓s_dops, ↓s_seq, ↓s_cond, ↓s_block, ↓s_exit, ↓s_ret, ↓s_scope, ↓s_nil, ↓s_op, ↓s_opg, ↓s_wanted', ↓s_wantV, s_wantV, s_wantV0, beq_true, beq_false, ↓s_bindS, s_bindS, ↓s_bindE, s_bindE, s_bindE_ret, s_bindE_exit, s_bindE_iteN, s_norm, ↓s_condV, s_condV, s_block_ret, s_block_normal, s_block_exit, s_block_iteN, ↓s_getp, ↓s_getp0, ↓s_get, s_get0, ↓s_con, ↓s_fn, ↓s_os0, ↓s_os1, ↓s_list0, ↓s_list1, ↓s_mov, ↓s_pick, ↓s_pickE, s_pickE, ↓s_bin, ↓s_un, ↓s_minmax, ↓s_call, ↓s_callv, ↓s_callV, ↓s_ext, s_same, b_eql, b_neq, b_lss, b_leq, b_gtr, b_geq, b_add, b_sub, b_mul, b_eqlb, b_neqb, b_fnil, b_fnil', b_fnil2, b_fnil2', u_neg, u_not, m_two, s_end, s_end', s_end_iteN, s_res0, s_res1, s_tup1, s_tup2, ↓iteN_true, ↓iteN_false, iteN_true, iteN_false, Nat.zero_add, List.nil_append, List.append_nil, Nat.reduceEqDiff, reduceIte, decide_true, decide_false, Bool.not_true, Bool.not_false, List.getElem?_cons_zero, List.getElem?_cons_succ, Bool.false_eq_true, if_true, if_false, beq_self_eq_true]
  exact ⟨_, rfl, by (repeat (first | exact Kp.refl _ | refine Kp.put ?_ _ (by first | omega | (simp only [h_next_put, h_next_new, h_next_del]; omega)) | refine Kp.del ?_ (by first | omega | (simp only [h_next_put, h_next_new, h_next_del]; omega)) | refine Kp.trans ?_ (Kp.new _ _)))⟩
noncomputable def twX : Orc := bytesX k_sha_Twice twS
theorem twX_ok {P : Program} {g : Gn} (hE : Link P g E) (e : E k_sha_Twice = some f_sha_Twice) (hO : QOk P g ofX1) : QOk P g twX := by
  refine bytesX_ok (callX_ok hE hO (0 + 2)) ?_
  intro l v hs
  unfold twS at hs
  split at hs
  · rename_i hb
    cases hs
    have hb' := of_decide_eq_true hb
    refine ⟨by simp only [dataV, datas_ofI], ?_, ?_⟩
    · intro h0 a c z
      subst h0
      obtain ⟨h', r, _⟩ := twice_go e (X := ofX1) (fun _ _ => rfl) ofX1_has 0 [] (by simp) a c (mkH [] 1) (ez := z) (.inl rfl)
      exact ⟨h', r⟩
    · intro hne c
      obtain ⟨h', r, _⟩ := twice_go e (X := ofX1) (fun _ _ => rfl) ofX1_has 0 l hb' (some (0, 0)) c (mkH [(0, ofBytes l)] 1) (.inr ⟨0, 0, ofBytes l, .ro, rfl, rfl, Nat.zero_lt_one, rfl, by rw [ofB_len]; omega, (by rw [List.drop_zero, ← ofI_u8]; exact List.take_of_length_le (by rw [ofI_len]; omega))⟩)
      exact ⟨h', r⟩
  · cases hs

/-- what the laws of sha know, with Twice -/
noncomputable def stX (k : Nat) : Orc := orX twX (shX k)
theorem st_of {k : Nat} : HasOf (stX k) := fun x h l v e q => (orX_r rfl).trans (orX_l (ofX1_has x h l v e q))
theorem x_twH (k N : Nat) (l : List Nat) (a : Option (Nat × Nat)) (c : Option Nat) (h : H) {ez : Nat} (src : SrcH h a ez l) (hl : l.length ≤ 100000) : callX E (stX k) (N + 1) (.fn k_sha_Twice) [.slice a l.length c ez] h = some (.agg (ofI .u8 (shaV (shaV l))), h) := by
  refine x_known (orX_l (bytesX_yes h (l := l) ?_ (by unfold twS; rw [decide_eq_true hl]; rfl)))
  rcases src with rfl | ⟨bi, off, vs, m, rfl, rfl, h3, h4, h5, h6⟩
  · rfl
  · cases hn : l.length with
    | zero => rw [List.length_eq_zero_iff.1 hn]; rfl
    | succ n =>
      show rdC (n + 1) off (h.get bi) = some l
      rw [h4]
      unfold rdC
      rw [hn] at h5 h6
      simp only [readN_of _ _ _ h5, h6, unI]
theorem short_go (k : Nat) (e : E k_sha_Short = some f_sha_Short) (x : ∀ a h, stX k (.fn k_sha_Short) a h = none) (N : Nat) (l : List Nat) (hl : l.length ≤ 100000) (a : Option (Nat × Nat)) (c : Option Nat) (h : H) {ez : Nat} (src : SrcH h a ez l) :
    ∃ h', callX E (stX k) (N + 2) (.fn k_sha_Short) [.slice a l.length c ez] h = some (.slice (some (h.next + 1, 0)) 20 (some 20) 1, h') ∧ Kp h h' ∧ h.next + 2 ≤ h'.next ∧ h'.get (h.next + 1) = some (.cells (ofI .u8 ((shaV (shaV l)).take 20)) .rw) := by
  rw [x_cfn e _ _ (Nat.le_of_ble_eq_true rfl) (x _ _)]
  have o1 := x_twH (E := E) k N l a c h src hl
  have lv2 := shaV_len (shaV l)
  have mk : ∀ h, mksE [.int .u8 0] 1 (.int .i64 20) (.int .i64 20) h = _ := fun h => mkslice_n h .u8 .i64 20 (by omega)
  generalize shaV (shaV l) = D at *
  obtain ⟨h1, e1⟩ : ∃ h1, ((h.new (.cells (ofI .u8 (List.replicate 32 0)) .rw)).put h.next (.cells (ofI .u8 D) .rw)).new (.cells (ofI .u8 (List.replicate 20 0)) .rw) = h1 := ⟨_, rfl⟩
  have n1 : h1.next = h.next + 2 := by rw [← e1]; rfl
  have g0 : h1.get h.next = some (.cells (ofI .u8 D) .rw) := by rw [← e1]; (simp (disch := omega) only [l_loop, l_succ, l_normal, l_normal, l_exit, l_ret, l_iteN, h_put_get, h_new_get, h_del_get, h_next_put, h_next_new, h_next_del, Nat.add_assoc, Nat.add_eq_left, Nat.left_eq_add, Nat.add_left_cancel_iff, s_load, m_load, m_load1, m_load1, m_st, m_stE, m_storeI, m_storeE, w_zero, w_succ, s_alloc, x_idxA, x_idxS, x_idxAE, x_idxSE, x_addrE, x_idx, x_lenS, s_len, x_buildS, x_buildE, x_P0, x_P1, x_fill0, x_filli, x_fills, x_fillb, c_int, List.length_cons, List.length_nil, List.cons_append, List.drop_succ_cons, List.drop_zero, List.drop_nil, List.nil_append, Int.reduceAdd, Int.reduceToNat, Int.reduceLT, Int.reduceLE, Nat.reduceAdd, Nat.reduceMul, Nat.reduceLeDiff, Int.reduceEq, Int.reduceSub, Int.cast_ofNat_Int, s_resc, s_consR, m_load4, m_store4, s_res0, decide_true, decide_false, iteN_true, iteN_false, Nat.reduceEqDiff, Nat.reduceAdd, reduceCtorEq, n1]; try rfl)
  have g1 : h1.get (h.next + 1) = some (.cells (ofI .u8 (List.replicate 20 0)) .rw) := by rw [← e1]; (simp (disch := omega) only [l_loop, l_succ, l_normal, l_normal, l_exit, l_ret, l_iteN, h_put_get, h_new_get, h_del_get, h_next_put, h_next_new, h_next_del, Nat.add_assoc, Nat.add_eq_left, Nat.left_eq_add, Nat.add_left_cancel_iff, s_load, m_load, m_load1, m_load1, m_st, m_stE, m_storeI, m_storeE, w_zero, w_succ, s_alloc, x_idxA, x_idxS, x_idxAE, x_idxSE, x_addrE, x_idx, x_lenS, s_len, x_buildS, x_buildE, x_P0, x_P1, x_fill0, x_filli, x_fills, x_fillb, c_int, List.length_cons, List.length_nil, List.cons_append, List.drop_succ_cons, List.drop_zero, List.drop_nil, List.nil_append, Int.reduceAdd, Int.reduceToNat, Int.reduceLT, Int.reduceLE, Nat.reduceAdd, Nat.reduceMul, Nat.reduceLeDiff, Int.reduceEq, Int.reduceSub, Int.cast_ofNat_Int, s_resc, s_consR, m_load4, m_store4, s_res0, decide_true, decide_false, iteN_true, iteN_false, Nat.reduceEqDiff, Nat.reduceAdd, reduceCtorEq, n1]; try rfl)
  have cp : copyE 1 (.slice (some (h.next + 1, 0)) 20 (some 20) 1) (some (32, ofI .u8 D)) h1 = some (.int .i64 20, h1.put (h.next + 1) (.cells (ofI .u8 (D.take 20)) .rw)) := by
    have := copy_bytes h1 (h.next + 1) 0 20 (some 20) D _ .rw rfl g1 (by intro h; rw [h] at lv2; cases lv2) (by omega) (by rw [ofI_len]; simp; omega)
    rw [lv2, show min 32 20 = 20 from rfl, wrAll _ _ _ (by rw [List.length_take]; simp; omega)] at this
    exact this
  rw [← z32e]
  obtain ⟨n, en⟩ : ∃ n, l.length = n := ⟨_, rfl⟩
  rw [en] at o1 ⊢
  simp (config := {maxSteps := 2000000}) (disch := first | omega | rfl | (simp only [ofI_len, shaV_len, List.length_append, List.length_take, List.length_drop, List.length_cons, List.length_nil, List.length_replicate, List.length_set]; done) | (simp only [ofI_len, shaV_len, List.length_append, List.length_take, List.length_drop, List.length_cons, List.length_nil, List.length_replicate, List.length_set]; omega)) only [o1, lv2, e1, n1, g0, g1, cp, ↓x_mkslice, mk, ↓s_dBuildS, s_dbE, rdI, ofI_get, m_src, m_src0, srcI, ldI, ld1I, wrAll, wrI, wr1I, stI, st32, take_all, drop_all, List.take_zero, List.drop_zero, List.nil_append, List.append_nil, appF_of, appFI, appF0, appU_of, appUIw, appUIs, app0, appN, eq32, neq32, ↓s_append, ↓x_copy, ↓x_slcA, x_slcAE, slcB_nn, slcB_hi, slcB_lo, slcB_lh, slcV_nn, slcV_hiU, slcV_hiC, slcV_lo, slcV_loL, slcV_hiUL, slcV_hiCL, slcV_mxL, slcB_hiL, slcB_loL, subC_some, subC_none, ↓x_slcS, x_bnd0, x_M1, x_M0, x_lenA, ofQ_some, Nat.sub_zero, ofI_len, shaV_len, ↓s_box, c_agg, List.length_append, List.length_cons, List.length_nil, Nat.reduceLeDiff, Nat.reduceSub, List.length_replicate, ↓b_xor32, ↓b_and32, ↓b_or32, ↓u_not32, b_xor32, b_and32, b_or32, u_not32, w32ad, ↓x_conv, x_convV, ↓x_fieldAddr, x_fieldV, ↓s_nilchk, x_nilchk, Nat.zero_add, Nat.add_zero, Nat.mul_one, ↓s_evD, ↓s_dnil, ↓s_dL, ↓s_dLg, ↓s_dR, ↓s_dRg, ↓s_dRj, ↓s_dRjg, ↓s_dB, ↓s_dBg, ↓s_dAlloc, ↓s_bindD, s_bindD, s_finD, s_finDx, s_addP0, s_addP1, s_addB, s_lookP, ↓s_bump0, ↓s_bump_get, s_bump_next, s_ok0, ↓s_ok1, s_okR0, ↓s_okR1, ↓s_okE, s_okE, s_okE1, s_nth0, s_nthS, Nat.add_zero, Bool.and_self, Bool.and_true, Bool.true_and, ↓l_loop, ↓l_succ, ↓l_normal, l_normal, l_exit, l_ret, l_iteN, ↓h_put_get, ↓h_new_get, ↓h_del_get, h_next_put, h_next_new, h_next_del, Nat.add_assoc, Nat.add_eq_left, Nat.left_eq_add, Nat.add_left_cancel_iff, ↓s_load, m_load, ↓m_load1, m_load1, ↓m_st, m_stE, m_storeI, m_storeE, ↓s_alloc, ↓x_idxA, ↓x_idxS, x_idxAE, x_idxSE, x_addrE, x_idx, x_lenS, ↓s_len, ↓x_buildS, x_buildE, ↓x_P0, ↓x_P1, x_fill0, x_filli, x_fills, x_fillb, c_int, List.length_cons, List.length_nil, List.cons_append, List.drop_succ_cons, List.drop_zero, List.drop_nil, List.nil_append, Int.reduceAdd, Int.reduceToNat, Int.reduceLT, Int.reduceLE, Nat.reduceAdd, Nat.reduceMul, Nat.reduceLeDiff, Int.reduceEq, Int.reduceSub, Int.cast_ofNat_Int, s_resc, s_consR, m_load4, m_store4, s_res0, ↓s_skip, ↓s_ops, ↓s_dops, ↓s_seq, ↓s_cond, ↓s_block, ↓s_exit, ↓s_ret, ↓s_scope, ↓s_nil, ↓s_op, ↓s_opg, ↓s_wanted', ↓s_wantV, s_wantV, s_wantV0, beq_true, beq_false, ↓s_bindS, s_bindS, ↓s_bindE, s_bindE, s_bindE_ret, s_bindE_exit, s_bindE_iteN, s_norm, ↓s_condV, s_condV, s_block_ret, s_block_normal, s_block_exit, s_block_iteN, ↓s_getp, ↓s_getp0, ↓s_get, s_get0, ↓s_con, ↓s_fn, ↓s_os0, ↓s_os1, ↓s_list0, ↓s_list1, ↓s_mov, ↓s_pick, ↓s_pickE, s_pickE, ↓s_bin, ↓s_un, ↓s_minmax, ↓s_call, ↓s_callv, ↓s_callV, ↓s_ext, s_same, b_eql, b_neq, b_lss, b_leq, b_gtr, b_geq, b_add, b_sub, b_mul, b_eqlb, b_neqb, b_fnil, b_fnil', b_fnil2, b_fnil2', u_neg, u_not, m_two, s_end, s_end', s_end_iteN, s_res0, s_res1, s_tup1, s_tup2, ↓iteN_true, ↓iteN_false, iteN_true, iteN_false, Nat.zero_add, List.nil_append, List.append_nil, Nat.reduceEqDiff, reduceIte, decide_true, decide_false, Bool.not_true, Bool.not_false, List.getElem?_cons_zero, List.getElem?_cons_succ, Bool.false_eq_true, if_true, if_false, beq_self_eq_true]
  refine ⟨_, rfl, Kp.put ?_ _ (by omega), by rw [h_next_put]; omega, h_put_same _ _ _⟩
  rw [← e1]
  exact ((Kp.new _ _).put _ (Nat.le_refl _)).trans (Kp.new _ _)
end Go.Eng
namespace Go.Eng
open Go
variable {E : Nat → Option Fn} {X : Orc}
set_option linter.unusedSimpArgs false
set_option linter.unusedVariables false
theorem SrcH.cells {h : H} {a : Option (Nat × Nat)} {l : List Nat} (s : SrcH h a 1 l) (c : Option Nat) : srcCells h 1 (.slice a l.length c 1) = some (l.length, ofI .u8 l) := by
  cases hn : l.length with
  | zero => rw [List.length_eq_zero_iff.1 hn]; exact m_src0 _ _ _ _ _
  | succ n =>
    rcases s with rfl | ⟨bi, off, vs, m, rfl, _, h3, h4, h5, h6⟩
    · cases hn
    · rw [m_src, h4]
      unfold srcE
      rw [hn] at h5 h6
      simp only [Nat.mul_one, readN_of _ _ _ h5, h6]
theorem app_two (h : H) (q : Nat) (hqn : q < h.next) (hq : h.get q = some (.cells [] .rw)) (b c : List Nat) (hb : b.length ≤ 1000) (hc : c.length ≤ 1000) :
    ∃ v1 h1 v2 h2, appendC h 1 1 (.slice (some (q, 0)) 0 (some 0) 1) (some (b.length, ofI .u8 b)) = some (v1, h1) ∧ appendC h1 1 1 v1 (some (c.length, ofI .u8 c)) = some (v2, h2) ∧ Kp h h1 ∧ Kp h h2 ∧ ∃ a cc, v2 = .slice a (b ++ c).length cc 1 ∧ SrcH h2 a 1 (b ++ c) := by
  by_cases b0 : b = []
  · subst b0
    by_cases c0 : c = []
    · subst c0
      exact ⟨_, _, _, _, appN _ _ _ _ _ _, appN _ _ _ _ _ _, Kp.refl _, Kp.refl _, _, _, rfl, .inl rfl⟩
    · obtain ⟨n, en⟩ : ∃ n, c.length = n + 1 := ⟨c.length - 1, by have := List.length_pos_iff.2 c0; omega⟩
      refine ⟨_, _, _, _, appN _ _ _ _ _ _, by rw [en, appF_of _ _ _ _ _ _ _ _ (by omega) (by omega), hq, appF0], Kp.refl _, Kp.new _ _, _, _, by rw [List.nil_append, en], .inr ⟨_, 0, _, _, rfl, rfl, by rw [h_next_new]; omega, h_new_same _ _, by rw [ofI_len]; simp, ?_⟩⟩
      rw [List.drop_zero, List.nil_append]; exact List.take_of_length_le (by rw [ofI_len]; omega)
  · obtain ⟨m, em⟩ : ∃ n, b.length = n + 1 := ⟨b.length - 1, by have := List.length_pos_iff.2 b0; omega⟩
    by_cases c0 : c = []
    · subst c0
      refine ⟨_, _, _, _, by rw [em, appF_of _ _ _ _ _ _ _ _ (by omega) (by omega), hq, appF0], appN _ _ _ _ _ _, Kp.new _ _, Kp.new _ _, _, _, by rw [List.append_nil, em], .inr ⟨_, 0, _, _, rfl, rfl, by rw [h_next_new]; omega, h_new_same _ _, by rw [ofI_len]; simp, ?_⟩⟩
      rw [List.drop_zero, List.append_nil]; exact List.take_of_length_le (by rw [ofI_len]; omega)
    · obtain ⟨n, en⟩ : ∃ n, c.length = n + 1 := ⟨c.length - 1, by have := List.length_pos_iff.2 c0; omega⟩
      refine ⟨_, _, _, _, by rw [em, appF_of _ _ _ _ _ _ _ _ (by omega) (by omega), hq, appF0], by rw [en, appU_of _ _ _ _ _ _ (by omega), h_new_same, appUIw _ _ _ _ _ _ _ (by omega)], Kp.new _ _, ?_, _, none, by rw [List.length_append, en, em]; rfl, .inr ⟨_, 0, _, _, rfl, rfl, by rw [h_next_new]; omega, h_new_same _ _, by rw [ofI_len, List.length_append, List.length_append, List.length_take]; omega, ?_⟩⟩
      · refine ⟨by simp only [h_next_new, h_next_del]; omega, fun i hi => ?_⟩
        rw [h_new_ne _ _ (by simp only [h_next_new, h_next_del]; omega), h_del_ne _ (by omega), h_new_ne _ _ (by omega)]
      · rw [List.drop_zero, take_all b _ (by omega)]; exact List.take_of_length_le (by rw [ofI_len]; omega)
set_option maxRecDepth 100000 in
theorem law_ShaLong (k N : Nat) (hN : 2000 ≤ N) (e : EnSha E) (el : E k_purserlaw04_ShaLong = some f_purserlaw04_ShaLong) (eL : E k_sha_Sum_Len = some f_sha_Sum_Len) (eS : E k_sha_Short = some f_sha_Short) (x : NoSha (stX k)) (hk : k = k_purserlaw04_alive) (hx : ∀ a h, stX k (.fn k_purserlaw04_ShaLong) a h = none) (hxL : ∀ a h, stX k (.fn k_sha_Sum_Len) a h = none) (hxS : ∀ a h, stX k (.fn k_sha_Short) a h = none) (hal : ∀ h, stX k (.fn k) [] h = some (.bool true, h))
    (b c : List Nat) (bb : byt b = true) (a a' : Option (Nat × Nat)) (h : H) (src : SrcH h a 1 b) (src' : SrcH h a' 1 c) :
    ∃ h2, callX E (stX k) (N + 1) (.fn k_purserlaw04_ShaLong) [.slice a b.length none 1, .slice a' c.length none 1] h = some (.bool true, h2) := by
  rw [x_cfn el _ _ (Nat.le_of_ble_eq_true rfl) (hx _ _)]
  have al : ∀ h, callX E (stX k) N (.fn k) [] h = some (.bool true, h) := fun h => by obtain ⟨M, rfl⟩ : ∃ M, N = M + 1 := ⟨N - 1, by omega⟩; exact x_known (hal h)
  rw [hk] at al
  rw [← z32e]
  by_cases hl : 1000 < b.length
  · have c1 : decide ((1000 : Int) < (b.length : Int)) = true := decide_eq_true (by omega)
    rw [hk]
    simp (config := {maxSteps := 2000000}) (disch := first | omega | rfl | (simp only [ofI_len, shaV_len, List.length_append, List.length_take, List.length_drop, List.length_cons, List.length_nil, List.length_replicate, List.length_set]; done) | (simp only [ofI_len, shaV_len, List.length_append, List.length_take, List.length_drop, List.length_cons, List.length_nil, List.length_replicate, List.length_set]; omega)) only [al, c1, ↓s_len, x_lenS, ↓b_xor32, ↓b_and32, ↓b_or32, ↓u_not32, b_xor32, b_and32, b_or32, u_not32, w32ad, ↓x_conv, x_convV, ↓x_fieldAddr, x_fieldV, ↓s_nilchk, x_nilchk, Nat.zero_add, Nat.add_zero, Nat.mul_one, ↓l_loop, ↓l_succ, ↓l_normal, l_normal, l_exit, l_ret, l_iteN, ↓h_put_get, ↓h_new_get, ↓h_del_get, h_next_put, h_next_new, h_next_del, Nat.add_assoc, Nat.add_eq_left, Nat.left_eq_add, Nat.add_left_cancel_iff, ↓s_load, m_load, ↓m_load1, m_load1, ↓m_st, m_stE, m_storeI, m_storeE, ↓s_alloc, ↓x_idxA, ↓x_idxS, x_idxAE, x_idxSE, x_addrE, x_idx, x_lenS, ↓s_len, ↓x_buildS, x_buildE, ↓x_P0, ↓x_P1, x_fill0, x_filli, x_fills, x_fillb, c_int, List.length_cons, List.length_nil, List.cons_append, List.drop_succ_cons, List.drop_zero, List.drop_nil, List.nil_append, Int.reduceAdd, Int.reduceToNat, Int.reduceLT, Int.reduceLE, Nat.reduceAdd, Nat.reduceMul, Nat.reduceLeDiff, Int.reduceEq, Int.reduceSub, Int.cast_ofNat_Int, s_resc, s_consR, m_load4, m_store4, s_res0, ↓s_skip, ↓s_ops, ↓s_dops, ↓s_seq, ↓s_cond, ↓s_block, ↓s_exit, ↓s_ret, ↓s_scope, ↓s_nil, ↓s_op, ↓s_opg, ↓s_wanted', ↓s_wantV, s_wantV, s_wantV0, beq_true, beq_false, ↓s_bindS, s_bindS, ↓s_bindE, s_bindE, s_bindE_ret, s_bindE_exit, s_bindE_iteN, s_norm, ↓s_condV, s_condV, s_block_ret, s_block_normal, s_block_exit, s_block_iteN, ↓s_getp, ↓s_getp0, ↓s_get, s_get0, ↓s_con, ↓s_fn, ↓s_os0, ↓s_os1, ↓s_list0, ↓s_list1, ↓s_mov, ↓s_pick, ↓s_pickE, s_pickE, ↓s_bin, ↓s_un, ↓s_minmax, ↓s_call, ↓s_callv, ↓s_callV, ↓s_ext, s_same, b_eql, b_neq, b_lss, b_leq, b_gtr, b_geq, b_add, b_sub, b_mul, b_eqlb, b_neqb, b_fnil, b_fnil', b_fnil2, b_fnil2', u_neg, u_not, m_two, s_end, s_end', s_end_iteN, s_res0, s_res1, s_tup1, s_tup2, ↓iteN_true, ↓iteN_false, iteN_true, iteN_false, Nat.zero_add, List.nil_append, List.append_nil, Nat.reduceEqDiff, reduceIte, decide_true, decide_false, Bool.not_true, Bool.not_false, List.getElem?_cons_zero, List.getElem?_cons_succ, Bool.false_eq_true, if_true, if_false, beq_self_eq_true]
    exact ⟨_, rfl⟩
  · have c1 : decide ((1000 : Int) < (b.length : Int)) = false := decide_eq_false (by omega)
    by_cases hl2 : 1000 < c.length
    · have c2 : decide ((1000 : Int) < (c.length : Int)) = true := decide_eq_true (by omega)
      rw [hk]
      simp (config := {maxSteps := 2000000}) (disch := first | omega | rfl | (simp only [ofI_len, shaV_len, List.length_append, List.length_take, List.length_drop, List.length_cons, List.length_nil, List.length_replicate, List.length_set]; done) | (simp only [ofI_len, shaV_len, List.length_append, List.length_take, List.length_drop, List.length_cons, List.length_nil, List.length_replicate, List.length_set]; omega)) only [al, c1, c2, ↓s_len, x_lenS, ↓b_xor32, ↓b_and32, ↓b_or32, ↓u_not32, b_xor32, b_and32, b_or32, u_not32, w32ad, ↓x_conv, x_convV, ↓x_fieldAddr, x_fieldV, ↓s_nilchk, x_nilchk, Nat.zero_add, Nat.add_zero, Nat.mul_one, ↓l_loop, ↓l_succ, ↓l_normal, l_normal, l_exit, l_ret, l_iteN, ↓h_put_get, ↓h_new_get, ↓h_del_get, h_next_put, h_next_new, h_next_del, Nat.add_assoc, Nat.add_eq_left, Nat.left_eq_add, Nat.add_left_cancel_iff, ↓s_load, m_load, ↓m_load1, m_load1, ↓m_st, m_stE, m_storeI, m_storeE, ↓s_alloc, ↓x_idxA, ↓x_idxS, x_idxAE, x_idxSE, x_addrE, x_idx, x_lenS, ↓s_len, ↓x_buildS, x_buildE, ↓x_P0, ↓x_P1, x_fill0, x_filli, x_fills, x_fillb, c_int, List.length_cons, List.length_nil, List.cons_append, List.drop_succ_cons, List.drop_zero, List.drop_nil, List.nil_append, Int.reduceAdd, Int.reduceToNat, Int.reduceLT, Int.reduceLE, Nat.reduceAdd, Nat.reduceMul, Nat.reduceLeDiff, Int.reduceEq, Int.reduceSub, Int.cast_ofNat_Int, s_resc, s_consR, m_load4, m_store4, s_res0, ↓s_skip, ↓s_ops, ↓s_dops, ↓s_seq, ↓s_cond, ↓s_block, ↓s_exit, ↓s_ret, ↓s_scope, ↓s_nil, ↓s_op, ↓s_opg, ↓s_wanted', ↓s_wantV, s_wantV, s_wantV0, beq_true, beq_false, ↓s_bindS, s_bindS, ↓s_bindE, s_bindE, s_bindE_ret, s_bindE_exit, s_bindE_iteN, s_norm, ↓s_condV, s_condV, s_block_ret, s_block_normal, s_block_exit, s_block_iteN, ↓s_getp, ↓s_getp0, ↓s_get, s_get0, ↓s_con, ↓s_fn, ↓s_os0, ↓s_os1, ↓s_list0, ↓s_list1, ↓s_mov, ↓s_pick, ↓s_pickE, s_pickE, ↓s_bin, ↓s_un, ↓s_minmax, ↓s_call, ↓s_callv, ↓s_callV, ↓s_ext, s_same, b_eql, b_neq, b_lss, b_leq, b_gtr, b_geq, b_add, b_sub, b_mul, b_eqlb, b_neqb, b_fnil, b_fnil', b_fnil2, b_fnil2', u_neg, u_not, m_two, s_end, s_end', s_end_iteN, s_res0, s_res1, s_tup1, s_tup2, ↓iteN_true, ↓iteN_false, iteN_true, iteN_false, Nat.zero_add, List.nil_append, List.append_nil, Nat.reduceEqDiff, reduceIte, decide_true, decide_false, Bool.not_true, Bool.not_false, List.getElem?_cons_zero, List.getElem?_cons_succ, Bool.false_eq_true, if_true, if_false, beq_self_eq_true]
      exact ⟨_, rfl⟩
    · have c2 : decide ((1000 : Int) < (c.length : Int)) = false := decide_eq_false (by omega)
      obtain ⟨M, rfl⟩ : ∃ M, N = M + 81 := ⟨N - 81, by omega⟩
      have hb : b.length ≤ 1000 := by omega
      have hc : c.length ≤ 1000 := by omega
      obtain ⟨SB, eSB⟩ : ∃ s, shaV b = s := ⟨_, rfl⟩
      have lSB : SB.length = 32 := by rw [← eSB]; exact shaV_len b
      obtain ⟨TB, eTB⟩ : ∃ s, shaV SB = s := ⟨_, rfl⟩
      have lTB : TB.length = 32 := by rw [← eTB]; exact shaV_len _
      have oo := x_ofH (E := E) (st_of (k := k)) (M + 80) b a none h src (by omega)
      rw [eSB] at oo
      obtain ⟨hA, eA⟩ : ∃ hA, (h.new (.cells (ofI .u8 (List.replicate 32 0)) .rw)).put h.next (.cells (ofI .u8 SB) .rw) = hA := ⟨_, rfl⟩
      have kA : Kp h hA := by rw [← eA]; exact (Kp.new _ _).put _ (Nat.le_refl _)
      have nA : hA.next = h.next + 1 := by rw [← eA]; rfl
      have gA : hA.get h.next = some (.cells (ofI .u8 SB) .rw) := by rw [← eA, h_put_same]
      obtain ⟨hB, p, rB, sB, kB, pB⟩ := new_at e x (M + 79) hA
      have gB : hB.get h.next = some (.cells (ofI .u8 SB) .rw) := by rw [kB.2 _ (by omega), gA]
      have kAB := kA.trans kB
      obtain ⟨hC, rC, sC, kC⟩ := write_at e x (M + 1) p initS initS_ok b a b.length rfl none 1 hB (by omega) (by omega) sB (src.src kAB p (by omega))
      have gC : hC.get h.next = some (.cells (ofI .u8 SB) .rw) := by rw [kC.2 _ (by have := kB.1; omega) (by omega), gB]
      have kAC : Kp h hC := ⟨Nat.le_trans kAB.1 kC.1, fun i hi => by rw [kC.2 i (Nat.lt_of_lt_of_le hi kAB.1) (by omega), kAB.2 i hi]⟩
      have ok1 := absorb_ok b initS initS_ok
      obtain ⟨hD, rD, kD⟩ := end_at e x M p _ ok1 hC (by omega) sC
      rw [show endV (absorb initS b) = shaV b from rfl, eSB] at rD
      have sD := sC.kp kD
      have nD : h.next < hD.next := by have := kB.1; have := kC.1; have := kD.1; omega
      have gD : hD.get h.next = some (.cells (ofI .u8 SB) .rw) := by rw [kD.2 _ (by have := kB.1; have := kC.1; omega), gC]
      have kAD := kAC.trans kD
      obtain ⟨hE, eE⟩ : ∃ hE, (hD.new (.cells (ofI .u8 (List.replicate 32 0)) .rw)).put hD.next (.cells (ofI .u8 SB) .rw) = hE := ⟨_, rfl⟩
      have kE : Kp hD hE := by rw [← eE]; exact (Kp.new _ _).put _ (Nat.le_refl _)
      have nE : hE.next = hD.next + 1 := by rw [← eE]; rfl
      have gE6 : hE.get h.next = some (.cells (ofI .u8 SB) .rw) := by rw [kE.2 _ nD, gD]
      have gE8 : hE.get hD.next = some (.cells (ofI .u8 SB) .rw) := by rw [← eE, h_put_same]
      have sE := sD.kp kE
      have kAE := kAD.trans kE
      have pD : p < hD.next := sD.1
      obtain ⟨hF, rF, sF, kF⟩ := write_at e x (M + 1) p _ ok1 c a' c.length rfl none 1 hE (by omega) (by omega) sE (src'.src kAE p (by omega))
      rw [← absorb_app] at sF
      have gF6 : hF.get h.next = some (.cells (ofI .u8 SB) .rw) := by rw [kF.2 _ (by omega) (by omega), gE6]
      have gF8 : hF.get hD.next = some (.cells (ofI .u8 SB) .rw) := by rw [kF.2 _ (by omega) (by omega), gE8]
      have kAF : Kp h hF := ⟨Nat.le_trans kAE.1 kF.1, fun i hi => by rw [kF.2 i (Nat.lt_of_lt_of_le hi kAE.1) (by omega), kAE.2 i hi]⟩
      have tw := x_twH (E := E) k (M + 80) b a none hF (src.mono kAF) (by omega)
      rw [eSB, eTB] at tw
      have nF : hE.next ≤ hF.next := kF.1
      obtain ⟨hG, eG⟩ : ∃ hG, bump 1 ((hF.new (.cells (ofI .u8 (List.replicate 32 0)) .rw)).put hF.next (.cells (ofI .u8 TB) .rw)) = hG := ⟨_, rfl⟩
      have kG : Kp hF hG := by
        rw [← eG]
        exact ⟨by rw [s_bump_next, h_next_put, h_next_new]; omega, fun i hi => by rw [s_bump_get, h_put_ne _ _ (by omega), h_new_ne _ _ (by omega)]⟩
      have nG : hG.next = hF.next + 2 := by rw [← eG, s_bump_next, h_next_put, h_next_new]
      have gG9 : hG.get hF.next = some (.cells (ofI .u8 TB) .rw) := by rw [← eG, s_bump_get, h_put_same]
      have f6 : ∀ {h'}, Kp hF h' → h'.get h.next = some (.cells (ofI .u8 SB) .rw) := fun k => by rw [k.2 _ (by omega), gF6]
      have f8 : ∀ {h'}, Kp hF h' → h'.get hD.next = some (.cells (ofI .u8 SB) .rw) := fun k => by rw [k.2 _ (by omega), gF8]
      have f9 : ∀ {h'}, Kp hG h' → h'.get hF.next = some (.cells (ofI .u8 TB) .rw) := fun k => by rw [k.2 _ (by omega), gG9]
      obtain ⟨hH, q, rH, sH, kH, pH⟩ := new_at e x (M + 79) hG
      obtain ⟨hI, rI, sI, kI⟩ := write_at e x (M + 1) q initS initS_ok SB (some (h.next, 0)) 32 lSB (some 32) 1 hH (by omega) (by omega) sH (.inr ⟨h.next, 0, ofI .u8 SB, .rw, rfl, rfl, by omega, by have := kH.1; omega, f6 (kG.trans kH), by rw [ofI_len]; omega, by rw [List.drop_zero]; exact List.take_of_length_le (by rw [ofI_len]; omega)⟩)
      have kHI : Kp hG hI := Kp.of_q (kH.q.trans kI) pH
      obtain ⟨hJ, rJ, kJ⟩ := end_at e x M q _ (absorb_ok SB initS initS_ok) hI (by omega) sI
      rw [show endV (absorb initS SB) = shaV SB from rfl, eTB] at rJ
      have kGJ := kHI.trans kJ
      have kAJ := (kAF.trans kG).trans kGJ
      obtain ⟨hK, rK, kK, nK, gK⟩ := short_go k eS hxS (M + 79) b (by omega) a none hJ (src.mono kAJ)
      rw [eSB, eTB] at gK
      have kGK := kGJ.trans kK
      have pF : p < hF.next := sF.1
      have sK : SumAt hK p (absorb initS (b ++ c)) := sF.kp (kG.trans kGK)
      have ok2 := absorb_ok (b ++ c) initS initS_ok
      obtain ⟨hL, rL, kL⟩ := end_at e x M p _ ok2 hK (by omega) sK
      rw [show endV (absorb initS (b ++ c)) = shaV (b ++ c) from rfl] at rL
      have kGL := kGK.trans kL
      have sL := sK.kp kL
      obtain ⟨hM, eM⟩ : ∃ hM, hL.put (hF.next + 1) (.cells [] .rw) = hM := ⟨_, rfl⟩
      have nL : hF.next + 2 ≤ hL.next := by have := kGL.1; omega
      have kM : Kp hF hM := by rw [← eM]; exact (kG.trans kGL).put _ (by omega)
      have nM : hM.next = hL.next := by rw [← eM]; rfl
      have gM : hM.get (hF.next + 1) = some (.cells [] .rw) := by rw [← eM, h_put_same]
      have gM9 : hM.get hF.next = some (.cells (ofI .u8 TB) .rw) := by rw [← eM, h_put_ne _ _ (by omega)]; exact f9 kGL
      obtain ⟨v1, hO, v2, hQ, ap1, ap2, kO, kQ, av, cv, ev2, srcv⟩ := app_two hM (hF.next + 1) (by omega) gM b c hb hc
      have sb1 := (src.mono (kAF.trans kM)).cells none
      have sb2 := (src'.mono ((kAF.trans kM).trans kO)).cells none
      have of2 := x_ofH (E := E) (st_of (k := k)) (M + 80) (b ++ c) av cv hQ srcv (by rw [List.length_append]; omega)
      rw [← ev2] at of2
      have sQ : SumAt hQ p (absorb initS (b ++ c)) := by
        have : SumAt hM p (absorb initS (b ++ c)) := ⟨by omega, by rw [← eM, h_put_ne _ _ (by omega)]; exact sL.2⟩
        exact this.kp kQ
      have rLn := len_go eL hxL e x (M + 79) p _ ok2 .rw hQ sQ.2
      rw [len_absorb (b ++ c) initS initS_ok (by simp only [initS, List.length_append]; omega)] at rLn
      simp only [initS, Nat.zero_add, List.length_append] at rLn
      have a1 := f6 (kG.trans kHI)
      have a2 := f6 (kG.trans kGJ)
      have a3 := f6 (kG.trans kGK)
      have a4 := f6 (kG.trans kGL)
      have a5 := f6 (kM.trans kO)
      have a6 := f6 (kM.trans kQ)
      have a7 := f6 kG
      have a8 := f6 (kG.trans kH)
      have b1 := f9 kHI
      have b2 := f9 kGJ
      have b3 := f9 kGK
      have b4 := f9 kGL
      have b5 : hO.get hF.next = some (.cells (ofI .u8 TB) .rw) := by rw [kO.2 _ (by omega), gM9]
      have b6 : hQ.get hF.next = some (.cells (ofI .u8 TB) .rw) := by rw [kQ.2 _ (by omega), gM9]
      have b7 := f9 (Kp.refl hG)
      have b8 := f9 kH
      have d7 := f8 kG
      have tb20 : TB.take 20 = TB.take 20 := rfl
      have byTB : byt TB = true := by rw [← eTB]; exact shaV_byt _
      have byT : byt (TB.take 20) = true := by
        rw [byt_iff] at byTB ⊢
        intro x hx; exact byTB x (List.mem_of_mem_take hx)
      have lT : (TB.take 20).length = 20 := by rw [List.length_take]; omega
      have ns1 : nsE (some (.cells (ofI .u8 (TB.take 20)) .rw)) 0 20 = some (.str (TB.take 20)) := by rw [nsI _ byT _ _ _ (by omega), List.drop_zero, take_all _ _ (by omega)]
      have ns2 : nsE (some (.cells (ofI .u8 TB) .rw)) 0 20 = some (.str (TB.take 20)) := by rw [nsI _ byTB _ _ _ (by omega), List.drop_zero]
      have wl : wr .u64 (wr .i64 ((b.length : Int) + (c.length : Int))) = ((b.length + c.length : Nat) : Int) := by
        rw [wr_i64 (by omega), ← Int.natCast_add]; exact u64n _ (by omega)
      have lbc := shaV_len (b ++ c)
      have ewl : decide (((b.length + c.length : Nat) : Int) = ((b.length + c.length : Nat) : Int)) = true := decide_eq_true rfl
      replace rC : callX E (stX k) (M + 81) (.fn k_sha_Sum_Write) [.ptr (some (p, 0)), .slice a b.length none 1] hB = some (.ptr (some (p, 0)), hC) := rC
      replace rF : callX E (stX k) (M + 81) (.fn k_sha_Sum_Write) [.ptr (some (p, 0)), .slice a' c.length none 1] hE = some (.ptr (some (p, 0)), hF) := rF
      replace rI : callX E (stX k) (M + 81) (.fn k_sha_Sum_Write) [.ptr (some (q, 0)), .slice (some (h.next, 0)) 32 (some 32) 1] hH = some (.ptr (some (q, 0)), hI) := rI
      generalize hbl : b.length = lb at *
      generalize hcl : c.length = lc at *
      rw [hk] at *
      simp (config := {maxSteps := 2000000}) (disch := first | omega | rfl | (simp only [ofI_len, shaV_len, List.length_append, List.length_take, List.length_drop, List.length_cons, List.length_nil, List.length_replicate, List.length_set]; done) | (simp only [ofI_len, shaV_len, List.length_append, List.length_take, List.length_drop, List.length_cons, List.length_nil, List.length_replicate, List.length_set]; omega)) only [al, c1, c2, oo, eA, rB, rC, rD, eE, rF, tw, eG, nG, gG9, rH, rI, rJ, rK, nK, gK, rL, eM, gM, gM9, ap1, ap2, sb1, sb2, of2, rLn, a1, a2, a3, a4, a5, a6, a7, a8, b1, b2, b3, b4, b5, b6, b7, b8, d7, gE6, gE8, gF6, gF8, lSB, lTB, lbc, ns1, ns2, wl, ewl, ↓s_dBuildSg, ↓ns_b2s, nx_bs1, b_seq, vbeq_I, vbeq_str, vbeq_slice, ↓s_len, x_lenS, nF, nE, ↓s_dBuildS, s_dbE, rdI, ofI_get, m_src, m_src0, srcI, ldI, ld1I, wrAll, wrI, wr1I, stI, st32, take_all, drop_all, List.take_zero, List.drop_zero, List.nil_append, List.append_nil, appF_of, appFI, appF0, appU_of, appUIw, appUIs, app0, appN, eq32, neq32, ↓s_append, ↓x_copy, ↓x_slcA, x_slcAE, slcB_nn, slcB_hi, slcB_lo, slcB_lh, slcV_nn, slcV_hiU, slcV_hiC, slcV_lo, slcV_loL, slcV_hiUL, slcV_hiCL, slcV_mxL, slcB_hiL, slcB_loL, subC_some, subC_none, ↓x_slcS, x_bnd0, x_M1, x_M0, x_lenA, ofQ_some, Nat.sub_zero, ofI_len, shaV_len, ↓s_box, c_agg, List.length_append, List.length_cons, List.length_nil, Nat.reduceLeDiff, Nat.reduceSub, List.length_replicate, ↓b_xor32, ↓b_and32, ↓b_or32, ↓u_not32, b_xor32, b_and32, b_or32, u_not32, w32ad, ↓x_conv, x_convV, ↓x_fieldAddr, x_fieldV, ↓s_nilchk, x_nilchk, Nat.zero_add, Nat.add_zero, Nat.mul_one, ↓s_evD, ↓s_dnil, ↓s_dL, ↓s_dLg, ↓s_dR, ↓s_dRg, ↓s_dRj, ↓s_dRjg, ↓s_dB, ↓s_dBg, ↓s_dAlloc, ↓s_bindD, s_bindD, s_finD, s_finDx, s_addP0, s_addP1, s_addB, s_lookP, ↓s_bump0, ↓s_bump_get, s_bump_next, s_ok0, ↓s_ok1, s_okR0, ↓s_okR1, ↓s_okE, s_okE, s_okE1, s_nth0, s_nthS, Nat.add_zero, Bool.and_self, Bool.and_true, Bool.true_and, ↓l_loop, ↓l_succ, ↓l_normal, l_normal, l_exit, l_ret, l_iteN, ↓h_put_get, ↓h_new_get, ↓h_del_get, h_next_put, h_next_new, h_next_del, Nat.add_assoc, Nat.add_eq_left, Nat.left_eq_add, Nat.add_left_cancel_iff, ↓s_load, m_load, ↓m_load1, m_load1, ↓m_st, m_stE, m_storeI, m_storeE, ↓s_alloc, ↓x_idxA, ↓x_idxS, x_idxAE, x_idxSE, x_addrE, x_idx, x_lenS, ↓s_len, ↓x_buildS, x_buildE, ↓x_P0, ↓x_P1, x_fill0, x_filli, x_fills, x_fillb, c_int, List.length_cons, List.length_nil, List.cons_append, List.drop_succ_cons, List.drop_zero, List.drop_nil, List.nil_append, Int.reduceAdd, Int.reduceToNat, Int.reduceLT, Int.reduceLE, Nat.reduceAdd, Nat.reduceMul, Nat.reduceLeDiff, Int.reduceEq, Int.reduceSub, Int.cast_ofNat_Int, s_resc, s_consR, m_load4, m_store4, s_res0, ↓s_skip, ↓s_ops, ↓s_dops, ↓s_seq, ↓s_cond, ↓s_block, ↓s_exit, ↓s_ret, ↓s_scope, ↓s_nil, ↓s_op, ↓s_opg, ↓s_wanted', ↓s_wantV, s_wantV, s_wantV0, beq_true, beq_false, ↓s_bindS, s_bindS, ↓s_bindE, s_bindE, s_bindE_ret, s_bindE_exit, s_bindE_iteN, s_norm, ↓s_condV, s_condV, s_block_ret, s_block_normal, s_block_exit, s_block_iteN, ↓s_getp, ↓s_getp0, ↓s_get, s_get0, ↓s_con, ↓s_fn, ↓s_os0, ↓s_os1, ↓s_list0, ↓s_list1, ↓s_mov, ↓s_pick, ↓s_pickE, s_pickE, ↓s_bin, ↓s_un, ↓s_minmax, ↓s_call, ↓s_callv, ↓s_callV, ↓s_ext, s_same, b_eql, b_neq, b_lss, b_leq, b_gtr, b_geq, b_add, b_sub, b_mul, b_eqlb, b_neqb, b_fnil, b_fnil', b_fnil2, b_fnil2', u_neg, u_not, m_two, s_end, s_end', s_end_iteN, s_res0, s_res1, s_tup1, s_tup2, ↓iteN_true, ↓iteN_false, iteN_true, iteN_false, Nat.zero_add, List.nil_append, List.append_nil, Nat.reduceEqDiff, reduceIte, decide_true, decide_false, Bool.not_true, Bool.not_false, List.getElem?_cons_zero, List.getElem?_cons_succ, Bool.false_eq_true, if_true, if_false, beq_self_eq_true]
      exact ⟨_, rfl⟩
end Go.Eng
