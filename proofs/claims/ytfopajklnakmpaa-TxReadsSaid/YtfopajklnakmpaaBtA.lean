/- What functions of the program come to: own work. -/
import Derived.Test.YtfopajklnakmpaaBtG
import Derived.Test.YtfopajklnakmpaaBtF
namespace Go.Eng
open Go
abbrev Pt := Option (Nat × Nat) × Option Nat × Nat × List Nat
def slOf (q : Pt) : V := .slice q.1 q.2.2.2.length q.2.1 q.2.2.1
end Go.Eng
namespace Go.Eng
open Go
variable {E : Nat → Option Fn} {X : Orc}
set_option linter.unusedSimpArgs false
set_option linter.unusedVariables false
/-- how many bytes a number needs -/
def widV (n : Nat) : Nat := if n < 256 then 1 else if n < 65536 then 2 else if n < 16777216 then 3 else if n < 4294967296 then 4 else if n < 1099511627776 then 5 else if n < 281474976710656 then 6 else if n < 72057594037927936 then 7 else 8
theorem wid_fact (n j : Nat) (hj : j < 8) (hn : n < 256 ^ (j + 1)) : n / 2 ^ (8 * j) < 256 ∧ (n / 2 ^ (8 * j) = 0 → n < 256 ^ j) ∧ (n / 2 ^ (8 * j) ≠ 0 → widV n = j + 1) := by
  have : j = 0 ∨ j = 1 ∨ j = 2 ∨ j = 3 ∨ j = 4 ∨ j = 5 ∨ j = 6 ∨ j = 7 := by omega
  rcases this with rfl | rfl | rfl | rfl | rfl | rfl | rfl | rfl <;> simp only [Nat.reduceMul,Nat.reducePow,Nat.reduceAdd] at hn ⊢ <;> refine ⟨by omega,fun h => by omega,fun h => ?_⟩ <;> unfold widV <;> (repeat (first | rw [if_pos (by omega)] | rw [if_neg (by omega)]))
theorem shr64 (n j : Nat) (hj : j < 8) (e : EqK) (h : H) : binV .shr e h (.int .u64 (n : Int)) (.int .i64 ((8 * j : Nat) : Int)) = some (.int .u64 ((n / 2 ^ (8 * j) : Nat) : Int)) := by
  have e1 : binV .shr e h (.int .u64 (n : Int)) (.int .i64 ((8 * j : Nat) : Int)) = some (.int .u64 ((n / 2 ^ (bif Nat.ble (8 * j) 64 then 8 * j else 64) : Nat) : Int)) := rfl
  rw [e1,cond_ble,if_pos (by omega)]
structure EnWid (E : Nat → Option Fn) : Prop where
  wid : E k_octet_width = some f_octet_width
  hi : E k_octet_highFirst = some f_octet_highFirst
  hi1 : E k_octet_highFirst_1 = some f_octet_highFirst_1
structure NoWid (X : Orc) : Prop where
  wid : ∀ a h,X (.fn k_octet_width) a h = none
  hi : ∀ a h,X (.fn k_octet_highFirst) a h = none
  hi1 : ∀ a h,X (.fn k_octet_highFirst_1) a h = none
  yld : ∀ l a h,X (.yld l) a h = none
theorem hi_go (e : EnWid E) (x : NoWid X) (N : Nat) (n s : Nat) (h : H) :
    callX E X (N + 1) (.fn k_octet_highFirst) [.int .u64 (n : Int),.int .i64 (s : Int)] h = some (.fn k_octet_highFirst_1 [] [.ptr (some (h.next + 1,0)),.ptr (some (h.next,0))],(h.new (.cells [.int .u64 (n : Int)] .rw)).new (.cells [.int .i64 (s : Int)] .rw)) := by
  rw [x_cfn e.hi _ _ (Nat.le_of_ble_eq_true rfl) (x.hi _ _)]
  have c1 : ∀ (k : IntKind) (i : Int),(V.int k i).cells = [.int k i] := fun _ _ => rfl
  simp (config := {maxSteps := 2000000}) (disch := first | omega | (simp only [List.length_cons,List.length_nil,List.length_append,List.length_drop]; omega)) only [c1,↓s_box,↓s_mkfn,Nat.zero_add,h_next_new,s_res0,↓s_ops,↓s_seq,↓s_ret,↓s_nil,↓s_op,↓s_bindS,s_bindS,↓s_bindE,s_bindE,s_norm,↓s_getp,↓s_get,↓s_con,↓s_os0,↓s_os1,↓s_list0,↓s_list1,↓s_mov,s_end,s_res0,s_res1,s_tup1,↓iteN_true,↓iteN_false,iteN_true,iteN_false,Nat.zero_add,Nat.reduceEqDiff,decide_true,decide_false]
/-- a byte that is told to width -/
theorem wy_zero (x : ∀ l a h,X (.yld l) a h = none) (M a0 : Nat) (T0 : Tr V) (h : H) (pl : Nat) (g4 : h.get (a0 + 4) = some (.loop 0 none 15 T0 [8,9] A_octet_width_0 B_octet_width_0 (a0 + 3))) :
    ∃ h',callX E X (M + 1) (.yld (a0 + 4)) [.int .i64 (pl : Int),.int .u8 0] h = some (.bool true,h') ∧ h'.next = h.next ∧ ∀ j,h'.get j = h.get j := by
  have yx : callX E X (M + 1) (.yld (a0 + 4)) [.int .i64 (pl : Int),.int .u8 0] h = cYld (callX E X M) M (a0 + 4) [.int .i64 (pl : Int),.int .u8 0] h := x_yld (x _ _ _)
  refine ⟨_,by
    rw [yx]
    simp (config := {maxSteps := 2000000}) (disch := first | omega | (simp only [List.length_cons,List.length_nil,List.length_append,List.length_drop]; omega)) only [g4,y_cyld,y_ready,y_set2,y_mid,y_busy,y_end,y_done,y_jn,Option.isNone_none,↓u_A_octet_width_0,↓u_B_octet_width_0,↓h_put_get,↓s_skip,↓s_ops,↓s_seq,↓s_cond,↓s_block,↓s_nil,↓s_op,↓s_bindS,s_bindS,↓s_bindE,s_bindE,s_norm,↓s_condV,s_condV,s_block_normal,↓s_getp,↓s_get,↓s_con,↓s_mov,↓s_bin,s_same,b_neq,↓iteN_true,↓iteN_false,iteN_true,iteN_false,Nat.reduceEqDiff,decide_true,decide_false,Bool.not_true]
    exact rfl,by rfl,fun j => ?_⟩
  by_cases h4 : j = a0 + 4
  · subst h4; rw [g4]; (simp (disch := omega) only [h_put_get,decide_true,iteN_true,]; try rfl)
  · have y4 : (a0 + 4 = j) = False := by simp; omega
    (simp (disch := omega) only [h_put_get,decide_false,iteN_false,y4]; try rfl)
theorem wy_hit (x : ∀ l a h,X (.yld l) a h = none) (M a0 : Nat) (T0 : Tr V) (t3 : evO T0 (.t 3) = .ptr (some (a0,0))) (h : H) (pl y : Nat) (hp : pl < 8) (hy : y ≠ 0) (g0 : h.get a0 = some (.cells [.int .i64 1] .rw)) (g4 : h.get (a0 + 4) = some (.loop 0 none 15 T0 [8,9] A_octet_width_0 B_octet_width_0 (a0 + 3))) :
    ∃ h',callX E X (M + 1) (.yld (a0 + 4)) [.int .i64 (pl : Int),.int .u8 (y : Int)] h = some (.bool false,h') ∧ h'.next = h.next ∧ h'.get a0 = some (.cells [.int .i64 ((pl + 1 : Nat) : Int)] .rw) ∧ h'.get (a0 + 4) = some (.loop 2 (some (.exit 0)) 15 T0 [8,9] A_octet_width_0 B_octet_width_0 (a0 + 3)) ∧ ∀ j,j ≠ a0 → j ≠ a0 + 4 → h'.get j = h.get j := by
  have yx : callX E X (M + 1) (.yld (a0 + 4)) [.int .i64 (pl : Int),.int .u8 (y : Int)] h = cYld (callX E X M) M (a0 + 4) [.int .i64 (pl : Int),.int .u8 (y : Int)] h := x_yld (x _ _ _)
  have c0 : decide ((y : Int) = 0) = false := decide_eq_false (by omega)
  have w1 : wr .i64 ((pl : Int) + 1) = ((pl + 1 : Nat) : Int) := by rw [wr_i64 (by omega)]; omega
  have z1 : (a0 + 4 = a0) = False := by simp
  have z2 : (a0 = a0 + 4) = False := by simp
  refine ⟨_,by
    rw [yx]
    simp (config := {maxSteps := 2000000}) (disch := first | omega | (simp only [List.length_cons,List.length_nil,List.length_append,List.length_drop]; omega)) only [g4,g0,t3,c0,w1,z1,z2,y_cyld,y_ready,y_set2,y_mid,y_busy,y_end,y_done,y_je,Option.isNone_some,↓u_A_octet_width_0,↓u_B_octet_width_0,Nat.zero_add,↓h_put_get,↓m_st,m_stE,m_storeI,m_storeE,w_zero,List.length_cons,List.length_nil,List.drop_succ_cons,List.drop_nil,↓s_ops,↓s_seq,↓s_cond,↓s_block,↓s_exit,↓s_nil,↓s_op,↓s_bindS,s_bindS,↓s_bindE,s_bindE,s_norm,↓s_condV,s_condV,s_block_exit,↓s_getp,↓s_get,↓s_con,↓s_mov,↓s_bin,s_same,b_neq,b_add,↓iteN_true,↓iteN_false,iteN_true,iteN_false,Nat.zero_add,List.append_nil,Nat.reduceEqDiff,decide_true,decide_false,Bool.not_false,if_false]
    exact rfl,by rfl,?_,?_,fun j h0 h4 => ?_⟩
  · (simp (disch := omega) only [h_put_get,decide_true,decide_false,iteN_true,iteN_false,z1]; try rfl)
  · (simp (disch := omega) only [h_put_get,decide_true,iteN_true]; try rfl)
  · have y0 : (a0 = j) = False := by simp; omega
    have y4 : (a0 + 4 = j) = False := by simp; omega
    (simp (disch := omega) only [h_put_get,decide_false,iteN_false,y0,y4]; try rfl)
/-- width's walk from a place down -/
theorem wl_go (x : NoWid X) (M a0 n : Nat) (T0 : Tr V) (t3 : evO T0 (.t 3) = .ptr (some (a0,0))) (md : Md) : ∀ (j g : Nat) (T : Tr V) (h : H),j ≤ 8 → n < 256 ^ j → j < g → evO T (.t 0) = .yld (a0 + 4) → evO T (.t 2) = .ptr (some (a0 + 1,0)) → evO T (.t 4) = .int .i64 ((j : Int) - 1) →
    h.get a0 = some (.cells [.int .i64 1] .rw) → h.get (a0 + 1) = some (.cells [.int .u64 (n : Int)] md) → h.get (a0 + 4) = some (.loop 0 none 15 T0 [8,9] A_octet_width_0 B_octet_width_0 (a0 + 3)) →
    ∃ ex T' h',loopN (evC (callX E X (M + 1)) 20 (M + 1) none L_octet_highFirst_1_0) g ⟨T,[],h⟩ = some (ex,⟨T',[],h'⟩) ∧ (ex = .exit 0 ∨ ex = .ret) ∧ h'.next = h.next ∧ h'.get a0 = some (.cells [.int .i64 (widV n : Nat)] .rw) ∧
      (h'.get (a0 + 4) = some (.loop 0 none 15 T0 [8,9] A_octet_width_0 B_octet_width_0 (a0 + 3)) ∨ h'.get (a0 + 4) = some (.loop 2 (some (.exit 0)) 15 T0 [8,9] A_octet_width_0 B_octet_width_0 (a0 + 3))) ∧ ∀ j,j ≠ a0 → j ≠ a0 + 4 → h'.get j = h.get j := by
  intro j
  induction j with
  | zero =>
    intro g T h _ hn hg t0 t2 t4 g0 g1 g4
    obtain ⟨g,rfl⟩ : ∃ k,g = k + 1 := ⟨g - 1,by omega⟩
    have n0 : n = 0 := by rw [Nat.pow_zero] at hn; omega
    have w0 : widV n = 1 := by rw [n0]; rfl
    have c0 : decide ((0 : Int) ≤ ((0 : Nat) : Int) - 1) = false := rfl
    rw [l_succ]
    refine ⟨_,_,h,by
      simp (config := {maxSteps := 2000000}) (disch := first | omega | (simp only [List.length_cons,List.length_nil,List.length_append,List.length_drop]; omega)) only [L_octet_highFirst_1_0,t4,l_exit,Int.reduceLE,Int.reduceSub,Int.cast_ofNat_Int,↓s_ops,↓s_seq,↓s_cond,↓s_exit,↓s_nil,↓s_op,↓s_bindS,s_bindS,↓s_bindE,s_bindE,s_bindE_exit,s_norm,↓s_condV,s_condV,↓s_getp,↓s_con,↓s_mov,↓s_bin,s_same,b_geq,↓iteN_true,↓iteN_false,iteN_true,iteN_false,decide_true,decide_false]
      exact rfl,.inl (by rfl),rfl,by rw [w0]; exact g0,.inl g4,fun _ _ _ => rfl⟩
  | succ j ih =>
    intro g T h hj hn hg t0 t2 t4 g0 g1 g4
    obtain ⟨g,rfl⟩ : ∃ k,g = k + 1 := ⟨g - 1,by omega⟩
    obtain ⟨f1,f2,f3⟩ := wid_fact n j (by omega) hn
    have e1 : (((j + 1 : Nat) : Int) - 1) = (j : Int) := by omega
    rw [e1] at t4
    have c0 : decide ((0 : Int) ≤ (j : Int)) = true := decide_eq_true (by omega)
    have w1 : wr .i64 (8 * (j : Int)) = ((8 * j : Nat) : Int) := by rw [wr_i64 (by omega)]; omega
    have w2 : wr .i64 ((j : Int) - 1) = (j : Int) - 1 := by rw [wr_i64 (by omega)]
    have sh := fun e h => shr64 n j (by omega) e h
    generalize n / 2 ^ (8 * j) = y at *
    have w3 : wr .u8 (y : Int) = (y : Int) := by rw [w8n,Nat.mod_eq_of_lt f1]
    by_cases y0 : y = 0
    · subst y0
      obtain ⟨h1,r1,n1,q1⟩ := wy_zero (E := E) x.yld M a0 T0 h j g4
      have w0 : wr .u8 0 = 0 := rfl
      obtain ⟨T1,e,u0,u2,u4⟩ : ∃ T1,evC (callX E X (M + 1)) 20 (M + 1) none L_octet_highFirst_1_0 ⟨T,[],h⟩ = some (.normal,⟨T1,[],h1⟩) ∧ evO T1 (.t 0) = .yld (a0 + 4) ∧ evO T1 (.t 2) = .ptr (some (a0 + 1,0)) ∧ evO T1 (.t 4) = .int .i64 ((j : Int) - 1) := by
        refine ⟨_,by
          simp (config := {maxSteps := 2000000}) (disch := first | omega | (simp only [List.length_cons,List.length_nil,List.length_append,List.length_drop]; omega)) only [L_octet_highFirst_1_0,t0,t2,t4,g1,c0,w1,w2,w0,sh,r1,s_callVy,↓x_conv,x_convV,↓s_load,m_load,↓m_load1,m_load1,Int.cast_ofNat_Int,↓s_skip,↓s_ops,↓s_seq,↓s_cond,↓s_block,↓s_nil,↓s_op,↓s_bindS,s_bindS,↓s_bindE,s_bindE,s_norm,↓s_condV,s_condV,s_block_normal,↓s_getp,↓s_con,↓s_os0,↓s_os1,↓s_mov,↓s_bin,↓s_un,↓s_callv,s_same,b_geq,b_sub,b_mul,u_not,↓iteN_true,↓iteN_false,iteN_true,iteN_false,Nat.reduceEqDiff,decide_true,decide_false,Bool.not_true,List.getElem?_cons_zero]
          exact rfl,(by (simp only [s_getp,Nat.reduceEqDiff,decide_false,iteN_false,t0]; try rfl)),(by (simp only [s_getp,Nat.reduceEqDiff,decide_false,iteN_false,t2]; try rfl)),(by (simp only [s_getp,decide_true,iteN_true]; try rfl))⟩
      obtain ⟨ex,T',h',r,q⟩ := ih g T1 h1 (by omega) (f2 rfl) (by omega) u0 u2 u4 (by rw [q1,g0]) (by rw [q1,g1]) (by rw [q1,g4])
      obtain ⟨q2,q3,q4,q5,q6⟩ := q
      exact ⟨ex,T',h',by rw [l_succ,e,l_normal]; exact r,q2,by rw [q3,n1],q4,q5,fun i h0 h4 => by rw [q6 i h0 h4,q1]⟩
    · obtain ⟨h1,r1,n1,q0,q4,q1⟩ := wy_hit (E := E) x.yld M a0 T0 t3 h j y (by omega) y0 g0 g4
      rw [l_succ]
      refine ⟨_,_,h1,by
        simp (config := {maxSteps := 2000000}) (disch := first | omega | (simp only [List.length_cons,List.length_nil,List.length_append,List.length_drop]; omega)) only [L_octet_highFirst_1_0,t0,t2,t4,g1,c0,w1,w3,sh,r1,s_callVy,↓x_conv,x_convV,l_ret,↓s_load,m_load,↓m_load1,m_load1,↓s_skip,↓s_ops,↓s_seq,↓s_cond,↓s_block,↓s_ret,↓s_nil,↓s_op,↓s_bindS,s_bindS,↓s_bindE,s_bindE,s_bindE_ret,s_norm,↓s_condV,s_condV,s_block_ret,↓s_getp,↓s_con,↓s_os0,↓s_os1,↓s_mov,↓s_bin,↓s_un,↓s_callv,s_same,b_geq,b_mul,u_not,↓iteN_true,↓iteN_false,iteN_true,iteN_false,Nat.reduceEqDiff,decide_true,decide_false,Bool.not_false,List.getElem?_cons_zero]
        exact rfl,.inr (by rfl),n1,by rw [f3 y0]; exact q0,.inr q4,q1⟩
theorem width_go (e : EnWid E) (x : NoWid X) (M n : Nat) (hn : n < 18446744073709551616) (h : H) (hM : 10 < M) :
    ∃ h',callX E X (M + 3) (.fn k_octet_width) [.int .u64 (n : Int)] h = some (.int .i64 (widV n : Nat),h') ∧ Kp h h' := by
  rw [x_cfn e.wid _ _ (Nat.le_of_ble_eq_true rfl) (x.wid _ _)]
  obtain ⟨hA,eA⟩ : ∃ hA,(((h.new (.cells [.int .i64 0] .rw)).put h.next (.cells [.int .i64 1] .rw)).new (.cells [.int .u64 (n : Int)] .rw)).new (.cells [.int .i64 8] .rw) = hA := ⟨_,rfl⟩
  have nA : hA.next = h.next + 3 := by rw [← eA]; rfl
  have gA0 : hA.get h.next = some (.cells [.int .i64 1] .rw) := by rw [← eA]; (simp (disch := omega) only [h_put_get,h_new_get,h_next_put,h_next_new,Nat.add_assoc,Nat.add_eq_left,Nat.reduceAdd,decide_true,decide_false,iteN_true,iteN_false,Nat.reduceAdd,reduceCtorEq,]; try rfl)
  have gA1 : hA.get (h.next + 1) = some (.cells [.int .u64 (n : Int)] .rw) := by rw [← eA]; (simp (disch := omega) only [h_new_get,h_next_put,h_next_new,Nat.add_assoc,Nat.add_left_cancel_iff,Nat.reduceAdd,decide_true,decide_false,iteN_true,iteN_false,Nat.reduceEqDiff,Nat.reduceAdd,]; try rfl)
  have gA2 : hA.get (h.next + 2) = some (.cells [.int .i64 8] .rw) := by rw [← eA]; (simp (disch := omega) only [h_new_get,h_next_put,h_next_new,Nat.add_assoc,Nat.reduceAdd,decide_true,iteN_true,Nat.reduceAdd,]; try rfl)
  have kA : Kp h hA := by rw [← eA]; (repeat (first | exact Kp.refl _ | refine Kp.put ?_ _ (by first | omega | (simp only [h_next_put,h_next_new,h_next_del]; omega)) | refine Kp.del ?_ (by first | omega | (simp only [h_next_put,h_next_new,h_next_del]; omega)) | refine Kp.trans ?_ (Kp.new _ _)))
  have r0 := fun h => hi_go e x (M + 1) n 8 h
  simp only [Int.cast_ofNat_Int] at r0
  have fin : ∀ T0,evO T0 (.t 3) = .ptr (some (h.next,0)) → ∃ h',fnEnd [.tmp 2] (bindE (blockE 0 (rangeEnd (h.next + 4) T0 [h.next + 3] (callF (callX E X (M + 2)) (.yld (h.next + 4)) (.fn k_octet_highFirst_1 [] [.ptr (some (h.next + 2,0)),.ptr (some (h.next + 1,0))]) ((hA.new .defers).new (.loop 0 none 15 T0 [8,9] A_octet_width_0 B_octet_width_0 (h.next + 3)))))) (evC (callX E X (M + 2)) 15 (M + 2) none R_octet_width_0)) = some (.int .i64 (widV n : Nat),h') ∧ Kp h h' := by
    intro T0 t3
    obtain ⟨hB,eB⟩ : ∃ hB,(hA.new .defers).new (.loop 0 none 15 T0 [8,9] A_octet_width_0 B_octet_width_0 (h.next + 3)) = hB := ⟨_,rfl⟩
    have nB : hB.next = h.next + 5 := by rw [← eB]; simp only [h_next_new,nA]
    have kB : Kp hA hB := by rw [← eB]; exact (Kp.new _ _).trans (Kp.new _ _)
    have gB3 : hB.get (h.next + 3) = some .defers := by rw [← eB,h_new_ne _ _ (by rw [h_next_new,nA]; omega)]; exact h_new_same' _ _ nA
    have gB4 : hB.get (h.next + 4) = some (.loop 0 none 15 T0 [8,9] A_octet_width_0 B_octet_width_0 (h.next + 3)) := by rw [← eB]; exact h_new_same' _ _ (by rw [h_next_new,nA])
    have gB0 : hB.get h.next = some (.cells [.int .i64 1] .rw) := by rw [kB.2 _ (by omega),gA0]
    have gB1 : hB.get (h.next + 1) = some (.cells [.int .u64 (n : Int)] .rw) := by rw [kB.2 _ (by omega),gA1]
    have gB2 : hB.get (h.next + 2) = some (.cells [.int .i64 8] .rw) := by rw [kB.2 _ (by omega),gA2]
    obtain ⟨hC,rC,nC,gC0,gC4,qC⟩ : ∃ hC,callX E X (M + 2) (.fn k_octet_highFirst_1) [.yld (h.next + 4),.ptr (some (h.next + 2,0)),.ptr (some (h.next + 1,0))] hB = some (.tup [],hC) ∧ hC.next = hB.next ∧ hC.get h.next = some (.cells [.int .i64 (widV n : Nat)] .rw) ∧
        (hC.get (h.next + 4) = some (.loop 0 none 15 T0 [8,9] A_octet_width_0 B_octet_width_0 (h.next + 3)) ∨ hC.get (h.next + 4) = some (.loop 2 (some (.exit 0)) 15 T0 [8,9] A_octet_width_0 B_octet_width_0 (h.next + 3))) ∧ ∀ j,j ≠ h.next → j ≠ h.next + 4 → hC.get j = hB.get j := by
      rw [x_cfn e.hi1 _ _ (Nat.le_of_ble_eq_true rfl) (x.hi1 _ _)]
      have w8 : wr .i64 ((8 : Int) - 1) = 7 := rfl
      have fin2 : ∀ T,evO T (.t 0) = .yld (h.next + 4) → evO T (.t 2) = .ptr (some (h.next + 1,0)) → evO T (.t 4) = .int .i64 7 → ∃ hC,fnEnd [] (blockE 0 (loopN (evC (callX E X (M + 1)) 20 (M + 1) none L_octet_highFirst_1_0) (M + 1) ⟨T,[],hB⟩)) = some (.tup [],hC) ∧ hC.next = hB.next ∧ hC.get h.next = some (.cells [.int .i64 (widV n : Nat)] .rw) ∧
        (hC.get (h.next + 4) = some (.loop 0 none 15 T0 [8,9] A_octet_width_0 B_octet_width_0 (h.next + 3)) ∨ hC.get (h.next + 4) = some (.loop 2 (some (.exit 0)) 15 T0 [8,9] A_octet_width_0 B_octet_width_0 (h.next + 3))) ∧ ∀ j,j ≠ h.next → j ≠ h.next + 4 → hC.get j = hB.get j := by
        intro T u0 u2 u4
        obtain ⟨ex,T',h',r,q1,q2,q3,q4,q5⟩ := wl_go x M h.next n T0 t3 .rw 8 (M + 1) T hB (Nat.le_refl _) (by show n < 18446744073709551616; exact hn) (by omega) u0 u2 u4 gB0 gB1 gB4
        refine ⟨h',?_,q2,q3,q4,q5⟩
        rw [r]
        rcases q1 with rfl | rfl <;> rfl
      obtain ⟨Lo,eL⟩ : ∃ R,L_octet_highFirst_1_0 = R := ⟨_,rfl⟩
      rw [eL] at fin2 ⊢
      simp (config := {maxSteps := 2000000}) (disch := first | omega | (simp only [List.length_cons,List.length_nil,List.length_append,List.length_drop]; omega)) only [gB2,Nat.zero_add,↓l_loop,↓l_succ,↓s_load,m_load,↓m_load1,m_load1,Nat.reduceAdd,Int.reduceSub,↓s_ops,↓s_seq,↓s_block,↓s_nil,↓s_op,↓s_bindS,s_bindS,↓s_bindE,s_bindE,s_norm,↓s_getp,↓s_get,↓s_con,↓s_list0,↓s_list1,↓s_mov,↓s_bin,s_same,b_sub,↓iteN_true,↓iteN_false,iteN_true,iteN_false,Nat.zero_add,Nat.reduceEqDiff,decide_true,decide_false,List.getElem?_cons_zero]
      exact fin2 _ (by (simp only [s_getp,Nat.reduceEqDiff,decide_false,iteN_false]; try rfl)) (by (simp only [s_getp,Nat.reduceEqDiff,decide_false,iteN_false]; try rfl)) (by (simp only [s_getp,decide_true,iteN_true]; try rfl))
    have gC3 : hC.get (h.next + 3) = some .defers := by rw [qC _ (by omega) (by omega),gB3]
    have z1 : (h.next + 4 = h.next) = False := by simp
    have z2 : (h.next + 4 = h.next + 3) = False := by simp
    have z3 : (h.next + 3 = h.next) = False := by simp
    have kp : Kp h ((hC.del (h.next + 4)).del (h.next + 3)) := by
      refine ⟨by simp only [h_next_del]; omega,fun i hi => ?_⟩
      rw [h_del_ne _ (by omega),h_del_ne _ (by omega),qC _ (by omega) (by omega),kB.2 _ (by omega),kA.2 _ hi]
    rw [eB]
    rcases gC4 with gC4 | gC4
    · simp (config := {maxSteps := 2000000}) (disch := first | omega | (simp only [List.length_cons,List.length_nil,List.length_append,List.length_drop]; omega)) only [s_callF,List.nil_append,List.cons_append,rC,t3,gC0,gC3,gC4,z1,z2,R_octet_width_0,r_end,r_0,r_jn,e_ret,d_cons,d_yes,d_nil,e_some,↓h_del_get,↓s_load,m_load,↓m_load1,m_load1,List.cons_append,List.nil_append,s_res0,↓s_ops,↓s_seq,↓s_ret,↓s_nil,↓s_op,↓s_bindS,s_bindS,↓s_bindE,s_bindE,s_norm,s_block_normal,↓s_getp,↓s_mov,s_same,s_res0,s_res1,s_tup1,↓iteN_true,↓iteN_false,iteN_true,iteN_false,List.nil_append,decide_true,decide_false,List.getElem?_cons_zero]
      exact ⟨_,rfl,kp⟩
    · simp (config := {maxSteps := 2000000}) (disch := first | omega | (simp only [List.length_cons,List.length_nil,List.length_append,List.length_drop]; omega)) only [s_callF,List.nil_append,List.cons_append,rC,t3,gC0,gC3,gC4,z1,z2,R_octet_width_0,r_end,r_2,r_je,e_ret,d_cons,d_yes,d_nil,e_some,↓h_del_get,↓s_load,m_load,↓m_load1,m_load1,List.cons_append,List.nil_append,s_res0,↓s_ops,↓s_seq,↓s_ret,↓s_nil,↓s_op,↓s_bindS,s_bindS,↓s_bindE,s_bindE,s_norm,s_block_exit,↓s_getp,↓s_mov,s_same,s_res0,s_res1,s_tup1,↓iteN_true,↓iteN_false,iteN_true,iteN_false,List.nil_append,decide_true,decide_false,List.getElem?_cons_zero,if_true]
      exact ⟨_,rfl,kp⟩
  obtain ⟨R,eR⟩ : ∃ R,R_octet_width_0 = R := ⟨_,rfl⟩
  rw [eR] at fin ⊢
  simp (config := {maxSteps := 2000000}) (disch := first | omega | (simp only [List.length_cons,List.length_nil,List.length_append,List.length_drop]; omega)) only [r0,eA,nA,↓s_range,Nat.zero_add,↓h_new_get,h_next_put,h_next_new,Nat.add_assoc,↓m_st,m_stE,m_storeI,m_storeE,w_zero,↓s_alloc,List.length_cons,List.length_nil,List.drop_succ_cons,List.drop_nil,Nat.reduceAdd,↓s_skip,↓s_ops,↓s_seq,↓s_block,↓s_scope,↓s_nil,↓s_op,↓s_bindS,s_bindS,↓s_bindE,s_bindE,s_norm,↓s_getp,↓s_getp0,↓s_get,↓s_con,↓s_os0,↓s_os1,↓s_list0,↓s_list1,↓s_mov,↓s_call,↓iteN_true,↓iteN_false,iteN_true,iteN_false,Nat.zero_add,List.append_nil,Nat.reduceEqDiff,decide_true,decide_false]
  exact fin _ (by (simp only [s_getp,s_getp0,Nat.reduceEqDiff,decide_false,decide_true,iteN_false,iteN_true]; try rfl))
end Go.Eng
namespace Go.Eng
open Go
variable {E : Nat → Option Fn} {X : Orc}
set_option linter.unusedSimpArgs false
set_option linter.unusedVariables false
def leN (s n : Nat) : List Nat := (List.range s).map (fun k => n / 2 ^ (8 * k) % 256)
theorem leN_len (s n : Nat) : (leN s n).length = s := by unfold leN; rw [List.length_map,List.length_range]
theorem leN_byt (s n : Nat) : byt (leN s n) = true := byt_iff.2 (fun x hx => by
  unfold leN at hx
  obtain ⟨k,_,rfl⟩ := List.mem_map.1 hx
  exact Nat.mod_lt _ (by decide))
theorem leN_get (s n k : Nat) (h : k < s) : (leN s n)[k]? = some (n / 2 ^ (8 * k) % 256) := by
  unfold leN; rw [List.getElem?_map,List.getElem?_range h]; rfl
/-- what is there when the places from j on are written -/
def curN (w : List Nat) (s n j : Nat) : List Nat := w ++ (List.replicate j 0 ++ (leN s n).drop j)
theorem curN_len (w : List Nat) (s n j : Nat) (hj : j ≤ s) : (curN w s n j).length = w.length + s := by
  unfold curN; rw [List.length_append,List.length_append,List.length_replicate,List.length_drop,leN_len]; omega
theorem curN_set (w : List Nat) (s n j : Nat) (hj : j < s) : (curN w s n (j + 1)).set (w.length + j) (n / 2 ^ (8 * j) % 256) = curN w s n j := by
  unfold curN
  rw [List.set_append_right _ _ (by omega),Nat.add_sub_cancel_left,List.set_append_left _ _ (by rw [List.length_replicate]; omega)]
  congr 1
  have d : (leN s n).drop j = (n / 2 ^ (8 * j) % 256) :: (leN s n).drop (j + 1) := by
    have hl : j < (leN s n).length := by rw [leN_len]; exact hj
    have g := leN_get s n j hj
    rw [List.getElem?_eq_getElem hl] at g
    rw [List.drop_eq_getElem_cons hl,Option.some.inj g]
  rw [d,List.replicate_succ',List.set_append_right _ _ (by rw [List.length_replicate]; omega),List.length_replicate,Nat.sub_self,List.set_cons_zero,List.append_assoc]; rfl
theorem curN_0 (w : List Nat) (s n : Nat) : curN w s n 0 = w ++ leN s n := rfl
theorem curN_s (w : List Nat) (s n : Nat) : curN w s n s = w ++ List.replicate s 0 := by
  unfold curN; rw [List.drop_eq_nil_of_le (by rw [leN_len]; omega),List.append_nil]
theorem stAny (k : IntKind) (l : List Nat) (c : List V) (md : Md) (hm : isRo md = false) (h : H) (i off : Nat) (hl : off + c.length ≤ l.length) : storeE (some (.cells (ofI k l) md)) h i off c = some (h.put i (.cells (writeN (ofI k l) off c) md)) := by
  cases md with
  | ro => cases hm
  | rw => exact m_storeE _ _ _ _ _ (by rw [ofI_len]; exact hl)
  | sh => exact m_storeEs _ _ _ _ _ (by rw [ofI_len]; exact hl)
/-- a byte that is told to put -/
theorem py_go (x : ∀ l a h,X (.yld l) a h = none) (M b0 L pn q sl : Nat) (d : Nat) (T0 : Tr V) (t3 : evO T0 (.t 3) = .ptr (some (b0,0))) (t6 : evO T0 (.t 6) = .ptr (some (b0 + 1,0))) (h : H) (wl pl y : Nat) (cur cur' : List Nat) (md : Md) (hmd : isRo md = false) (hw : wl ≤ 100000000) (hp : pl < 8) (hy : y < 256) (hcl : cur.length = sl) (hpl : wl + pl < sl) (es : cur.set (wl + pl) y = cur')
    (gb : h.get b0 = some (.cells [.ptr (some (pn,0))] .rw)) (gb1 : h.get (b0 + 1) = some (.cells [.int .i64 (wl : Int)] .rw)) (gp : h.get pn = some (.cells [.slice (some (q,0)) sl none 1] .rw)) (gq : h.get q = some (.cells (ofI .u8 cur) md)) (g4 : h.get L = some (.loop 0 none 37 T0 [26,27] A_octet_Pen_put_0 B_octet_Pen_put_0 d))
    (z1 : (L = b0) = False) (z2 : (L = b0 + 1) = False) (z3 : (L = pn) = False) (z4 : (L = q) = False) (z5 : (q = L) = False) :
    ∃ h',callX E X (M + 1) (.yld L) [.int .i64 (pl : Int),.int .u8 (y : Int)] h = some (.bool true,h') ∧ h'.next = h.next ∧ h'.get q = some (.cells (ofI .u8 cur') md) ∧ ∀ j,j ≠ q → h'.get j = h.get j := by
  have yx : callX E X (M + 1) (.yld L) [.int .i64 (pl : Int),.int .u8 (y : Int)] h = cYld (callX E X M) M L [.int .i64 (pl : Int),.int .u8 (y : Int)] h := x_yld (x _ _ _)
  have w1 : wr .i64 ((wl : Int) + (pl : Int)) = ((wl + pl : Nat) : Int) := by rw [wr_i64 (by omega)]; omega
  have ix : idx ((wl + pl : Nat) : Int) sl = some (wl + pl) := idxn hpl
  have ste := fun (h : H) (v : V) => stAny .u8 cur [v] md hmd h q (wl + pl) (by simp only [List.length_cons,List.length_nil]; omega)
  have su := wr1I .u8 cur (wl + pl) y (by omega)
  rw [es] at su
  generalize wl + pl = o at *
  refine ⟨_,by
    rw [yx]
    simp (config := {maxSteps := 2000000}) (disch := first | omega | (simp only [List.length_cons,List.length_nil,List.length_append,List.length_drop]; omega)) only [g4,gb,gb1,gp,gq,t3,t6,w1,ix,ste,su,z1,z2,z3,z4,z5,y_cyld,y_ready,y_set2,y_mid,y_busy,y_end,y_done,y_jn,Option.isNone_none,↓u_A_octet_Pen_put_0,↓u_B_octet_Pen_put_0,↓x_fieldAddr,x_fieldV,↓s_nilchk,x_nilchk,Nat.zero_add,Nat.add_zero,Nat.mul_one,↓s_evD,↓s_dnil,↓s_dL,↓s_dR,↓s_dB,↓s_bindD,s_bindD,s_finD,s_addP0,↓s_bump0,Nat.add_zero,↓h_put_get,h_next_put,↓s_load,m_load,↓m_load1,m_load1,↓m_st,m_stE,m_storeI,↓x_idxS,x_idxSE,x_addrE,↓s_ops,↓s_dops,↓s_seq,↓s_block,↓s_nil,↓s_op,↓s_bindS,s_bindS,↓s_bindE,s_bindE,s_norm,s_block_normal,↓s_getp,↓s_get,↓s_mov,↓s_bin,s_same,b_add,↓iteN_true,↓iteN_false,iteN_true,iteN_false,Nat.zero_add,Nat.reduceEqDiff,decide_true,decide_false,List.getElem?_cons_zero]
    exact rfl,by rfl,?_,fun j h0 => ?_⟩
  · (simp (disch := omega) only [h_put_get,decide_true,decide_false,iteN_true,iteN_false,z4]; try rfl)
  · by_cases hL : j = L
    · subst hL; rw [g4]; (simp (disch := omega) only [h_put_get,decide_true,iteN_true]; try rfl)
    · have y0 : (q = j) = False := by simp; omega
      have y4 : (L = j) = False := by simp; omega
      (simp (disch := omega) only [h_put_get,decide_false,iteN_false,y0,y4]; try rfl)
end Go.Eng
namespace Go.Eng
open Go
variable {E : Nat → Option Fn} {X : Orc}
set_option linter.unusedSimpArgs false
set_option linter.unusedVariables false
/-- a slice of bytes that is nobody else's: it is empty,or has a block -/
def Wb (h : H) (w : List Nat) (ao : Option (Nat × Nat)) (co : Option Nat) (eo : Nat) : Prop := (w = [] ∧ ao = none ∧ co = some 0 ∧ eo = 0) ∨ (0 < w.length ∧ ∃ q md,ao = some (q,0) ∧ co = none ∧ eo = 1 ∧ h.get q = some (.cells (ofI .u8 w) md) ∧ isRo md = false ∧ q < h.next)
theorem Wb.nil (h : H) : Wb h [] none (some 0) 0 := .inl ⟨rfl,rfl,rfl,rfl⟩
theorem Wb.src {h : H} {w : List Nat} {ao : Option (Nat × Nat)} {co : Option Nat} {eo : Nat} (s : Wb h w ao co eo) : SrcH h ao eo w := by
  rcases s with ⟨h1,_⟩ | ⟨h1,q,md,rfl,rfl,rfl,g,_,hq⟩
  · exact .inl h1
  · exact .inr ⟨q,0,_,md,rfl,rfl,hq,g,by rw [ofI_len]; omega,by rw [List.drop_zero]; exact List.take_of_length_le (by rw [ofI_len]; exact Nat.le_refl _)⟩
theorem Wb.mono {h h' : H} {w : List Nat} {ao : Option (Nat × Nat)} {co : Option Nat} {eo : Nat} (s : Wb h w ao co eo) (hn : h.next ≤ h'.next) (k : ∀ q,q < h.next → ao = some (q,0) → h'.get q = h.get q) : Wb h' w ao co eo := by
  rcases s with s | ⟨h1,q,md,e1,e2,e3,g,hm,hq⟩
  · exact .inl s
  · exact .inr ⟨h1,q,md,e1,e2,e3,by rw [k _ hq e1,g],hm,Nat.lt_of_lt_of_le hq hn⟩
theorem Wb.kp {h h' : H} {w : List Nat} {ao : Option (Nat × Nat)} {co : Option Nat} {eo : Nat} (s : Wb h w ao co eo) (k : Kp h h') : Wb h' w ao co eo := s.mono k.1 (fun q hq _ => k.2 q hq)
/-- who has the block -/
theorem Wb.lt {h : H} {w : List Nat} {ao : Option (Nat × Nat)} {co : Option Nat} {eo : Nat} (s : Wb h w ao co eo) {q o : Nat} (e : ao = some (q,o)) : q < h.next := by
  rcases s with ⟨_,e2,_⟩ | ⟨_,q',_,e2,_,_,_,_,hq⟩
  · rw [e2] at e; cases e
  · rw [e2] at e; cases e; exact hq
theorem ap_wb (h : H) (w l : List Nat) (ao : Option (Nat × Nat)) (co : Option Nat) (eo : Nat) (s : Wb h w ao co eo) (hl : w.length + l.length ≤ 100000000) :
    ∃ ao' co' eo' h',appendC h 1 1 (.slice ao w.length co eo) (some (l.length,ofI .u8 l)) = some (.slice ao' (w ++ l).length co' eo',h') ∧ Wb h' (w ++ l) ao' co' eo' ∧ h.next ≤ h'.next ∧ (∀ i,i < h.next → ao ≠ some (i,0) → h'.get i = h.get i) ∧ (ao' = ao ∨ ao' = some (h.next,0)) := by
  cases hn : l.length with
  | zero =>
    obtain rfl : l = [] := List.length_eq_zero_iff.1 hn
    rw [List.append_nil]
    exact ⟨_,_,_,_,appN _ _ _ _ _ _,s,Nat.le_refl _,fun _ _ _ => rfl,.inl rfl⟩
  | succ n =>
    rcases s with ⟨rfl,rfl,rfl,rfl⟩ | ⟨h1,q,md,rfl,rfl,rfl,g,hm,hq⟩
    · have a := app0 h n 0 .u8 l (some 0) (by omega)
      rw [List.nil_append,hn]
      refine ⟨_,_,_,_,a,.inr ⟨by omega,h.next,.rw,rfl,rfl,rfl,h_new_same _ _,rfl,Nat.lt_succ_self _⟩,Nat.le_succ _,fun i hi _ => h_new_ne _ _ (by omega),.inr rfl⟩
    · have a := appU_of h q w.length n .u8 l (by omega)
      rw [g,appUI _ _ _ _ hm _ _ _ _ (Nat.le_refl _),take_all w _ (Nat.le_refl _)] at a
      rw [List.length_append,hn]
      refine ⟨_,_,_,_,a,.inr ⟨by rw [List.length_append]; omega,h.next,.sh,rfl,rfl,rfl,h_new_same' _ _ (by rw [h_next_del]),rfl,by simp only [h_next_new,h_next_del]; omega⟩,by simp only [h_next_new,h_next_del]; omega,fun i hi hne => ?_,.inr rfl⟩
      rw [h_new_ne _ _ (by rw [h_next_del]; omega),h_del_ne _ (fun e => hne (by rw [e]))]
/-- what a call that writes into a pen leaves alone -/
structure Fr (pn : Nat) (a0 : Option (Nat × Nat)) (h0 : H) (a : Option (Nat × Nat)) (h : H) : Prop where
  nx : h0.next ≤ h.next
  fr : ∀ j,j < h0.next → j ≠ pn → a0 ≠ some (j,0) → h.get j = h0.get j
  ow : a = a0 ∨ ∃ q,a = some (q,0) ∧ h0.next ≤ q
theorem Fr.of_kp {pn : Nat} {a : Option (Nat × Nat)} {h h' : H} (k : Kp h h') : Fr pn a h a h' := ⟨k.1,fun j hj _ _ => k.2 j hj,.inl rfl⟩
theorem Fr.refl (pn : Nat) (a : Option (Nat × Nat)) (h : H) : Fr pn a h a h := Fr.of_kp (Kp.refl h)
theorem Fr.ne {pn : Nat} {a0 a1 : Option (Nat × Nat)} {h0 h1 : H} (f : Fr pn a0 h0 a1 h1) {j : Nat} (hj : j < h0.next) (ha : a0 ≠ some (j,0)) : a1 ≠ some (j,0) := by
  rcases f.ow with e | ⟨q,e,hq⟩
  · rw [e]; exact ha
  · rw [e]; intro h; cases h; omega
theorem Fr.trans {pn : Nat} {a0 a1 a2 : Option (Nat × Nat)} {h0 h1 h2 : H} (f : Fr pn a0 h0 a1 h1) (g : Fr pn a1 h1 a2 h2) : Fr pn a0 h0 a2 h2 := by
  refine ⟨Nat.le_trans f.nx g.nx,fun j hj hp ha => ?_,?_⟩
  · rw [g.fr _ (Nat.lt_of_lt_of_le hj f.nx) hp (f.ne hj ha),f.fr _ hj hp ha]
  · rcases g.ow with e | ⟨q,e,hq⟩
    · rcases f.ow with e' | ⟨q,e',hq⟩
      · exact .inl (e.trans e')
      · exact .inr ⟨q,e.trans e',hq⟩
    · exact .inr ⟨q,e,Nat.le_trans f.nx hq⟩
/-- a pen that has written w -/
structure PenH (pn : Nat) (w : List Nat) (a : Option (Nat × Nat)) (h : H) : Prop where
  pt : ∃ co eo,h.get pn = some (.cells [.slice a w.length co eo] .rw) ∧ Wb h w a co eo
  ne : ∀ o,a ≠ some (pn,o)
  lt : pn < h.next
theorem PenH.alt {pn : Nat} {w : List Nat} {a : Option (Nat × Nat)} {h : H} (p : PenH pn w a h) {q o : Nat} (e : a = some (q,o)) : q < h.next := by
  obtain ⟨_,_,_,wb⟩ := p.pt
  exact wb.lt e
theorem PenH.mono {pn : Nat} {w : List Nat} {a : Option (Nat × Nat)} {h h' : H} (p : PenH pn w a h) (hn : h.next ≤ h'.next) (k1 : h'.get pn = h.get pn) (k : ∀ q,q < h.next → a = some (q,0) → h'.get q = h.get q) : PenH pn w a h' := by
  obtain ⟨⟨co,eo,g,wb⟩,ne,lt⟩ := p
  exact ⟨⟨co,eo,by rw [k1,g],wb.mono hn k⟩,ne,Nat.lt_of_lt_of_le lt hn⟩
theorem PenH.kp {pn : Nat} {w : List Nat} {a : Option (Nat × Nat)} {h h' : H} (p : PenH pn w a h) (k : Kp h h') : PenH pn w a h' := p.mono k.1 (k.2 _ p.lt) (fun q hq _ => k.2 q hq)
theorem PenH.new (h : H) (pn : Nat) (hp : pn < h.next) (g : h.get pn = some (.cells [.slice none 0 (some 0) 0] .rw)) : PenH pn [] none h := ⟨⟨some 0,0,g,.nil h⟩,(fun _ e => by cases e),hp⟩
/-- bytes that no pen's writing touches -/
theorem SrcH.fr {pn : Nat} {b b' : Option (Nat × Nat)} {h h' : H} {a : Option (Nat × Nat)} {e : Nat} {l : List Nat} (s : SrcH h a e l) (f : Fr pn b h b' h') (ap : l ≠ [] → ∀ q o,a = some (q,o) → q ≠ pn ∧ b ≠ some (q,0)) : SrcH h' a e l := by
  rcases s with s | ⟨bi,off,vs,m,h1,h2,h3,h4,h5,h6⟩
  · exact .inl s
  · by_cases hl : l = []
    · exact .inl hl
    · obtain ⟨a1,a2⟩ := ap hl bi off h1
      exact .inr ⟨bi,off,vs,m,h1,h2,Nat.lt_of_lt_of_le h3 f.nx,by rw [f.fr _ h3 a1 a2,h4],h5,h6⟩
/-- a new slice of bytes -/
structure Nw (h h' : H) (w : List Nat) (a : Option (Nat × Nat)) (c : Option Nat) (e : Nat) : Prop where
  kp : Kp h h'
  wb : Wb h' w a c e
  ge : ∀ q o,a = some (q,o) → h.next ≤ q
theorem app_nw (h : H) (l : List Nat) (hl : l.length ≤ 100000000) : ∃ a c e h',appendC h 1 1 (.slice none 0 (some 0) 0) (some (l.length,ofI .u8 l)) = some (.slice a l.length c e,h') ∧ Nw h h' l a c e := by
  obtain ⟨a,c,e,h',r,wb,hn,fr,ow⟩ := ap_wb h [] l none (some 0) 0 (.nil h) (by rw [List.length_nil]; omega)
  refine ⟨a,c,e,h',r,⟨hn,fun i hi => fr i hi (by intro h; cases h)⟩,wb,fun q o ea => ?_⟩
  rcases ow with ow | ow
  · rw [ow] at ea; cases ea
  · rw [ow] at ea; cases ea; exact Nat.le_refl _
def flV (ps : List Pt) : List Nat := (ps.map (fun q => q.2.2.2)).flatten
theorem flV_app (a b : List Pt) : flV (a ++ b) = flV a ++ flV b := by unfold flV; rw [List.map_append,List.flatten_append]
theorem flV_one (q : Pt) : flV [q] = q.2.2.2 := by unfold flV; simp
structure RV (pn p : Nat) (ps : List Pt) (w : List Nat) (a0 : Option (Nat × Nat)) (h0 : H) (i : Nat) (T : Tr V) (h : H) : Prop where
  il : i ≤ ps.length
  t0 : evO T (.t 0) = .ptr (some (pn,0))
  t9 : ∃ c,evO T (.t 9) = .slice (some (p,0)) ps.length c 1
  t10 : evO T (.t 10) = .int .i64 (ps.length : Int)
  t11 : evO T (.t 11) = .int .i64 (i : Int)
  pen : ∃ a,PenH pn (w ++ flV (ps.take i)) a h ∧ Fr pn a0 h0 a h
/-- a part that a pen can take -/
def PartOk (pn : Nat) (a0 : Option (Nat × Nat)) (h : H) (q : Pt) : Prop := SrcH h q.1 q.2.2.1 q.2.2.2 ∧ (q.2.2.2 ≠ [] → ∀ b o,q.1 = some (b,o) → b ≠ pn ∧ a0 ≠ some (b,0))
theorem rv_step (Q : Orc) (m pn p : Nat) (ps : List Pt) (hl : ps.length < 9223372036854775807) (w : List Nat) (a0 : Option (Nat × Nat)) (hf : w.length + (flV ps).length ≤ 100000000) (md : Md) (h0 : H) (hp : p < h0.next) (hpp : p ≠ pn) (hpa : a0 ≠ some (p,0)) (gp : h0.get p = some (.cells (ps.map slOf) md)) (ok : ∀ q ∈ ps,PartOk pn a0 h0 q) :
    ∀ i T h,i < ps.length → RV pn p ps w a0 h0 i T h → ∃ T' h',evC Q 25 m none L_octet_Pen_Raw_0 ⟨T,[],h⟩ = some (.normal,⟨T',[],h'⟩) ∧ RV pn p ps w a0 h0 (i + 1) T' h' := by
  intro i T h hi ⟨_,t0,⟨c,t9⟩,t10,t11,⟨a,pe,fr⟩⟩
  have c0 : decide ((i : Int) < (ps.length : Int)) = true := decide_eq_true (by omega)
  have wi : wr .i64 ((i : Int) + 1) = ((i + 1 : Nat) : Int) := by rw [wr_i64 (by omega)]; omega
  have ix : idx (i : Int) ps.length = some i := idxn hi
  have gp' : h.get p = some (.cells (ps.map slOf) md) := by rw [fr.fr _ hp hpp hpa,gp]
  obtain ⟨q,eq⟩ : ∃ q,ps[i] = q := ⟨_,rfl⟩
  have cg : (ps.map slOf)[i]? = some (.slice q.1 q.2.2.2.length q.2.1 q.2.2.1) := by rw [List.getElem?_map,List.getElem?_eq_getElem hi,eq]; rfl
  obtain ⟨s0,s1⟩ := ok q (by rw [← eq]; exact List.getElem_mem hi)
  have sc := (s0.fr fr s1).cellz q.2.1
  have fo : w ++ flV (ps.take (i + 1)) = (w ++ flV (ps.take i)) ++ q.2.2.2 := by
    rw [List.take_add_one,List.getElem?_eq_getElem hi,eq,flV_app,List.append_assoc]
    show _ ++ (_ ++ flV [q]) = _
    rw [flV_one]
  have fl : (flV (ps.take (i + 1))).length ≤ (flV ps).length := by
    have e : flV ps = flV (ps.take (i + 1)) ++ flV (ps.drop (i + 1)) := by rw [← flV_app,List.take_append_drop]
    rw [e,List.length_append]; omega
  have fl2 := congrArg List.length fo
  rw [List.length_append,List.length_append] at fl2
  obtain ⟨co,eo,gpn,wb⟩ := pe.pt
  obtain ⟨ao',co',eo',h1,ap,wb1,n1,f1,o1⟩ := ap_wb h (w ++ flV (ps.take i)) q.2.2.2 a co eo wb (by omega)
  rw [← fo] at ap wb1
  have gp1 : h1.get pn = some (.cells [.slice a (w ++ flV (ps.take i)).length co eo] .rw) := by rw [f1 _ pe.lt (pe.ne 0),gpn]
  obtain ⟨C,eC⟩ : ∃ C,ps.map slOf = C := ⟨_,rfl⟩
  rw [eC] at gp' cg
  have nao : ∀ o,ao' ≠ some (pn,o) := by
    intro o
    rcases o1 with e | e
    · rw [e]; exact pe.ne o
    · rw [e]; intro h; cases h; exact absurd pe.lt (Nat.lt_irrefl _)
  obtain ⟨N1,eN1⟩ : ∃ n,(w ++ flV (ps.take i)).length = n := ⟨_,rfl⟩
  obtain ⟨N2,eN2⟩ : ∃ n,(w ++ flV (ps.take (i + 1))).length = n := ⟨_,rfl⟩
  rw [eN1] at gpn ap gp1
  rw [eN2] at ap
  have hn1 : pn < h1.next := Nat.lt_of_lt_of_le pe.lt n1
  refine ⟨_,h1.put pn (.cells [.slice ao' N2 co' eo'] .rw),by
    simp (config := {maxSteps := 2000000}) (disch := first | omega | (simp only [List.length_cons,List.length_nil,List.length_append,List.length_drop]; omega)) only [L_octet_Pen_Raw_0,t0,t9,t10,t11,gp',gpn,cg,c0,wi,ix,sc,ap,gp1,m_storeS,↓s_append,↓x_fieldAddr,x_fieldV,↓s_nilchk,x_nilchk,Nat.zero_add,Nat.add_zero,Nat.mul_one,↓s_load,m_load,↓m_load1,m_load1,↓m_st,m_stE,m_storeE,w_zero,↓x_idxS,x_idxSE,x_addrE,List.length_cons,List.length_nil,List.drop_succ_cons,List.drop_nil,↓s_skip,↓s_ops,↓s_seq,↓s_cond,↓s_block,↓s_nil,↓s_op,↓s_bindS,s_bindS,↓s_bindE,s_bindE,s_norm,↓s_condV,s_condV,s_block_normal,↓s_getp,↓s_getp0,↓s_con,↓s_mov,↓s_bin,s_same,b_lss,b_add,↓iteN_true,↓iteN_false,iteN_true,iteN_false,Nat.zero_add,List.append_nil,Nat.reduceEqDiff,decide_true,decide_false,List.getElem?_cons_zero]
    exact rfl,⟨by omega,(by (simp only [s_getp,s_getp0,Nat.reduceEqDiff,decide_false,iteN_false,t0]; try rfl)),⟨c,(by (simp only [s_getp,s_getp0,Nat.reduceEqDiff,decide_false,iteN_false,t9]; try rfl))⟩,(by (simp only [s_getp,s_getp0,Nat.reduceEqDiff,decide_false,iteN_false,t10]; try rfl)),(by (simp only [s_getp,decide_true,iteN_true]; try rfl)),⟨ao',⟨⟨co',eo',by rw [eN2]; exact h_put_same _ _ _,wb1.mono (Nat.le_refl _) (fun q hq e => h_put_ne _ _ (fun e' => nao 0 (by rw [e']; exact e)))⟩,nao,hn1⟩,fr.trans ⟨n1,fun j hj hne ha => by rw [h_put_ne _ _ (Ne.symm hne),f1 _ hj ha],?_⟩⟩⟩⟩
  rcases o1 with e | e
  · exact .inl e
  · exact .inr ⟨_,e,Nat.le_refl _⟩
theorem rawv_go (e : E k_octet_Pen_Raw = some f_octet_Pen_Raw) (x : ∀ a h,X (.fn k_octet_Pen_Raw) a h = none) (M pn p : Nat) (ps : List Pt) (c : Option Nat) (hM : ps.length < M) (hl : ps.length < 9223372036854775807) (w : List Nat) (a0 : Option (Nat × Nat)) (hf : w.length + (flV ps).length ≤ 100000000) (md : Md) (h0 : H) (pe : PenH pn w a0 h0) (hp : p < h0.next) (hpp : p ≠ pn) (hpa : a0 ≠ some (p,0)) (gp : h0.get p = some (.cells (ps.map slOf) md)) (ok : ∀ q ∈ ps,PartOk pn a0 h0 q) :
    ∃ h' a,callX E X (M + 1) (.fn k_octet_Pen_Raw) [.ptr (some (pn,0)),.slice (some (p,0)) ps.length c 1] h0 = some (.int .i64 0,h') ∧ PenH pn (w ++ flV ps) a h' ∧ Fr pn a0 h0 a h' := by
  cases M with
  | zero => cases hM
  | succ M =>
  rw [x_cfn e _ _ (Nat.le_of_ble_eq_true rfl) (x _ _)]
  have fin : ∀ T,RV pn p ps w a0 h0 0 T h0 → ∃ h' a,fnEnd [.tmp 4] (bindE (blockE 0 (loopN (evC (callX E X (M + 1)) 25 (M + 1) none L_octet_Pen_Raw_0) (M + 1) ⟨T,[],h0⟩)) (evC (callX E X (M + 1)) 25 (M + 1) none R_octet_Pen_Raw_0)) = some (.int .i64 0,h') ∧ PenH pn (w ++ flV ps) a h' ∧ Fr pn a0 h0 a h' := by
    intro T I
    obtain ⟨T',h',r,a,pe',fr'⟩ := loop_go (f := evC (callX E X (M + 1)) 25 (M + 1) none L_octet_Pen_Raw_0) (RV pn p ps w a0 h0) ps.length (.exit 0) (by intro h; cases h) (fun T h => ∃ a,PenH pn (w ++ flV ps) a h ∧ Fr pn a0 h0 a h) (rv_step _ _ pn p ps hl w a0 hf md h0 hp hpp hpa gp ok) (fun T h I => by
      obtain ⟨il,t0,t9,t10,t11,pen⟩ := I
      rw [List.take_length] at pen
      have c0 : decide ((ps.length : Int) < (ps.length : Int)) = false := decide_eq_false (by omega)
      refine ⟨_,_,by
        simp (config := {maxSteps := 2000000}) (disch := first | omega | (simp only [List.length_cons,List.length_nil,List.length_append,List.length_drop]; omega)) only [L_octet_Pen_Raw_0,t10,t11,c0,↓s_ops,↓s_seq,↓s_cond,↓s_exit,↓s_nil,↓s_op,↓s_bindS,s_bindS,↓s_bindE,s_bindE,s_bindE_exit,s_norm,↓s_condV,s_condV,↓s_getp,↓s_bin,s_same,b_lss,↓iteN_true,↓iteN_false,iteN_true,iteN_false,decide_true]
        exact rfl,pen⟩) ps.length 0 (by omega) (M + 1) (by omega) T h0 I
    rw [r]
    refine ⟨h',a,?_,pe',fr'⟩
    simp (config := {maxSteps := 2000000}) (disch := first | omega | (simp only [List.length_cons,List.length_nil,List.length_append,List.length_drop]; omega)) only [R_octet_Pen_Raw_0,s_res0,↓s_ops,↓s_seq,↓s_ret,↓s_nil,↓s_op,↓s_bindS,s_bindS,↓s_bindE,s_bindE,s_norm,s_block_exit,↓s_getp,↓s_con,↓s_mov,s_end,s_res0,s_res1,s_tup1,↓iteN_true,iteN_true,decide_true,if_true]
  have ef : ∀ h,binV .eql (.ref .p) h (.ptr (some (pn,0))) (.ptr none) = some (.bool false) := fun h => rfl
  obtain ⟨R,eR⟩ : ∃ R,R_octet_Pen_Raw_0 = R := ⟨_,rfl⟩
  obtain ⟨Lo,eL⟩ : ∃ R,L_octet_Pen_Raw_0 = R := ⟨_,rfl⟩
  rw [eR,eL] at fin ⊢
  simp (config := {maxSteps := 2000000}) (disch := first | omega | (simp only [List.length_cons,List.length_nil,List.length_append,List.length_drop]; omega)) only [ef,↓s_len,x_lenS,Nat.zero_add,↓l_loop,↓l_succ,x_lenS,↓s_len,↓s_skip,↓s_ops,↓s_seq,↓s_cond,↓s_block,↓s_nil,↓s_op,↓s_bindS,s_bindS,↓s_bindE,s_bindE,s_norm,↓s_condV,s_condV,↓s_getp,↓s_get,↓s_con,↓s_list0,↓s_list1,↓s_mov,↓s_bin,s_same,↓iteN_true,↓iteN_false,iteN_true,iteN_false,Nat.zero_add,Nat.reduceEqDiff,decide_true,decide_false]
  exact fin _ ⟨by omega,(by (simp only [s_getp,Nat.reduceEqDiff,decide_false,iteN_false]; try rfl)),⟨c,(by (simp only [s_getp,Nat.reduceEqDiff,decide_false,decide_true,iteN_false,iteN_true]; try rfl))⟩,(by (simp only [s_getp,Nat.reduceEqDiff,decide_false,decide_true,iteN_false,iteN_true]; try rfl)),(by (simp only [s_getp,decide_true,iteN_true]; try rfl)),⟨a0,by rw [List.take_zero]; show PenH pn (w ++ []) a0 h0; rw [List.append_nil]; exact pe,.refl _ _ _⟩⟩
/-- one part: it lies in a new block -/
theorem raw1_go (e : E k_octet_Pen_Raw = some f_octet_Pen_Raw) (x : ∀ a h,X (.fn k_octet_Pen_Raw) a h = none) (M pn : Nat) (hM : 1 < M) (w l : List Nat) (a : Option (Nat × Nat)) (c : Option Nat) (ez : Nat) (a0 : Option (Nat × Nat)) (hf : w.length + l.length ≤ 100000000) (h : H) (pe : PenH pn w a0 h) (ok : PartOk pn a0 h (a,c,ez,l)) :
    ∃ h' a',callX E X (M + 1) (.fn k_octet_Pen_Raw) [.ptr (some (pn,0)),.slice (some (h.next,0)) 1 (some 1) 1] (h.new (.cells [.slice a l.length c ez] .rw)) = some (.int .i64 0,h') ∧ PenH pn (w ++ l) a' h' ∧ Fr pn a0 h a' h' := by
  have k1 : Kp h (h.new (.cells [.slice a l.length c ez] .rw)) := Kp.new _ _
  have pe1 := pe.kp k1
  obtain ⟨h',a',r,p',f'⟩ := rawv_go e x M pn h.next [(a,c,ez,l)] (some 1) hM (by show 1 < _; omega) w a0 (by rw [flV_one]; exact hf) .rw _ pe1 (Nat.lt_succ_self _) (fun e => absurd pe.lt (by omega)) (fun e => absurd (pe.alt e) (Nat.lt_irrefl _)) (h_new_same _ _) (fun q hq => by
    rcases List.mem_singleton.1 hq with rfl
    exact ⟨ok.1.mono k1,ok.2⟩)
  rw [flV_one] at p'
  exact ⟨h',a',r,p',(Fr.of_kp k1).trans f'⟩
end Go.Eng
namespace Go.Eng
open Go
variable {E : Nat → Option Fn} {X : Orc}
set_option linter.unusedSimpArgs false
set_option linter.unusedVariables false
noncomputable def apZ (n : V) (h : H) (s : V) : Option (V × H) := match n with
  | .int _ (.ofNat n) => bif roomy n 1 then appendC h 1 1 s (some (n,(List.replicate n [.int .u8 0]).flatten)) else none
  | _ => none
theorem x_appendZ (Q : Orc) (T : Tr V) (h : H) (s n : O) : Eng.step (.appendZ [.int .u8 0] 1 s n) Q T h = apZ (evO T n) h (evO T s) := _root_.id rfl
theorem flat0 (n : Nat) : (List.replicate n [V.int .u8 0]).flatten = ofI .u8 (List.replicate n 0) := by
  induction n with
  | zero => rfl
  | succ n ih => rw [List.replicate_succ,List.replicate_succ,List.flatten_cons,ih]; rfl
theorem apZ_n (k : IntKind) (n : Nat) (hn : n ≤ 1000) (h : H) (s : V) : apZ (.int k (n : Int)) h s = appendC h 1 1 s (some (n,ofI .u8 (List.replicate n 0))) := by
  show (bif roomy n 1 then appendC h 1 1 s (some (n,(List.replicate n [.int .u8 0]).flatten)) else none) = _
  have : roomy n 1 = true := by simp [roomy]; omega
  rw [this,flat0]; rfl
theorem ap_wb2 (h : H) (w l : List Nat) (ao : Option (Nat × Nat)) (co : Option Nat) (eo : Nat) (s : Wb h w ao co eo) (n : Nat) (hn : l.length = n + 1) (hl : w.length + l.length ≤ 100000000) :
    ∃ h' md,appendC h 1 1 (.slice ao w.length co eo) (some (n + 1,ofI .u8 l)) = some (.slice (some (h.next,0)) (w.length + (n + 1)) none 1,h') ∧ h'.get h.next = some (.cells (ofI .u8 (w ++ l)) md) ∧ isRo md = false ∧ h'.next = h.next + 1 ∧ ∀ i,i < h.next → ao ≠ some (i,0) → h'.get i = h.get i := by
  rcases s with ⟨rfl,rfl,rfl,rfl⟩ | ⟨h1,q,md,rfl,rfl,rfl,g,hm,hq⟩
  · have a := app0 h n 0 .u8 l (some 0) (by omega)
    rw [List.nil_append,List.length_nil,Nat.zero_add]
    exact ⟨_,.rw,a,h_new_same _ _,rfl,rfl,fun i hi _ => h_new_ne _ _ (by omega)⟩
  · have a := appU_of h q w.length n .u8 l (by omega)
    rw [g,appUI _ _ _ _ hm _ _ _ _ (Nat.le_refl _),take_all w _ (Nat.le_refl _)] at a
    refine ⟨_,.sh,a,h_new_same' _ _ (by rw [h_next_del]),rfl,by simp only [h_next_new,h_next_del],fun i hi hne => ?_⟩
    rw [h_new_ne _ _ (by rw [h_next_del]; omega),h_del_ne _ (fun e => hne (by rw [e]))]
structure HPI (L nb q s n : Nat) (w : List Nat) (md : Md) (h0 : H) (i : Nat) (T : Tr V) (h : H) : Prop where
  il : i ≤ s
  t0 : evO T (.t 0) = .yld L
  t2 : evO T (.t 2) = .ptr (some (nb,0))
  t4 : evO T (.t 4) = .int .i64 ((s : Int) - 1 - (i : Int))
  gq : h.get q = some (.cells (ofI .u8 (curN w s n (s - i))) md)
  nx : h.next = h0.next
  fr : ∀ j,j ≠ q → h.get j = h0.get j
theorem hp_step (x : ∀ l a h,X (.yld l) a h = none) (M m b0 L nb pn q s n : Nat) (d : Nat) (T0 : Tr V) (t3 : evO T0 (.t 3) = .ptr (some (b0,0))) (t6 : evO T0 (.t 6) = .ptr (some (b0 + 1,0))) (w : List Nat) (md mn : Md) (hmd : isRo md = false) (hw : w.length ≤ 100000000) (hs : s ≤ 8) (h0 : H)
    (gb : h0.get b0 = some (.cells [.ptr (some (pn,0))] .rw)) (gb1 : h0.get (b0 + 1) = some (.cells [.int .i64 (w.length : Int)] .rw)) (gp : h0.get pn = some (.cells [.slice (some (q,0)) (w.length + s) none 1] .rw)) (gn : h0.get nb = some (.cells [.int .u64 (n : Int)] mn)) (g4 : h0.get L = some (.loop 0 none 37 T0 [26,27] A_octet_Pen_put_0 B_octet_Pen_put_0 d))
    (z : b0 ≠ q ∧ b0 + 1 ≠ q ∧ pn ≠ q ∧ nb ≠ q ∧ L ≠ q ∧ L ≠ b0 ∧ L ≠ b0 + 1 ∧ L ≠ pn) :
    ∀ i T h,i < s → HPI L nb q s n w md h0 i T h → ∃ T' h',evC (callX E X (M + 1)) 20 m none L_octet_highFirst_1_0 ⟨T,[],h⟩ = some (.normal,⟨T',[],h'⟩) ∧ HPI L nb q s n w md h0 (i + 1) T' h' := by
  intro i T h hi ⟨_,u0,u2,u4,gq,nx,fr⟩
  obtain ⟨z1,z2,z3,z4,z5,z6,z7,z8⟩ := z
  obtain ⟨pl,ep⟩ : ∃ p,s - 1 - i = p := ⟨_,rfl⟩
  have e1 : (s : Int) - 1 - (i : Int) = (pl : Int) := by omega
  rw [e1] at u4
  have c0 : decide ((0 : Int) ≤ (pl : Int)) = true := decide_eq_true (by omega)
  have w1 : wr .i64 (8 * (pl : Int)) = ((8 * pl : Nat) : Int) := by rw [wr_i64 (by omega)]; omega
  have w2 : wr .i64 ((pl : Int) - 1) = (s : Int) - 1 - ((i + 1 : Nat) : Int) := by rw [wr_i64 (by omega)]; omega
  have sh := fun e h => shr64 n pl (by omega) e h
  have es := curN_set w s n pl (by omega)
  rw [show s - i = pl + 1 by omega] at gq
  have cl := curN_len w s n (pl + 1) (by omega)
  obtain ⟨h1,r1,n1,g1,f1⟩ := py_go (E := E) x M b0 L pn q (w.length + s) d T0 t3 t6 h w.length pl (n / 2 ^ (8 * pl) % 256) _ _ md hmd hw (by omega) (Nat.mod_lt _ (by decide)) cl (by omega) es (by rw [fr _ z1,gb]) (by rw [fr _ z2,gb1]) (by rw [fr _ z3,gp]) gq (by rw [fr _ z5,g4]) (eq_false z6) (eq_false z7) (eq_false z8) (eq_false z5) (eq_false (Ne.symm z5))
  have gn' : h.get nb = some (.cells [.int .u64 (n : Int)] mn) := by rw [fr _ z4,gn]
  generalize n / 2 ^ (8 * pl) = y at *
  have w3 : wr .u8 (y : Int) = ((y % 256 : Nat) : Int) := w8n _
  refine ⟨_,h1,by
    simp (config := {maxSteps := 2000000}) (disch := first | omega | (simp only [List.length_cons,List.length_nil,List.length_append,List.length_drop]; omega)) only [L_octet_highFirst_1_0,u0,u2,u4,gn',c0,w1,w2,w3,sh,r1,s_callVy,↓x_conv,x_convV,↓s_load,m_load,↓m_load1,m_load1,↓s_skip,↓s_ops,↓s_seq,↓s_cond,↓s_block,↓s_nil,↓s_op,↓s_bindS,s_bindS,↓s_bindE,s_bindE,s_norm,↓s_condV,s_condV,s_block_normal,↓s_getp,↓s_con,↓s_os0,↓s_os1,↓s_mov,↓s_bin,↓s_un,↓s_callv,s_same,b_geq,b_sub,b_mul,u_not,↓iteN_true,↓iteN_false,iteN_true,iteN_false,Nat.reduceEqDiff,decide_true,decide_false,Bool.not_true,List.getElem?_cons_zero]
    exact rfl,⟨by omega,(by (simp only [s_getp,Nat.reduceEqDiff,decide_false,iteN_false,u0]; try rfl)),(by (simp only [s_getp,Nat.reduceEqDiff,decide_false,iteN_false,u2]; try rfl)),(by (simp only [s_getp,decide_true,iteN_true]; try rfl)),by rw [show s - (i + 1) = pl by omega]; exact g1,by rw [n1,nx],fun j hj => by rw [f1 _ hj,fr _ hj]⟩⟩
structure EnPut (E : Nat → Option Fn) : Prop where
  put : E k_octet_Pen_put = some f_octet_Pen_put
  wi : EnWid E
structure NoPut (X : Orc) : Prop where
  put : ∀ a h,X (.fn k_octet_Pen_put) a h = none
  wi : NoWid X
theorem putv_go (e : EnPut E) (x : NoPut X) (M pn s n : Nat) (hM : 10 < M) (hs0 : 0 < s) (hs : s ≤ 8) (w : List Nat) (hw : w.length ≤ 90000000) (a0 : Option (Nat × Nat)) (h : H) (pe : PenH pn w a0 h) :
    ∃ h' a,callX E X (M + 3) (.fn k_octet_Pen_put) [.ptr (some (pn,0)),.int .i64 (s : Int),.int .u64 (n : Int)] h = some (.tup [],h') ∧ PenH pn (w ++ leN s n) a h' ∧ Fr pn a0 h a h' := by
  rw [x_cfn e.put _ _ (Nat.le_of_ble_eq_true rfl) (x.put _ _)]
  obtain ⟨⟨co,eo,gp,ws⟩,hne,hpn⟩ := pe
  have hal : ∀ q o,a0 = some (q,o) → q < h.next := fun q o e => ws.lt e
  obtain ⟨hA,eA⟩ : ∃ hA,((h.new (.cells [.ptr (some (pn,0))] .rw)).new (.cells [.int .i64 0] .rw)).put (h.next + 1) (.cells [.int .i64 (w.length : Int)] .rw) = hA := ⟨_,rfl⟩
  have nA : hA.next = h.next + 2 := by rw [← eA]; rfl
  have kA : Kp h hA := by rw [← eA]; (repeat (first | exact Kp.refl _ | refine Kp.put ?_ _ (by first | omega | (simp only [h_next_put,h_next_new,h_next_del]; omega)) | refine Kp.del ?_ (by first | omega | (simp only [h_next_put,h_next_new,h_next_del]; omega)) | refine Kp.trans ?_ (Kp.new _ _)))
  have gA0 : hA.get h.next = some (.cells [.ptr (some (pn,0))] .rw) := by rw [← eA]; (simp (disch := omega) only [h_put_get,h_new_get,h_next_new,Nat.add_eq_left,decide_true,decide_false,iteN_true,iteN_false,reduceCtorEq,]; try rfl)
  have gA1 : hA.get (h.next + 1) = some (.cells [.int .i64 (w.length : Int)] .rw) := by rw [← eA]; (simp (disch := omega) only [h_put_get,decide_true,iteN_true,]; try rfl)
  have gAp : hA.get pn = some (.cells [.slice a0 w.length co eo] .rw) := by rw [kA.2 _ (by omega),gp]
  obtain ⟨s',es⟩ : ∃ k,s = k + 1 := ⟨s - 1,by omega⟩
  have wsA : Wb hA w a0 co eo := ws.kp kA
  obtain ⟨hB,md,ap,gq,hmd,nB,fB⟩ := ap_wb2 hA w (List.replicate s 0) a0 co eo wsA s' (by rw [List.length_replicate,es]) (by rw [List.length_replicate]; omega)
  rw [← es,nA] at ap
  rw [nA] at gq nB
  have hao : ∀ i,i = pn ∨ h.next ≤ i → a0 ≠ some (i,0) := by
    intro i hi ha
    rcases hi with rfl | hi
    · exact hne 0 ha
    · have := hal _ _ ha; omega
  have az := fun h => apZ_n .i64 s (by omega) h (.slice a0 w.length co eo)
  obtain ⟨hC,eC⟩ : ∃ hC,hB.put pn (.cells [.slice (some (h.next + 2,0)) (w.length + s) none 1] .rw) = hC := ⟨_,rfl⟩
  have nC : hC.next = h.next + 3 := by rw [← eC]; show hB.next = _; omega
  have gBp : hB.get pn = some (.cells [.slice a0 w.length co eo] .rw) := by rw [fB _ (by omega) (hao _ (.inl rfl)),gAp]
  have gB0 : hB.get h.next = some (.cells [.ptr (some (pn,0))] .rw) := by rw [fB _ (by omega) (hao _ (.inr (Nat.le_refl _))),gA0]
  have gC0 : hC.get h.next = some (.cells [.ptr (some (pn,0))] .rw) := by rw [← eC,h_put_ne _ _ (by omega),gB0]
  have gC1 : hC.get (h.next + 1) = some (.cells [.int .i64 (w.length : Int)] .rw) := by rw [← eC,h_put_ne _ _ (by omega),fB _ (by omega) (hao _ (.inr (by omega))),gA1]
  have gCp : hC.get pn = some (.cells [.slice (some (h.next + 2,0)) (w.length + s) none 1] .rw) := by rw [← eC,h_put_same]
  have gCq : hC.get (h.next + 2) = some (.cells (ofI .u8 (w ++ List.replicate s 0)) md) := by rw [← eC,h_put_ne _ _ (by omega),gq]
  have r0 := hi_go e.wi x.wi (M + 1) n s hC
  rw [nC] at r0
  have fin : ∀ T0,evO T0 (.t 3) = .ptr (some (h.next,0)) → evO T0 (.t 6) = .ptr (some (h.next + 1,0)) → ∃ h' a,fnEnd [] (blockE 0 (rangeEnd (h.next + 6) T0 [h.next + 5] (callF (callX E X (M + 2)) (.yld (h.next + 6)) (.fn k_octet_highFirst_1 [] [.ptr (some (h.next + 4,0)),.ptr (some (h.next + 3,0))]) ((((hC.new (.cells [.int .u64 (n : Int)] .rw)).new (.cells [.int .i64 (s : Int)] .rw)).new .defers).new (.loop 0 none 37 T0 [26,27] A_octet_Pen_put_0 B_octet_Pen_put_0 (h.next + 5)))))) = some (.tup [],h') ∧ PenH pn (w ++ leN s n) a h' ∧ Fr pn a0 h a h' := by
    intro T0 t3 t6
    obtain ⟨hD,eD⟩ : ∃ hD,(((hC.new (.cells [.int .u64 (n : Int)] .rw)).new (.cells [.int .i64 (s : Int)] .rw)).new .defers).new (.loop 0 none 37 T0 [26,27] A_octet_Pen_put_0 B_octet_Pen_put_0 (h.next + 5)) = hD := ⟨_,rfl⟩
    have nD : hD.next = h.next + 7 := by rw [← eD]; simp only [h_next_new,nC]
    have kD : Kp hC hD := by rw [← eD]; (repeat (first | exact Kp.refl _ | refine Kp.put ?_ _ (by first | omega | (simp only [h_next_put,h_next_new,h_next_del]; omega)) | refine Kp.del ?_ (by first | omega | (simp only [h_next_put,h_next_new,h_next_del]; omega)) | refine Kp.trans ?_ (Kp.new _ _)))
    have gn : hD.get (h.next + 3) = some (.cells [.int .u64 (n : Int)] .rw) := by rw [← eD]; (simp (disch := omega) only [h_new_get,h_next_new,Nat.add_assoc,Nat.add_left_cancel_iff,Nat.reduceAdd,decide_true,decide_false,iteN_true,iteN_false,Nat.reduceEqDiff,Nat.reduceAdd,nC]; try rfl)
    have gs : hD.get (h.next + 4) = some (.cells [.int .i64 (s : Int)] .rw) := by rw [← eD]; (simp (disch := omega) only [h_new_get,h_next_new,Nat.add_assoc,Nat.add_left_cancel_iff,Nat.reduceAdd,decide_true,decide_false,iteN_true,iteN_false,Nat.reduceEqDiff,Nat.reduceAdd,nC]; try rfl)
    have g5 : hD.get (h.next + 5) = some .defers := by rw [← eD]; (simp (disch := omega) only [h_new_get,h_next_new,Nat.add_assoc,Nat.add_left_cancel_iff,Nat.reduceAdd,decide_true,decide_false,iteN_true,iteN_false,Nat.reduceEqDiff,Nat.reduceAdd,nC]; try rfl)
    have g6 : hD.get (h.next + 6) = some (.loop 0 none 37 T0 [26,27] A_octet_Pen_put_0 B_octet_Pen_put_0 (h.next + 5)) := by rw [← eD]; (simp (disch := omega) only [h_new_get,h_next_new,Nat.add_assoc,Nat.reduceAdd,decide_true,iteN_true,Nat.reduceAdd,nC]; try rfl)
    obtain ⟨hE,rE,gE,nE,fE⟩ : ∃ hE,callX E X (M + 2) (.fn k_octet_highFirst_1) [.yld (h.next + 6),.ptr (some (h.next + 4,0)),.ptr (some (h.next + 3,0))] hD = some (.tup [],hE) ∧ hE.get (h.next + 2) = some (.cells (ofI .u8 (w ++ leN s n)) md) ∧ hE.next = hD.next ∧ ∀ j,j ≠ h.next + 2 → hE.get j = hD.get j := by
      rw [x_cfn e.wi.hi1 _ _ (Nat.le_of_ble_eq_true rfl) (x.wi.hi1 _ _)]
      have w8 : wr .i64 ((s : Int) - 1) = (s : Int) - 1 := by rw [wr_i64 (by omega)]
      have fin2 : ∀ T,HPI (h.next + 6) (h.next + 3) (h.next + 2) s n w md hD 0 T hD → ∃ hE,fnEnd [] (blockE 0 (loopN (evC (callX E X (M + 1)) 20 (M + 1) none L_octet_highFirst_1_0) (M + 1) ⟨T,[],hD⟩)) = some (.tup [],hE) ∧ hE.get (h.next + 2) = some (.cells (ofI .u8 (w ++ leN s n)) md) ∧ hE.next = hD.next ∧ ∀ j,j ≠ h.next + 2 → hE.get j = hD.get j := by
        intro T I
        obtain ⟨T',h',r,g,nx,fr⟩ := loop_go (f := evC (callX E X (M + 1)) 20 (M + 1) none L_octet_highFirst_1_0) (HPI (h.next + 6) (h.next + 3) (h.next + 2) s n w md hD) s (.exit 0) (by intro h; cases h) (fun T h' => h'.get (h.next + 2) = some (.cells (ofI .u8 (w ++ leN s n)) md) ∧ h'.next = hD.next ∧ ∀ j,j ≠ h.next + 2 → h'.get j = hD.get j)
          (hp_step x.wi.yld M (M + 1) h.next (h.next + 6) (h.next + 3) pn (h.next + 2) s n (h.next + 5) T0 t3 t6 w md .rw hmd (by omega) hs hD (by rw [kD.2 _ (by omega),gC0]) (by rw [kD.2 _ (by omega),gC1]) (by rw [kD.2 _ (by omega),gCp]) gn g6 (by omega)) (fun T h' I => by
            obtain ⟨il,u0,u2,u4,gq,nx,fr⟩ := I
            rw [Nat.sub_self,curN_0] at gq
            have c0 : decide ((0 : Int) ≤ (s : Int) - 1 - (s : Int)) = false := decide_eq_false (by omega)
            refine ⟨_,h',by
              simp (config := {maxSteps := 2000000}) (disch := first | omega | (simp only [List.length_cons,List.length_nil,List.length_append,List.length_drop]; omega)) only [L_octet_highFirst_1_0,u4,c0,↓s_ops,↓s_seq,↓s_cond,↓s_exit,↓s_nil,↓s_op,↓s_bindS,s_bindS,↓s_bindE,s_bindE,s_bindE_exit,s_norm,↓s_condV,s_condV,↓s_getp,↓s_con,↓s_mov,↓s_bin,s_same,b_geq,↓iteN_true,↓iteN_false,iteN_true,iteN_false,decide_true]
              exact rfl,gq,nx,fr⟩) s 0 (by omega) (M + 1) (by omega) T hD I
        rw [r]
        exact ⟨h',rfl,g,nx,fr⟩
      obtain ⟨Lo,eL⟩ : ∃ R,L_octet_highFirst_1_0 = R := ⟨_,rfl⟩
      rw [eL] at fin2 ⊢
      simp (config := {maxSteps := 2000000}) (disch := first | omega | (simp only [List.length_cons,List.length_nil,List.length_append,List.length_drop]; omega)) only [gs,w8,Nat.zero_add,↓l_loop,↓l_succ,↓s_load,m_load,↓m_load1,m_load1,Nat.reduceAdd,↓s_ops,↓s_seq,↓s_block,↓s_nil,↓s_op,↓s_bindS,s_bindS,↓s_bindE,s_bindE,s_norm,↓s_getp,↓s_get,↓s_con,↓s_list0,↓s_list1,↓s_mov,↓s_bin,s_same,b_sub,↓iteN_true,↓iteN_false,iteN_true,iteN_false,Nat.zero_add,Nat.reduceEqDiff,decide_true,decide_false,List.getElem?_cons_zero]
      exact fin2 _ ⟨by omega,(by (simp only [s_getp,Nat.reduceEqDiff,decide_false,iteN_false]; try rfl)),(by (simp only [s_getp,Nat.reduceEqDiff,decide_false,iteN_false]; try rfl)),by show _ = V.int .i64 ((s : Int) - 1 - ((0 : Nat) : Int)); rw [show (s : Int) - 1 - ((0 : Nat) : Int) = (s : Int) - 1 by omega]; exact (by (simp only [s_getp,decide_true,iteN_true]; try rfl)),by rw [Nat.sub_zero,curN_s,kD.2 _ (by omega)]; exact gCq,rfl,fun _ _ => rfl⟩
    have gE5 : hE.get (h.next + 5) = some .defers := by rw [fE _ (by omega),g5]
    have gE6 : hE.get (h.next + 6) = some (.loop 0 none 37 T0 [26,27] A_octet_Pen_put_0 B_octet_Pen_put_0 (h.next + 5)) := by rw [fE _ (by omega),g6]
    have z1 : (h.next + 6 = h.next + 5) = False := by simp
    have ln : (w ++ leN s n).length = w.length + s := by rw [List.length_append,leN_len]
    obtain ⟨hF,eF⟩ : ∃ hF,(hE.del (h.next + 6)).del (h.next + 5) = hF := ⟨_,rfl⟩
    have fF : ∀ j,j < h.next + 5 → hF.get j = hE.get j := fun j hj => by rw [← eF,h_del_ne _ (by omega),h_del_ne _ (by omega)]
    have nF : hF.next = h.next + 7 := by rw [← eF]; simp only [h_next_del]; omega
    rw [eD]
    refine ⟨hF,some (h.next + 2,0),?_,⟨⟨none,1,?_,?_⟩,fun o e => by cases e; omega,by omega⟩,by omega,fun j hj hne ha => ?_,.inr ⟨_,rfl,by omega⟩⟩
    · simp (config := {maxSteps := 2000000}) (disch := first | omega | (simp only [List.length_cons,List.length_nil,List.length_append,List.length_drop]; omega)) only [s_callF,List.nil_append,List.cons_append,rE,gE5,gE6,z1,e_tup0,r_end,r_0,r_jn,e_normal,d_cons,d_yes,d_nil,e_some,eF,↓h_del_get,List.cons_append,List.nil_append,s_res0,s_block_normal,s_res0,↓iteN_false,iteN_false,List.nil_append,decide_false]
    · rw [fF _ (by omega),fE _ (by omega),kD.2 _ (by omega),ln]; exact gCp
    · exact .inr ⟨by omega,h.next + 2,md,rfl,rfl,rfl,by rw [fF _ (by omega)]; exact gE,hmd,by omega⟩
    · rw [fF _ (by omega),fE _ (by omega),kD.2 _ (by omega),← eC,h_put_ne _ _ (by omega),fB _ (by omega) ha,kA.2 _ (by omega)]
  have np0 : (h.next = pn) = False := by simp; omega
  have np1 : (h.next + 1 = pn) = False := by simp; omega
  have np2 : (pn = h.next) = False := by simp; omega
  have vp : V.beq (.ptr (some (pn,0))) (.ptr (some (pn,0))) = true := by unfold V.beq; simp
  have cp : (V.ptr (some (pn,0))).cells = [.ptr (some (pn,0))] := rfl
  simp (config := {maxSteps := 2000000}) (disch := first | omega | (simp only [List.length_cons,List.length_nil,List.length_append,List.length_drop]; omega)) only [gp,gAp,gBp,gA0,gB0,ap,az,eA,nA,eC,nC,r0,cp,vp,np0,m_storeS,↓x_appendZ,↓s_box,↓s_range,↓s_len,x_lenS,↓x_fieldAddr,x_fieldV,↓s_nilchk,x_nilchk,Nat.zero_add,Nat.add_zero,↓s_evD,↓s_dnil,↓s_dL,↓s_dR,↓s_dRj,↓s_dB,↓s_bindD,s_bindD,s_finDx,s_addP0,↓s_bump0,s_ok0,↓s_ok1,s_okR0,↓s_okR1,↓s_okE,s_okE,s_okE1,s_nth0,s_nthS,Nat.add_zero,Bool.and_self,↓h_new_get,h_next_new,Nat.add_assoc,↓s_load,m_load,↓m_load1,m_load1,↓m_st,m_stE,m_storeI,m_storeE,w_zero,↓s_alloc,x_lenS,↓s_len,List.length_cons,List.length_nil,List.drop_succ_cons,List.drop_nil,Nat.reduceAdd,↓s_ops,↓s_dops,↓s_seq,↓s_block,↓s_nil,↓s_op,↓s_bindS,s_bindS,↓s_bindE,s_bindE,s_norm,↓s_getp,↓s_getp0,↓s_get,↓s_os0,↓s_os1,↓s_list0,↓s_list1,↓s_mov,↓s_call,s_same,↓iteN_true,↓iteN_false,iteN_true,iteN_false,Nat.zero_add,List.append_nil,Nat.reduceEqDiff,decide_true,decide_false,List.getElem?_cons_zero]
  exact fin _ (by (simp only [s_getp,s_getp0,Nat.reduceEqDiff,decide_false,decide_true,iteN_false,iteN_true]; try rfl)) (by (simp only [s_getp,s_getp0,Nat.reduceEqDiff,decide_false,decide_true,iteN_false,iteN_true]; try rfl))
end Go.Eng
namespace Go.Eng
open Go
variable {E : Nat → Option Fn} {X : Orc}
set_option linter.unusedSimpArgs false
set_option linter.unusedVariables false
theorem PartOk.fr {pn : Nat} {a0 a1 : Option (Nat × Nat)} {h h1 : H} {q : Pt} (p : PartOk pn a0 h q) (f : Fr pn a0 h a1 h1) : PartOk pn a1 h1 q := by
  obtain ⟨s,ap⟩ := p
  refine ⟨s.fr f ap,fun hl b o e => ⟨(ap hl b o e).1,f.ne ?_ (ap hl b o e).2⟩⟩
  rcases s with s | ⟨bi,off,vs,m,h1,h2,h3,_⟩
  · exact absurd s hl
  · rw [h1] at e; cases e; exact h3
structure EnFix (E : Nat → Option Fn) : Prop where
  fx : E k_octet_Pen_Fixed = some f_octet_Pen_Fixed
  sz : E k_octet_sized = some f_octet_sized
  pt : EnPut E
structure NoFix (X : Orc) : Prop where
  fx : ∀ a h,X (.fn k_octet_Pen_Fixed) a h = none
  sz : ∀ a h,X (.fn k_octet_sized) a h = none
  pt : NoPut X
def sizedI (s : Int) : Bool := decide (s = 1) || (decide (s = 2) || (decide (s = 4) || decide (s = 8)))
theorem sizedI_go (e : E k_octet_sized = some f_octet_sized) (x : ∀ a h,X (.fn k_octet_sized) a h = none) (N : Nat) (s : Int) (h : H) : callX E X (N + 1) (.fn k_octet_sized) [.int .i64 s] h = some (.bool (sizedI s),h) := by
  rw [x_cfn e _ _ (Nat.le_of_ble_eq_true rfl) (x _ _)]
  unfold sizedI
  generalize q1 : decide (s = 1) = b1 at *
  generalize q2 : decide (s = 2) = b2 at *
  generalize q4 : decide (s = 4) = b4 at *
  generalize q8 : decide (s = 8) = b8 at *
  cases b1 <;> cases b2 <;> cases b4 <;> (simp (config := {maxSteps := 2000000}) (disch := first | omega | (simp only [List.length_cons,List.length_nil,List.length_append,List.length_drop]; omega)) only [q1,q2,q4,q8,Bool.true_or,Bool.false_or,s_res0,↓s_ops,↓s_seq,↓s_ret,↓s_nil,↓s_op,↓s_opg,↓s_wanted',↓s_wantV,s_wantV,beq_false,↓s_bindS,s_bindS,↓s_bindE,s_bindE,s_norm,↓s_getp,↓s_get,↓s_con,↓s_list0,↓s_list1,↓s_mov,↓s_pick,↓s_pickE,s_pickE,↓s_bin,s_same,b_eql,s_end,s_res0,s_res1,s_tup1,↓iteN_true,↓iteN_false,iteN_true,iteN_false,Nat.reduceEqDiff,decide_true,decide_false,Bool.not_true,beq_self_eq_true])
theorem sizedI_nat {s : Int} (h : sizedI s = true) : ∃ n : Nat,s = (n : Int) ∧ 0 < n ∧ n ≤ 8 ∧ (n = 1 ∨ n = 2 ∨ n = 4 ∨ n = 8) := by
  unfold sizedI at h
  simp only [Bool.or_eq_true,decide_eq_true_eq] at h
  exact ⟨s.toNat,by omega,by omega,by omega,by omega⟩
/-- what Fixed answers,and writes -/
def fixE (s : Int) (n : Nat) : Nat := if sizedI s = true then if (widV n : Int) ≤ s then 0 else 10 else 2
def fixB (s : Int) (n : Nat) : List Nat := if fixE s n = 0 then leN s.toNat n else []
/-- a compact size: how long,and its bytes -/
def cplV (n : Nat) : Nat := if n < 253 then 1 else if n < 65536 then 3 else if n < 4294967296 then 5 else 9
def sizV (n : Nat) : List Nat := if n < 253 then [n] else if n < 65536 then 253 :: leN 2 n else if n < 4294967296 then 254 :: leN 4 n else 255 :: leN 8 n
theorem sizV_len (n : Nat) : (sizV n).length = cplV n := by
  unfold sizV cplV
  split
  · rfl
  · split
    · rw [List.length_cons,leN_len]
    · split
      · rw [List.length_cons,leN_len]
      · rw [List.length_cons,leN_len]
theorem leN_1 (n : Nat) (h : n < 256) : leN 1 n = [n] := by
  show [n / 2 ^ (8 * 0) % 256] = [n]
  rw [Nat.mul_zero,Nat.pow_zero,Nat.div_one,Nat.mod_eq_of_lt h]
theorem siz_split (n : Nat) (h : 253 ≤ n) : ∃ more mk,((more = 2 ∧ mk = 253) ∨ (more = 4 ∧ mk = 254) ∨ (more = 8 ∧ mk = 255)) ∧ cplV n = more + 1 ∧ sizV n = leN 1 mk ++ leN more n := by
  have e1 : cplV n = if n < 65536 then 3 else if n < 4294967296 then 5 else 9 := by unfold cplV; rw [if_neg (by omega)]
  have e2 : sizV n = if n < 65536 then 253 :: leN 2 n else if n < 4294967296 then 254 :: leN 4 n else 255 :: leN 8 n := by unfold sizV; rw [if_neg (by omega)]
  rw [e1,e2]
  by_cases h1 : n < 65536
  · rw [if_pos h1,if_pos h1]
    exact ⟨2,253,.inl ⟨rfl,rfl⟩,rfl,by rw [leN_1 _ (by omega)]; rfl⟩
  · rw [if_neg h1,if_neg h1]
    by_cases h2 : n < 4294967296
    · rw [if_pos h2,if_pos h2]
      exact ⟨4,254,.inr (.inl ⟨rfl,rfl⟩),rfl,by rw [leN_1 _ (by omega)]; rfl⟩
    · rw [if_neg h2,if_neg h2]
      exact ⟨8,255,.inr (.inr ⟨rfl,rfl⟩),rfl,by rw [leN_1 _ (by omega)]; rfl⟩
structure EnSize (E : Nat → Option Fn) : Prop where
  sz : E k_octet_Pen_Size = some f_octet_Pen_Size
  cp : E k_octet_Compact = some f_octet_Compact
  mkk : E k_octet_mark = some f_octet_mark
  pt : EnPut E
structure NoSize (X : Orc) : Prop where
  sz : ∀ a h,X (.fn k_octet_Pen_Size) a h = none
  cp : ∀ a h,X (.fn k_octet_Compact) a h = none
  mkk : ∀ a h,X (.fn k_octet_mark) a h = none
  pt : NoPut X
theorem wid_cases (n : Nat) (h : 253 ≤ n) : (cplV n = 3 ∧ widV n ≤ 2) ∨ (cplV n = 5 ∧ 2 < widV n ∧ widV n ≤ 4) ∨ (cplV n = 9 ∧ 4 < widV n) := by
  have e1 : cplV n = if n < 65536 then 3 else if n < 4294967296 then 5 else 9 := by unfold cplV; rw [if_neg (by omega)]
  have w1 : widV n ≤ 2 ↔ n < 65536 := by unfold widV; (repeat' split) <;> omega
  have w2 : widV n ≤ 4 ↔ n < 4294967296 := by unfold widV; (repeat' split) <;> omega
  rw [e1]
  by_cases h1 : n < 65536
  · rw [if_pos h1]; exact .inl ⟨rfl,w1.2 h1⟩
  · rw [if_neg h1]
    by_cases h2 : n < 4294967296
    · rw [if_pos h2]; exact .inr (.inl ⟨rfl,by omega,w2.2 h2⟩)
    · rw [if_neg h2]; exact .inr (.inr ⟨rfl,by omega⟩)
theorem compactn_go (e : E k_octet_Compact = some f_octet_Compact) (ew : EnWid E) (x : ∀ a h,X (.fn k_octet_Compact) a h = none) (xw : NoWid X) (M n : Nat) (hM : 10 < M) (hn : n < 18446744073709551616) (h : H) :
    ∃ h',callX E X (M + 4) (.fn k_octet_Compact) [.int .u64 (n : Int)] h = some (.int .i64 (cplV n : Nat),h') ∧ Kp h h' := by
  rw [x_cfn e _ _ (Nat.le_of_ble_eq_true rfl) (x _ _)]
  by_cases h0 : n < 253
  · have c0 : decide ((n : Int) < 253) = true := decide_eq_true (by omega)
    have e0 : cplV n = 1 := by unfold cplV; rw [if_pos h0]
    refine ⟨h,?_,Kp.refl _⟩
    rw [e0]
    simp (config := {maxSteps := 2000000}) (disch := first | omega | (simp only [List.length_cons,List.length_nil,List.length_append,List.length_drop]; omega)) only [c0,Int.cast_ofNat_Int,s_res0,↓s_ops,↓s_seq,↓s_cond,↓s_ret,↓s_nil,↓s_op,↓s_bindS,s_bindS,↓s_bindE,s_bindE,s_bindE_ret,s_norm,↓s_condV,s_condV,↓s_getp,↓s_get,↓s_con,↓s_list0,↓s_list1,↓s_mov,↓s_bin,s_same,b_lss,s_end,s_res0,s_res1,s_tup1,↓iteN_true,↓iteN_false,iteN_true,iteN_false,Nat.reduceEqDiff,decide_true,decide_false]
  · have c0 : decide ((n : Int) < 253) = false := decide_eq_false (by omega)
    obtain ⟨h1,r1,k1⟩ := width_go ew xw M n hn h hM
    refine ⟨h1,?_,k1⟩
    generalize hw : widV n = wd at *
    rcases wid_cases n (by omega) with ⟨e0,w1⟩ | ⟨e0,w1,w2⟩ | ⟨e0,w1⟩
    · have c1 : decide ((wd : Int) ≤ 2) = true := decide_eq_true (by omega)
      rw [e0]
      simp (config := {maxSteps := 2000000}) (disch := first | omega | (simp only [List.length_cons,List.length_nil,List.length_append,List.length_drop]; omega)) only [c0,c1,r1,Int.cast_ofNat_Int,s_res0,↓s_skip,↓s_ops,↓s_seq,↓s_cond,↓s_block,↓s_ret,↓s_nil,↓s_op,↓s_bindS,s_bindS,↓s_bindE,s_bindE,s_bindE_ret,s_norm,↓s_condV,s_condV,s_block_ret,↓s_getp,↓s_get,↓s_con,↓s_os0,↓s_os1,↓s_list0,↓s_list1,↓s_mov,↓s_bin,↓s_call,s_same,b_lss,b_leq,s_end,s_res0,s_res1,s_tup1,↓iteN_true,↓iteN_false,iteN_true,iteN_false,Nat.reduceEqDiff,decide_true,decide_false]
    · have c1 : decide ((wd : Int) ≤ 2) = false := decide_eq_false (by omega)
      have c2 : decide ((wd : Int) ≤ 4) = true := decide_eq_true (by omega)
      rw [e0]
      simp (config := {maxSteps := 2000000}) (disch := first | omega | (simp only [List.length_cons,List.length_nil,List.length_append,List.length_drop]; omega)) only [c0,c1,c2,r1,Int.cast_ofNat_Int,s_res0,↓s_skip,↓s_ops,↓s_seq,↓s_cond,↓s_block,↓s_ret,↓s_nil,↓s_op,↓s_bindS,s_bindS,↓s_bindE,s_bindE,s_bindE_ret,s_norm,↓s_condV,s_condV,s_block_ret,↓s_getp,↓s_get,↓s_con,↓s_os0,↓s_os1,↓s_list0,↓s_list1,↓s_mov,↓s_bin,↓s_call,s_same,b_lss,b_leq,s_end,s_res0,s_res1,s_tup1,↓iteN_true,↓iteN_false,iteN_true,iteN_false,Nat.reduceEqDiff,decide_true,decide_false]
    · have c1 : decide ((wd : Int) ≤ 2) = false := decide_eq_false (by omega)
      have c2 : decide ((wd : Int) ≤ 4) = false := decide_eq_false (by omega)
      rw [e0]
      simp (config := {maxSteps := 2000000}) (disch := first | omega | (simp only [List.length_cons,List.length_nil,List.length_append,List.length_drop]; omega)) only [c0,c1,c2,r1,Int.cast_ofNat_Int,s_res0,↓s_skip,↓s_ops,↓s_seq,↓s_cond,↓s_block,↓s_ret,↓s_nil,↓s_op,↓s_bindS,s_bindS,↓s_bindE,s_bindE,s_norm,↓s_condV,s_condV,s_block_normal,↓s_getp,↓s_get,↓s_con,↓s_os0,↓s_os1,↓s_list0,↓s_list1,↓s_mov,↓s_bin,↓s_call,s_same,b_lss,b_leq,s_end,s_res0,s_res1,s_tup1,↓iteN_true,↓iteN_false,iteN_true,iteN_false,Nat.reduceEqDiff,decide_true,decide_false]
theorem mark_go' (e : E k_octet_mark = some f_octet_mark) (x : ∀ a h,X (.fn k_octet_mark) a h = none) (N more mk : Nat) (hm : (more = 2 ∧ mk = 253) ∨ (more = 4 ∧ mk = 254) ∨ (more = 8 ∧ mk = 255)) (h : H) : callX E X (N + 1) (.fn k_octet_mark) [.int .i64 (more : Int)] h = some (.int .u8 (mk : Int),h) := by
  rw [x_cfn e _ _ (Nat.le_of_ble_eq_true rfl) (x _ _)]
  rcases hm with ⟨rfl,rfl⟩ | ⟨rfl,rfl⟩ | ⟨rfl,rfl⟩ <;> rfl
theorem sizev_go (e : EnSize E) (x : NoSize X) (M pn n : Nat) (hM : 10 < M) (hn : n < 18446744073709551616) (w : List Nat) (hw : w.length ≤ 80000000) (a0 : Option (Nat × Nat)) (h : H) (pe : PenH pn w a0 h) :
    ∃ h' a,callX E X (M + 5) (.fn k_octet_Pen_Size) [.ptr (some (pn,0)),.int .u64 (n : Int)] h = some (.int .i64 0,h') ∧ PenH pn (w ++ sizV n) a h' ∧ Fr pn a0 h a h' := by
  rw [x_cfn e.sz _ _ (Nat.le_of_ble_eq_true rfl) (x.sz _ _)]
  have ef : ∀ h,binV .eql (.ref .p) h (.ptr (some (pn,0))) (.ptr none) = some (.bool false) := fun h => rfl
  obtain ⟨h1,r1,k1⟩ := compactn_go e.cp e.pt.wi x.cp x.pt.wi M n hM hn h
  by_cases h0 : n < 253
  · have e0 : cplV n = 1 := by unfold cplV; rw [if_pos h0]
    have es : sizV n = leN 1 n := by rw [leN_1 _ (by omega)]; unfold sizV; rw [if_pos h0]
    rw [e0] at r1
    obtain ⟨h2,a,r2,p2,f2⟩ := putv_go e.pt x.pt (M + 1) pn 1 n (by omega) (by omega) (by omega) w (by omega) a0 h1 (pe.kp k1)
    refine ⟨h2,a,?_,by rw [es]; exact p2,(Fr.of_kp k1).trans f2⟩
    have w1 : wr .i64 0 = 0 := rfl
    have c1 : decide ((0 : Int) = 0) = true := rfl
    replace r2 : callX E X (M + 4) (.fn k_octet_Pen_put) [.ptr (some (pn,0)),.int .i64 1,.int .u64 (n : Int)] h1 = some (.tup [],h2) := r2
    simp (config := {maxSteps := 2000000}) (disch := first | omega | (simp only [List.length_cons,List.length_nil,List.length_append,List.length_drop]; omega)) only [ef,r1,r2,w1,Nat.zero_add,Int.reduceSub,Int.cast_ofNat_Int,s_res0,↓s_skip,↓s_ops,↓s_seq,↓s_cond,↓s_ret,↓s_nil,↓s_op,↓s_bindS,s_bindS,↓s_bindE,s_bindE,s_bindE_ret,s_norm,↓s_condV,s_condV,↓s_getp,↓s_get,↓s_con,↓s_os0,↓s_os1,↓s_list0,↓s_list1,↓s_mov,↓s_bin,↓s_call,s_same,b_eql,b_sub,s_end,s_res0,s_res1,s_tup1,↓iteN_true,↓iteN_false,iteN_true,iteN_false,Nat.zero_add,Nat.reduceEqDiff,decide_true,decide_false]
  · obtain ⟨more,mk,hm,e0,es⟩ := siz_split n (by omega)
    rw [e0] at r1
    have r2 := mark_go' e.mkk x.mkk (M + 3) more mk hm h1
    obtain ⟨h3,a3,r3,p3,f3⟩ := putv_go e.pt x.pt (M + 1) pn 1 mk (by omega) (by omega) (by omega) w (by omega) a0 h1 (pe.kp k1)
    obtain ⟨h4,a4,r4,p4,f4⟩ := putv_go e.pt x.pt (M + 1) pn more n (by omega) (by omega) (by omega) (w ++ leN 1 mk) (by rw [List.length_append,leN_len]; omega) a3 h3 p3
    refine ⟨h4,a4,?_,by rw [es,← List.append_assoc]; exact p4,(Fr.of_kp k1).trans (f3.trans f4)⟩
    have w1 : wr .i64 (((more + 1 : Nat) : Int) - 1) = (more : Int) := by rw [wr_i64 (by omega)]; omega
    have c1 : decide ((more : Int) = 0) = false := decide_eq_false (by omega)
    have w2 : wr .u64 (mk : Int) = (mk : Int) := u64n _ (by omega)
    replace r3 : callX E X (M + 4) (.fn k_octet_Pen_put) [.ptr (some (pn,0)),.int .i64 1,.int .u64 (mk : Int)] h1 = some (.tup [],h3) := r3
    simp (config := {maxSteps := 2000000}) (disch := first | omega | (simp only [List.length_cons,List.length_nil,List.length_append,List.length_drop]; omega)) only [ef,r1,r2,r3,r4,w1,w2,c1,↓x_conv,x_convV,Nat.zero_add,s_res0,↓s_skip,↓s_ops,↓s_seq,↓s_cond,↓s_ret,↓s_nil,↓s_op,↓s_bindS,s_bindS,↓s_bindE,s_bindE,s_norm,↓s_condV,s_condV,↓s_getp,↓s_get,↓s_con,↓s_os0,↓s_os1,↓s_list0,↓s_list1,↓s_mov,↓s_bin,↓s_call,s_same,b_eql,b_sub,s_end,s_res0,s_res1,s_tup1,↓iteN_true,↓iteN_false,iteN_true,iteN_false,Nat.zero_add,Nat.reduceEqDiff,decide_true,decide_false]
theorem bytesv_go (e : EnSize E) (eb : E k_octet_Pen_Bytes = some f_octet_Pen_Bytes) (er : E k_octet_Pen_Raw = some f_octet_Pen_Raw) (x : NoSize X) (xb : ∀ a h,X (.fn k_octet_Pen_Bytes) a h = none) (xr : ∀ a h,X (.fn k_octet_Pen_Raw) a h = none) (M pn : Nat) (hM : 10 < M) (w l : List Nat) (hw : w.length ≤ 80000000) (hl : l.length ≤ 15000000) (a : Option (Nat × Nat)) (c : Option Nat) (ez : Nat) (a0 : Option (Nat × Nat)) (h : H) (pe : PenH pn w a0 h) (ok : PartOk pn a0 h (a,c,ez,l)) :
    ∃ h' a',callX E X (M + 6) (.fn k_octet_Pen_Bytes) [.ptr (some (pn,0)),.slice a l.length c ez] h = some (.int .i64 0,h') ∧ PenH pn (w ++ (sizV l.length ++ l)) a' h' ∧ Fr pn a0 h a' h' := by
  rw [x_cfn eb _ _ (Nat.le_of_ble_eq_true rfl) (xb _ _)]
  obtain ⟨h1,a1,r1,p1,f1⟩ := sizev_go e x M pn l.length hM (by omega) w hw a0 h pe
  have cl : (sizV l.length).length ≤ 9 := by rw [sizV_len]; unfold cplV; split <;> (try split) <;> (try split) <;> omega
  obtain ⟨h2,a2,r2,p2,f2⟩ := raw1_go er xr (M + 4) pn (by omega) (w ++ sizV l.length) l a c ez a1 (by rw [List.length_append]; omega) h1 p1 (ok.fr f1)
  refine ⟨h2,a2,?_,by rw [← List.append_assoc]; exact p2,f1.trans f2⟩
  have w1 : wr .u64 (l.length : Int) = (l.length : Int) := u64n _ (by omega)
  obtain ⟨n,en⟩ : ∃ n,l.length = n := ⟨_,rfl⟩
  rw [en] at r1 r2 w1 ⊢
  replace r2 : callX E X (M + 5) (.fn k_octet_Pen_Raw) [.ptr (some (pn,0)),.slice (some (h1.next,0)) 1 (some 1) 1] (h1.new (.cells [.slice a n c ez] .rw)) = some (.int .i64 0,h2) := r2
  simp (config := {maxSteps := 2000000}) (disch := first | omega | (simp only [List.length_cons,List.length_nil,List.length_append,List.length_drop]; omega)) only [r1,r2,w1,↓s_len,x_lenS,↓x_conv,x_convV,Nat.zero_add,w_zero,x_lenS,↓s_len,↓x_buildS,x_buildE,↓x_P0,↓x_P1,x_fill0,x_fills,List.length_cons,List.length_nil,List.drop_succ_cons,List.drop_nil,s_res0,↓s_skip,↓s_ops,↓s_seq,↓s_cond,↓s_ret,↓s_nil,↓s_op,↓s_bindS,s_bindS,↓s_bindE,s_bindE,s_norm,↓s_condV,s_condV,↓s_getp,↓s_get,↓s_con,↓s_os0,↓s_os1,↓s_list0,↓s_list1,↓s_mov,↓s_bin,↓s_call,s_same,b_neq,s_end,s_res0,s_res1,s_tup1,↓iteN_true,↓iteN_false,iteN_true,iteN_false,Nat.zero_add,List.append_nil,Nat.reduceEqDiff,decide_true,decide_false,Bool.not_true]
end Go.Eng
namespace Go.Eng
open Go
variable {E : Nat → Option Fn} {X : Orc}
set_option linter.unusedSimpArgs false
set_option linter.unusedVariables false
/-- the number of bytes,the lowest first -/
def numV (l : List Nat) : Nat := l.foldr (fun b n => n * 256 + b) 0
theorem numV_lt : ∀ l : List Nat,byt l = true → numV l < 256 ^ l.length := by
  intro l
  induction l with
  | nil => intro _; exact Nat.one_pos
  | cons a r ih =>
    intro h
    have h1 := ih (byt_iff.2 (fun x hx => byt_iff.1 h x (List.mem_cons_of_mem _ hx)))
    have h2 := byt_iff.1 h a (List.mem_cons_self ..)
    show numV r * 256 + a < 256 ^ (r.length + 1)
    rw [Nat.pow_succ]; omega
theorem or64 (n b : Nat) (hn : n < 72057594037927936) (hb : b < 256) (e : EqK) (h : H) : binV .or e h (.int .u64 ((n * 256 : Nat) : Int)) (.int .u64 (b : Int)) = some (.int .u64 ((n * 256 + b : Nat) : Int)) := by
  have e1 : binV .or e h (.int .u64 ((n * 256 : Nat) : Int)) (.int .u64 (b : Int)) = some (.int .u64 (asK .u64 (Nat.lor (n * 256 % 18446744073709551616) (b % 18446744073709551616)))) := rfl
  rw [e1,Nat.mod_eq_of_lt (by omega),Nat.mod_eq_of_lt (a := b) (by omega)]
  have o : Nat.lor (n * 256) b = n * 256 + b := by
    have := Nat.two_pow_add_eq_or_of_lt (i := 8) (b := b) hb n
    show (n * 256) ||| b = n * 256 + b
    rw [show n * 256 = 2 ^ 8 * n by omega,← this]
  rw [o]
  have : asK .u64 (n * 256 + b) = ((n * 256 + b : Nat) : Int) := by
    unfold asK
    rw [cond_blt,if_pos (by simp [half]; omega)]
    rfl
  rw [this]
theorem shl64 (n : Nat) (hn : n < 72057594037927936) (e : EqK) (h : H) : binV .shl e h (.int .u64 (n : Int)) (.int .u64 8) = some (.int .u64 ((n * 256 : Nat) : Int)) := by
  have e1 : binV .shl e h (.int .u64 (n : Int)) (.int .u64 8) = some (.int .u64 (wr .u64 ((n * 256 : Nat) : Int))) := rfl
  rw [e1,u64n _ (by omega)]
structure NI (a : Option (Nat × Nat)) (c : Option Nat) (ez : Nat) (l : List Nat) (h0 : H) (i : Nat) (T : Tr V) (h : H) : Prop where
  il : i ≤ l.length
  t0 : evO T (.t 0) = .slice a l.length c ez
  t3 : evO T (.t 3) = .int .u64 (numV (l.drop (l.length - i)) : Nat)
  t4 : evO T (.t 4) = .int .i64 ((l.length : Int) - 1 - (i : Int))
  hh : h = h0
theorem ni_step (Q : Orc) (m : Nat) (a : Option (Nat × Nat)) (c : Option Nat) (ez : Nat) (l : List Nat) (bl : byt l = true) (hl : l.length ≤ 8) (h0 : H) (src : SrcH h0 a ez l) : ∀ i T h,i < l.length → NI a c ez l h0 i T h → ∃ T' h',evC Q 21 m none L_octet_number_0 ⟨T,[],h⟩ = some (.normal,⟨T',[],h'⟩) ∧ NI a c ez l h0 (i + 1) T' h' := by
  intro i T h hi ⟨_,t0,t3,t4,hh⟩
  subst hh
  obtain ⟨bi,off,vs,md,rfl,rfl,h3,h4,h5,h6⟩ := src.resolve_left (fun h => by rw [h] at hi; cases hi)
  obtain ⟨p,ep⟩ : ∃ p,l.length - 1 - i = p := ⟨_,rfl⟩
  have hp : p < l.length := by omega
  have e1 : (l.length : Int) - 1 - (i : Int) = (p : Int) := by omega
  have cg : vs[off + p]? = some (.int .u8 (l.getD p 0 : Nat)) := by
    have : ((vs.drop off).take l.length)[p]? = (ofI .u8 l)[p]? := by rw [h6]
    rw [List.getElem?_take_of_lt hp,List.getElem?_drop,ofI_get _ _ _ hp] at this
    exact this
  have yl : l.getD p 0 < 256 := by
    rw [List.getD_eq_getElem?_getD,List.getElem?_eq_getElem hp]; exact byt_iff.1 bl _ (List.getElem_mem hp)
  have ds : l.drop (l.length - (i + 1)) = l.getD p 0 :: l.drop (l.length - i) := by
    rw [show l.length - (i + 1) = p by omega,show l.length - i = p + 1 by omega,List.drop_eq_getElem_cons hp,List.getD_eq_getElem?_getD,List.getElem?_eq_getElem hp]; rfl
  have ns : numV (l.drop (l.length - (i + 1))) = numV (l.drop (l.length - i)) * 256 + l.getD p 0 := by rw [ds]; rfl
  have nl := numV_lt (l.drop (l.length - i)) (byt_iff.2 (fun x hx => byt_iff.1 bl x (List.mem_of_mem_drop hx)))
  rw [List.length_drop,show l.length - (l.length - i) = i by omega] at nl
  have n3 : numV (l.drop (l.length - i)) < 72057594037927936 := Nat.lt_of_lt_of_le nl (Nat.pow_le_pow_right (n := 256) (i := i) (j := 7) (by omega) (by omega))
  clear nl
  rw [e1] at t4
  have c0 : decide ((0 : Int) ≤ (p : Int)) = true := decide_eq_true (by omega)
  have w2 : wr .i64 ((p : Int) - 1) = (l.length : Int) - 1 - ((i + 1 : Nat) : Int) := by rw [wr_i64 (by omega)]; omega
  have ix : idx (p : Int) l.length = some p := idxn hp
  have i1 : i + 1 ≤ l.length := hi
  generalize numV (l.drop (l.length - i)) = n at *
  generalize l.getD p 0 = y at *
  have s1 := shl64 n n3
  have s2 := or64 n y n3 yl
  have wy : wr .u64 (y : Int) = (y : Int) := u64n _ (by omega)
  rw [← ns] at s2
  refine ⟨_,_,by
    simp (config := {maxSteps := 2000000}) (disch := first | omega | (simp only [List.length_cons,List.length_nil,List.length_append,List.length_drop]; omega)) only [L_octet_number_0,t0,t3,t4,h4,cg,c0,w2,ix,s1,s2,wy,↓x_conv,x_convV,Nat.mul_one,↓s_load,m_load,↓m_load1,m_load1,↓x_idxS,x_idxSE,x_addrE,↓s_skip,↓s_ops,↓s_seq,↓s_cond,↓s_block,↓s_nil,↓s_op,↓s_bindS,s_bindS,↓s_bindE,s_bindE,s_norm,↓s_condV,s_condV,s_block_normal,↓s_getp,↓s_con,↓s_mov,↓s_bin,s_same,b_geq,b_sub,↓iteN_true,↓iteN_false,iteN_true,iteN_false,Nat.reduceEqDiff,decide_true,decide_false]
    exact rfl,⟨i1,(by (simp only [s_getp,Nat.reduceEqDiff,decide_false,iteN_false,t0]; try rfl)),(by (simp only [s_getp,Nat.reduceEqDiff,decide_false,decide_true,iteN_false,iteN_true]; try rfl)),(by (simp only [s_getp,decide_true,iteN_true]; try rfl)),rfl⟩⟩
theorem number_go (e : E k_octet_number = some f_octet_number) (x : ∀ a h,X (.fn k_octet_number) a h = none) (N : Nat) (a : Option (Nat × Nat)) (c : Option Nat) (ez : Nat) (l : List Nat) (bl : byt l = true) (hl : l.length ≤ 8) (h : H) (src : SrcH h a ez l) :
    callX E X (N + 10) (.fn k_octet_number) [.slice a l.length c ez] h = some (.int .u64 (numV l : Nat),h) := by
  rw [x_cfn e _ _ (Nat.le_of_ble_eq_true rfl) (x _ _)]
  have w1 : wr .i64 ((l.length : Int) - 1) = (l.length : Int) - 1 := by rw [wr_i64 (by omega)]
  have fin : ∀ T,NI a c ez l h 0 T h → fnEnd [.tmp 2] (bindE (blockE 0 (loopN (evC (callX E X (N + 9)) 21 (N + 9) none L_octet_number_0) (N + 9) ⟨T,[],h⟩)) (evC (callX E X (N + 9)) 21 (N + 9) none R_octet_number_0)) = some (.int .u64 (numV l : Nat),h) := by
    intro T I
    obtain ⟨T',h',r,t3,hh⟩ := loop_go (f := evC (callX E X (N + 9)) 21 (N + 9) none L_octet_number_0) (NI a c ez l h) l.length (.exit 0) (by intro h; cases h) (fun T h' => evO T (.t 3) = .int .u64 (numV l : Nat) ∧ h' = h) (ni_step _ _ a c ez l bl hl h src) (fun T h' I => by
      obtain ⟨il,t0,t3,t4,hh⟩ := I
      rw [Nat.sub_self,List.drop_zero] at t3
      have c0 : decide ((0 : Int) ≤ (l.length : Int) - 1 - (l.length : Int)) = false := decide_eq_false (by omega)
      refine ⟨_,_,by
        simp (config := {maxSteps := 2000000}) (disch := first | omega | (simp only [List.length_cons,List.length_nil,List.length_append,List.length_drop]; omega)) only [L_octet_number_0,t4,c0,↓s_ops,↓s_seq,↓s_cond,↓s_exit,↓s_nil,↓s_op,↓s_bindS,s_bindS,↓s_bindE,s_bindE,s_bindE_exit,s_norm,↓s_condV,s_condV,↓s_getp,↓s_con,↓s_mov,↓s_bin,s_same,b_geq,↓iteN_true,↓iteN_false,iteN_true,iteN_false,decide_true]
        exact rfl,(by (simp only [s_getp,Nat.reduceEqDiff,decide_false,iteN_false,t3]; try rfl)),hh⟩) l.length 0 (by omega) (N + 9) (by omega) T h I
    rw [r,hh]
    simp (config := {maxSteps := 2000000}) (disch := first | omega | (simp only [List.length_cons,List.length_nil,List.length_append,List.length_drop]; omega)) only [R_octet_number_0,t3,s_res0,↓s_ops,↓s_seq,↓s_ret,↓s_nil,↓s_op,↓s_bindS,s_bindS,↓s_bindE,s_bindE,s_norm,s_block_exit,↓s_getp,↓s_mov,s_end,s_res0,s_res1,s_tup1,↓iteN_true,iteN_true,decide_true,if_true]
  obtain ⟨R,eR⟩ : ∃ R,R_octet_number_0 = R := ⟨_,rfl⟩
  obtain ⟨Lo,eL⟩ : ∃ R,L_octet_number_0 = R := ⟨_,rfl⟩
  rw [eR,eL] at fin ⊢
  simp (config := {maxSteps := 2000000}) (disch := first | omega | (simp only [List.length_cons,List.length_nil,List.length_append,List.length_drop]; omega)) only [w1,↓s_len,x_lenS,↓l_loop,↓l_succ,x_lenS,↓s_len,↓s_ops,↓s_seq,↓s_block,↓s_nil,↓s_op,↓s_bindS,s_bindS,↓s_bindE,s_bindE,s_norm,↓s_getp,↓s_get,↓s_con,↓s_list0,↓s_list1,↓s_mov,↓s_bin,s_same,b_sub,↓iteN_true,↓iteN_false,iteN_true,iteN_false,Nat.reduceEqDiff,decide_true,decide_false]
  exact fin _ ⟨by omega,(by (simp only [s_getp,Nat.reduceEqDiff,decide_false,iteN_false]; try rfl)),by rw [Nat.sub_zero,List.drop_length]; show _ = V.int .u64 ((0 : Nat) : Int); exact (by (simp only [s_getp,Nat.reduceEqDiff,decide_false,decide_true,iteN_false,iteN_true]; try rfl)),by show _ = V.int .i64 ((l.length : Int) - 1 - ((0 : Nat) : Int)); rw [show (l.length : Int) - 1 - ((0 : Nat) : Int) = (l.length : Int) - 1 by omega]; exact (by (simp only [s_getp,decide_true,iteN_true]; try rfl)),rfl⟩
/-- parts of a slice that is nobody else's -/
theorem Wb.slc {h : H} {w : List Nat} {a : Option (Nat × Nat)} {c : Option Nat} {e : Nat} (s : Wb h w a c e) (lo hi : Nat) (k k' : IntKind) (h1 : lo ≤ hi) (h2 : hi ≤ w.length) : slcV 1 (some (.int k (lo : Int))) (some (.int k' (hi : Int))) none (.slice a w.length c e) = some (.slice (upA a lo) (hi - lo) (subC c lo) 1) := by
  rcases s with ⟨rfl,rfl,rfl,rfl⟩ | ⟨_,q,md,rfl,rfl,rfl,_⟩
  · rw [List.length_nil] at h2
    obtain rfl : hi = 0 := by omega
    obtain rfl : lo = 0 := by omega
    rfl
  · exact slcV_lhA _ _ _ _ _ _ h2 h1
theorem Wb.slo {h : H} {w : List Nat} {a : Option (Nat × Nat)} {c : Option Nat} {e : Nat} (s : Wb h w a c e) (lo : Nat) (k : IntKind) (h1 : lo ≤ w.length) : slcV 1 (some (.int k (lo : Int))) none none (.slice a w.length c e) = some (.slice (upA a lo) (w.length - lo) (subC c lo) 1) := by
  rcases s with ⟨rfl,rfl,rfl,rfl⟩ | ⟨_,q,md,rfl,rfl,rfl,_⟩
  · rw [List.length_nil] at h1
    obtain rfl : lo = 0 := by omega
    rfl
  · exact slcV_loA _ _ _ _ h1
/-- an eye at a place of l -/
structure EyeH (p : Nat) (l : List Nat) (at_ : Nat) (a : Option (Nat × Nat)) (h : H) : Prop where
  pt : ∃ c e,h.get p = some (.cells [.slice a l.length c e,.int .i64 (at_ : Int),.bool true] .rw) ∧ Wb h l a c e
  ne : ∀ o,a ≠ some (p,o)
  lt : p < h.next
  le : at_ ≤ l.length
theorem EyeH.mono {p : Nat} {l : List Nat} {at_ : Nat} {a : Option (Nat × Nat)} {h h' : H} (y : EyeH p l at_ a h) (hn : h.next ≤ h'.next) (k1 : h'.get p = h.get p) (k : ∀ q,q < h.next → a = some (q,0) → h'.get q = h.get q) : EyeH p l at_ a h' := by
  obtain ⟨⟨c,e,g,wb⟩,ne,lt,le⟩ := y
  exact ⟨⟨c,e,by rw [k1,g],wb.mono hn k⟩,ne,Nat.lt_of_lt_of_le lt hn,le⟩
theorem EyeH.kp {p : Nat} {l : List Nat} {at_ : Nat} {a : Option (Nat × Nat)} {h h' : H} (y : EyeH p l at_ a h) (k : Kp h h') : EyeH p l at_ a h' := y.mono k.1 (k.2 _ y.lt) (fun q hq _ => k.2 q hq)
theorem EyeH.alt {p : Nat} {l : List Nat} {at_ : Nat} {a : Option (Nat × Nat)} {h : H} (y : EyeH p l at_ a h) {q o : Nat} (e : a = some (q,o)) : q < h.next := by
  obtain ⟨_,_,_,wb⟩ := y.pt
  exact wb.lt e
theorem EyeH.kq {p p' : Nat} {l : List Nat} {at_ : Nat} {a : Option (Nat × Nat)} {h h' : H} (y : EyeH p l at_ a h) (k : Kq p' h h') (hp : p ≠ p') (ha : ∀ o,a ≠ some (p',o)) : EyeH p l at_ a h' := y.mono k.1 (k.2 _ y.lt hp) (fun q hq e => k.2 q hq (fun e' => ha 0 (by rw [e,e'])))
/-- the place is another one -/
theorem EyeH.put {p : Nat} {l : List Nat} {at_ : Nat} {a : Option (Nat × Nat)} {h h' : H} (y : EyeH p l at_ a h) (k : Kp h h') (at' : Nat) (hl : at' ≤ l.length) (c : Option Nat) (e : Nat) (g : h.get p = some (.cells [.slice a l.length c e,.int .i64 (at_ : Int),.bool true] .rw)) : EyeH p l at' a (h'.put p (.cells [.slice a l.length c e,.int .i64 (at' : Int),.bool true] .rw)) ∧ Kq p h (h'.put p (.cells [.slice a l.length c e,.int .i64 (at' : Int),.bool true] .rw)) := by
  obtain ⟨⟨c',e',g',wb⟩,ne,lt,le⟩ := y
  rw [g] at g'
  cases g'
  exact ⟨⟨⟨c,e,h_put_same _ _ _,(wb.kp k).mono (Nat.le_refl _) (fun q hq ea => h_put_ne _ _ (fun e' => ne 0 (by rw [e',ea])))⟩,ne,Nat.lt_of_lt_of_le lt k.1,hl⟩,(k.q).put _ (.inr rfl)⟩
structure EnEye (E : Nat → Option Fn) : Prop where
  lk : E k_octet_Eye_looks = some f_octet_Eye_looks
  lf : E k_octet_Eye_Left = some f_octet_Eye_Left
  en : E k_octet_Eye_End = some f_octet_Eye_End
  fx : E k_octet_Eye_Fixed = some f_octet_Eye_Fixed
  sz : E k_octet_Eye_Size = some f_octet_Eye_Size
  by_ : E k_octet_Eye_Bytes = some f_octet_Eye_Bytes
  rw_ : E k_octet_Eye_Raw = some f_octet_Eye_Raw
  tk : E k_octet_Eye_take = some f_octet_Eye_take
  cc : E k_octet_compact = some f_octet_compact
  fo : E k_octet_following = some f_octet_following
  nm : E k_octet_number = some f_octet_number
  sd : E k_octet_sized = some f_octet_sized
  cp : E k_octet_Compact = some f_octet_Compact
  wi : EnWid E
structure NoEye (X : Orc) : Prop where
  lk : ∀ a h,X (.fn k_octet_Eye_looks) a h = none
  lf : ∀ a h,X (.fn k_octet_Eye_Left) a h = none
  en : ∀ a h,X (.fn k_octet_Eye_End) a h = none
  fx : ∀ a h,X (.fn k_octet_Eye_Fixed) a h = none
  sz : ∀ a h,X (.fn k_octet_Eye_Size) a h = none
  by_ : ∀ a h,X (.fn k_octet_Eye_Bytes) a h = none
  rw_ : ∀ a h,X (.fn k_octet_Eye_Raw) a h = none
  tk : ∀ a h,X (.fn k_octet_Eye_take) a h = none
  cc : ∀ a h,X (.fn k_octet_compact) a h = none
  fo : ∀ a h,X (.fn k_octet_following) a h = none
  nm : ∀ a h,X (.fn k_octet_number) a h = none
  sd : ∀ a h,X (.fn k_octet_sized) a h = none
  cp : ∀ a h,X (.fn k_octet_Compact) a h = none
  wi : NoWid X
/-- an eye -/
theorem look_go (e : E k_octet_Look = some f_octet_Look) (x : ∀ a h,X (.fn k_octet_Look) a h = none) (N : Nat) (l : List Nat) (hl : l.length ≤ 100000000) (a : Option (Nat × Nat)) (c : Option Nat) (ez : Nat) (h : H) (src : SrcH h a ez l) :
    ∃ h' p a',callX E X (N + 1) (.fn k_octet_Look) [.slice a l.length c ez] h = some (.ptr (some (p,0)),h') ∧ Kp h h' ∧ h.next ≤ p ∧ EyeH p l 0 a' h' ∧ ∀ q o,a' = some (q,o) → h.next ≤ q := by
  rw [x_cfn e _ _ (Nat.le_of_ble_eq_true rfl) (x _ _)]
  have sc := src.cellz c
  obtain ⟨a',c',e',h1,ap,nw⟩ := app_nw h l hl
  have ca : ∀ l : List V,(V.agg l).cells = l := fun _ => rfl
  refine ⟨h1.new (.cells [.slice a' l.length c' e',.int .i64 0,.bool true] .rw),h1.next,a',?_,nw.kp.trans (Kp.new _ _),nw.kp.1,⟨⟨c',e',h_new_same _ _,nw.wb.kp (Kp.new _ _)⟩,fun o ea => absurd (nw.wb.lt ea) (Nat.lt_irrefl _),Nat.lt_succ_self _,Nat.zero_le _⟩,nw.ge⟩
  obtain ⟨n,en⟩ : ∃ n,l.length = n := ⟨_,rfl⟩
  rw [en] at sc ap ⊢
  simp (config := {maxSteps := 2000000}) (disch := first | omega | (simp only [List.length_cons,List.length_nil,List.length_append,List.length_drop]; omega)) only [sc,ap,ca,↓x_build,x_aggO,x_P0,x_P1,x_fill0,x_fills,x_fillb,↓s_append,↓s_box,Nat.zero_add,w_zero,w_succ,↓x_P0,↓x_P1,x_fill0,x_fills,x_fillb,List.length_cons,List.length_nil,List.cons_append,List.drop_succ_cons,List.drop_zero,List.drop_nil,List.nil_append,s_res0,↓s_ops,↓s_seq,↓s_ret,↓s_nil,↓s_op,↓s_bindS,s_bindS,↓s_bindE,s_bindE,s_norm,↓s_getp,↓s_get,↓s_con,↓s_list0,↓s_list1,↓s_mov,s_same,s_end,s_res0,s_res1,s_tup1,↓iteN_true,↓iteN_false,iteN_true,iteN_false,Nat.zero_add,List.nil_append,List.append_nil,Nat.reduceEqDiff,decide_true,decide_false]
theorem looks_go (e : EnEye E) (x : NoEye X) (N p : Nat) (v1 v2 : V) (md : Md) (h : H) (g : h.get p = some (.cells [v1,v2,.bool true] md)) : callX E X (N + 1) (.fn k_octet_Eye_looks) [.ptr (some (p,0))] h = some (.bool true,h) := by
  rw [x_cfn e.lk _ _ (Nat.le_of_ble_eq_true rfl) (x.lk _ _)]
  have ne : ∀ h i,binV .neq (.ref .p) h (.ptr (some (i,0))) (.ptr none) = some (.bool true) := fun h i => rfl
  simp (config := {maxSteps := 2000000}) (disch := first | omega | (simp only [List.length_cons,List.length_nil,List.length_append,List.length_drop]; omega)) only [g,ne,↓x_fieldAddr,x_fieldV,↓s_nilchk,x_nilchk,Nat.zero_add,↓s_load,m_load,↓m_load1,m_load1,s_res0,↓s_ops,↓s_seq,↓s_ret,↓s_nil,↓s_op,↓s_opg,↓s_wanted',↓s_wantV,s_wantV,↓s_bindS,s_bindS,↓s_bindE,s_bindE,s_norm,↓s_getp,↓s_get,↓s_con,↓s_list0,↓s_list1,↓s_mov,↓s_pick,↓s_pickE,s_pickE,↓s_bin,s_same,s_end,s_res0,s_res1,s_tup1,↓iteN_true,↓iteN_false,iteN_true,iteN_false,Nat.zero_add,Nat.reduceEqDiff,decide_true,decide_false,List.getElem?_cons_zero,List.getElem?_cons_succ,beq_self_eq_true]
theorem left_go (e : EnEye E) (x : NoEye X) (N p : Nat) (l : List Nat) (hl : l.length ≤ 100000000) (at_ : Nat) (a : Option (Nat × Nat)) (h : H) (y : EyeH p l at_ a h) :
    callX E X (N + 2) (.fn k_octet_Eye_Left) [.ptr (some (p,0))] h = some (.int .i64 ((l.length - at_ : Nat) : Int),h) := by
  rw [x_cfn e.lf _ _ (Nat.le_of_ble_eq_true rfl) (x.lf _ _)]
  have hle := y.le
  obtain ⟨c,ez,g,wb⟩ := y.pt
  have r := looks_go e x N p _ _ .rw h g
  obtain ⟨n,en⟩ : ∃ n,l.length = n := ⟨_,rfl⟩
  rw [en] at hle hl g ⊢
  have w : wr .i64 ((n : Int) - (at_ : Int)) = ((n - at_ : Nat) : Int) := by rw [wr_i64 (by omega)]; omega
  simp (config := {maxSteps := 2000000}) (disch := first | omega | (simp only [List.length_cons,List.length_nil,List.length_append,List.length_drop]; omega)) only [g,r,w,↓s_len,x_lenS,↓x_fieldAddr,x_fieldV,↓s_nilchk,x_nilchk,Nat.zero_add,Nat.add_zero,↓s_evD,↓s_dnil,↓s_dL,↓s_dR,↓s_bindD,s_bindD,s_finD,s_addP0,↓s_bump0,Nat.add_zero,↓s_load,m_load,↓m_load1,m_load1,x_lenS,↓s_len,s_res0,↓s_skip,↓s_ops,↓s_dops,↓s_seq,↓s_cond,↓s_ret,↓s_nil,↓s_op,↓s_bindS,s_bindS,↓s_bindE,s_bindE,s_norm,↓s_condV,s_condV,↓s_getp,↓s_get,↓s_con,↓s_os0,↓s_os1,↓s_list0,↓s_list1,↓s_mov,↓s_bin,↓s_un,↓s_call,s_same,b_sub,u_not,s_end,s_res0,s_res1,s_tup1,↓iteN_true,↓iteN_false,iteN_true,iteN_false,Nat.zero_add,Nat.reduceEqDiff,decide_true,decide_false,Bool.not_true,List.getElem?_cons_zero,List.getElem?_cons_succ]
end Go.Eng
namespace Go.Eng
open Go
variable {E : Nat → Option Fn} {X : Orc}
set_option linter.unusedSimpArgs false
set_option linter.unusedVariables false
def folV (a : Nat) : Nat := if a = 253 then 2 else if a = 254 then 4 else if a = 255 then 8 else 0
theorem folV_c (a : Nat) : (a = 253 ∧ folV a = 2) ∨ (a = 254 ∧ folV a = 4) ∨ (a = 255 ∧ folV a = 8) ∨ (a ≠ 253 ∧ a ≠ 254 ∧ a ≠ 255 ∧ folV a = 0) := by
  unfold folV
  by_cases h1 : a = 253
  · rw [if_pos h1]; exact .inl ⟨h1,rfl⟩
  · rw [if_neg h1]
    by_cases h2 : a = 254
    · rw [if_pos h2]; exact .inr (.inl ⟨h2,rfl⟩)
    · rw [if_neg h2]
      by_cases h3 : a = 255
      · rw [if_pos h3]; exact .inr (.inr (.inl ⟨h3,rfl⟩))
      · rw [if_neg h3]; exact .inr (.inr (.inr ⟨h1,h2,h3,rfl⟩))
theorem folV_le (a : Nat) : folV a ≤ 8 := by rcases folV_c a with h | h | h | h <;> omega
/-- the compact size with which bytes begin: its number,and how many bytes it has -/
def comV (l : List Nat) : Option (Nat × Nat) := match l with
  | [] => none
  | a :: r => if r.length < folV a then none else if cplV (if folV a = 0 then a else numV (r.take (folV a))) = 1 + folV a then some (if folV a = 0 then a else numV (r.take (folV a)),1 + folV a) else none
theorem following_go (e : EnEye E) (x : NoEye X) (N a : Nat) (h : H) : callX E X (N + 1) (.fn k_octet_following) [.int .u8 (a : Int)] h = some (.int .i64 (folV a : Nat),h) := by
  rw [x_cfn e.fo _ _ (Nat.le_of_ble_eq_true rfl) (x.fo _ _)]
  rcases folV_c a with ⟨h1,h2⟩ | ⟨h1,h2⟩ | ⟨h1,h2⟩ | ⟨h1,h3,h4,h2⟩
  · rw [h2,h1]; rfl
  · rw [h2,h1]; rfl
  · rw [h2,h1]; rfl
  · rw [h2]
    have c1 : decide ((a : Int) = 253) = false := decide_eq_false (by omega)
    have c2 : decide ((a : Int) = 254) = false := decide_eq_false (by omega)
    have c3 : decide ((a : Int) = 255) = false := decide_eq_false (by omega)
    simp (config := {maxSteps := 2000000}) (disch := first | omega | (simp only [List.length_cons,List.length_nil,List.length_append,List.length_drop]; omega)) only [c1,c2,c3,Int.cast_ofNat_Int,s_res0,↓s_skip,↓s_ops,↓s_seq,↓s_cond,↓s_block,↓s_ret,↓s_nil,↓s_op,↓s_bindS,s_bindS,↓s_bindE,s_bindE,s_norm,↓s_condV,s_condV,s_block_normal,↓s_getp,↓s_get,↓s_con,↓s_list0,↓s_list1,↓s_mov,↓s_bin,s_same,b_eql,s_end,s_res0,s_res1,s_tup1,↓iteN_true,↓iteN_false,iteN_true,iteN_false,Nat.reduceEqDiff,decide_true,decide_false]
theorem SrcH.e1 {h : H} {a : Option (Nat × Nat)} {e : Nat} {l : List Nat} (s : SrcH h a e l) : SrcH h a 1 l := by
  rcases s with s | ⟨bi,off,vs,m,h1,h2,h3⟩
  · exact .inl s
  · exact .inr ⟨bi,off,vs,m,h1,rfl,h3⟩
theorem numV_lt8 (l : List Nat) (bl : byt l = true) (h : l.length ≤ 8) : numV l < 18446744073709551616 := Nat.lt_of_lt_of_le (numV_lt l bl) (Nat.pow_le_pow_right (n := 256) (i := l.length) (j := 8) (by omega) h)
theorem compact_go (e : EnEye E) (x : NoEye X) (K : Nat) (l : List Nat) (bl : byt l = true) (hl : l.length ≤ 100000000) (a : Option (Nat × Nat)) (c : Option Nat) (hc : l ≠ [] → c = none) (h : H) (src : SrcH h a 1 l) :
    ∃ h' n u ok,callX E X (K + 16) (.fn k_octet_compact) [.slice a l.length c 1] h = some (.tup [.int .u64 (n : Nat),.int .i64 (u : Nat),.bool ok],h') ∧ Kp h h' ∧ n < 18446744073709551616 ∧ comV l = (if ok = true then some (n,u) else none) ∧ (ok = true → u ≤ l.length) := by
  rw [x_cfn e.cc _ _ (Nat.le_of_ble_eq_true rfl) (x.cc _ _)]
  cases l with
  | nil =>
    refine ⟨h,0,0,false,?_,Kp.refl _,by omega,rfl,fun h => by cases h⟩
    have c1 : decide (((0 : Nat) : Int) = 0) = true := rfl
    rw [List.length_nil]
    simp (config := {maxSteps := 2000000}) (disch := first | omega | (simp only [List.length_cons,List.length_nil,List.length_append,List.length_drop]; omega)) only [↓s_len,x_lenS,x_lenS,↓s_len,Int.cast_ofNat_Int,s_res0,↓s_ops,↓s_seq,↓s_cond,↓s_ret,↓s_nil,↓s_op,↓s_bindS,s_bindS,↓s_bindE,s_bindE,s_bindE_ret,s_norm,↓s_condV,s_condV,↓s_getp,↓s_get,↓s_con,↓s_list0,↓s_list1,↓s_mov,↓s_bin,s_same,b_eql,s_end,s_res0,s_res1,s_tup2,↓iteN_true,↓iteN_false,iteN_true,iteN_false,Nat.reduceEqDiff,decide_true,decide_false]
  | cons y r =>
    obtain rfl := hc (by simp)
    have s1 := src
    obtain ⟨bi,off,vs,md,rfl,_,h3,h4,h5,h6⟩ := src.resolve_left (fun h => by cases h)
    have cg : vs[off]? = some (.int .u8 (y : Nat)) := by
      have : ((vs.drop off).take (y :: r).length)[0]? = (ofI .u8 (y :: r))[0]? := by rw [h6]
      rw [List.getElem?_take_of_lt (by simp),List.getElem?_drop] at this
      exact this
    have yl : y < 256 := byt_iff.1 bl y (List.mem_cons_self ..)
    have br : byt r = true := byt_iff.2 (fun x hx => byt_iff.1 bl x (List.mem_cons_of_mem _ hx))
    have f8 := folV_le y
    obtain ⟨f,ef⟩ : ∃ f,folV y = f := ⟨_,rfl⟩
    have r1 := following_go e x (K + 14) y h
    unfold comV
    simp only [List.length_cons] at *
    rw [ef] at f8 r1 ⊢
    obtain ⟨L,eL⟩ : ∃ L,r.length = L := ⟨_,rfl⟩
    rw [eL] at hl h5 h6 ⊢
    have c0 : decide (((L + 1 : Nat) : Int) = 0) = false := decide_eq_false (by omega)
    have ix : idx 0 (L + 1) = some 0 := idxn (i := 0) (by omega)
    have w1 : wr .i64 (1 + (f : Int)) = ((1 + f : Nat) : Int) := by rw [wr_i64 (by omega)]; omega
    have wy : wr .u64 (y : Int) = (y : Int) := u64n _ (by omega)
    by_cases hs : L < f
    · have c1 : decide (((L + 1 : Nat) : Int) < ((1 + f : Nat) : Int)) = true := decide_eq_true (by omega)
      refine ⟨h,0,0,false,?_,Kp.refl _,by omega,by rw [if_pos hs]; rfl,fun h => by cases h⟩
      simp (config := {maxSteps := 2000000}) (disch := first | omega | (simp only [List.length_cons,List.length_nil,List.length_append,List.length_drop]; omega)) only [h4,cg,ix,r1,c0,c1,w1,↓s_len,x_lenS,Nat.add_zero,Nat.mul_one,↓s_load,m_load,↓m_load1,m_load1,↓x_idxS,x_idxSE,x_addrE,x_lenS,↓s_len,Int.cast_ofNat_Int,s_res0,↓s_skip,↓s_ops,↓s_seq,↓s_cond,↓s_ret,↓s_nil,↓s_op,↓s_bindS,s_bindS,↓s_bindE,s_bindE,s_bindE_ret,s_norm,↓s_condV,s_condV,↓s_getp,↓s_get,↓s_con,↓s_os0,↓s_os1,↓s_list0,↓s_list1,↓s_mov,↓s_bin,↓s_call,s_same,b_eql,b_lss,b_add,s_end,s_res0,s_res1,s_tup2,↓iteN_true,↓iteN_false,iteN_true,iteN_false,Nat.reduceEqDiff,decide_true,decide_false]
    · have c1 : decide (((L + 1 : Nat) : Int) < ((1 + f : Nat) : Int)) = false := decide_eq_false (by omega)
      rw [if_neg hs]
      by_cases f0 : f = 0
      · subst f0
        rw [if_pos rfl]
        obtain ⟨h1,r2,k1⟩ := compactn_go e.cp e.wi x.cp x.wi (K + 11) y (by omega) (by omega) h
        replace r2 : callX E X (K + 15) (.fn k_octet_Compact) [.int .u64 (y : Int)] h = some (.int .i64 (cplV y : Nat),h1) := r2
        clear w1 c1
        have w1 : wr .i64 1 = 1 := rfl
        have c1 : decide (((L + 1 : Nat) : Int) < 1) = false := decide_eq_false (by omega)
        have c2 : decide ((1 : Int) < 1) = false := rfl
        have c3 : decide (((cplV y : Nat) : Int) = 1) = decide (cplV y = 1 + 0) := by rw [decide_eq_decide]; omega
        refine ⟨h1,y,1 + 0,decide (cplV y = 1 + 0),?_,k1,by omega,by simp only [decide_eq_true_eq],fun _ => by omega⟩
        generalize decide (cplV y = 1 + 0) = ok at *
        generalize cplV y = z at *
        simp (config := {maxSteps := 2000000}) (disch := first | omega | (simp only [List.length_cons,List.length_nil,List.length_append,List.length_drop]; omega)) only [h4,cg,ix,r1,r2,c0,c1,c3,w1,wy,↓s_len,x_lenS,↓x_conv,x_convV,Nat.add_zero,Nat.mul_one,↓s_load,m_load,↓m_load1,m_load1,↓x_idxS,x_idxSE,x_addrE,x_lenS,↓s_len,Int.reduceAdd,Int.reduceLT,Int.cast_ofNat_Int,s_res0,↓s_skip,↓s_ops,↓s_seq,↓s_cond,↓s_ret,↓s_nil,↓s_op,↓s_bindS,s_bindS,↓s_bindE,s_bindE,s_norm,↓s_condV,s_condV,↓s_getp,↓s_get,↓s_con,↓s_os0,↓s_os1,↓s_list0,↓s_list1,↓s_mov,↓s_bin,↓s_call,s_same,b_eql,b_lss,b_gtr,b_add,s_end,s_res0,s_res1,s_tup2,↓iteN_true,↓iteN_false,iteN_true,iteN_false,Nat.reduceEqDiff,decide_true,decide_false]
      · rw [if_neg f0]
        have e2 : ((y :: r).take (1 + f)).drop 1 = r.take f := by rw [Nat.add_comm 1 f,List.take_succ_cons]; rfl
        have src2 := (s1.take (1 + f)).drop 1
        rw [e2] at src2
        have bt : byt (r.take f) = true := byt_iff.2 (fun x hx => byt_iff.1 br x (List.mem_of_mem_take hx))
        have lt : (r.take f).length = f := by rw [List.length_take]; omega
        have r2 := number_go e.nm x.nm (K + 5) (upA (some (bi,off)) 1) none 1 (r.take f) bt (by omega) h src2
        rw [lt] at r2
        have nl := numV_lt8 _ bt (by omega)
        obtain ⟨n,en⟩ : ∃ n,numV (r.take f) = n := ⟨_,rfl⟩
        rw [en] at r2 nl ⊢
        obtain ⟨h1,r3,k1⟩ := compactn_go e.cp e.wi x.cp x.wi (K + 11) n (by omega) nl h
        replace r2 : callX E X (K + 15) (.fn k_octet_number) [.slice (upA (some (bi,off)) 1) f none 1] h = some (.int .u64 (n : Int),h) := r2
        replace r3 : callX E X (K + 15) (.fn k_octet_Compact) [.int .u64 (n : Int)] h = some (.int .i64 (cplV n : Nat),h1) := r3
        have sv : slcV 1 (some (.int .i64 1)) (some (.int .i64 ((1 + f : Nat) : Int))) none (.slice (some (bi,off)) (L + 1) none 1) = some (.slice (upA (some (bi,off)) 1) f none 1) := by
          have := slcV_lhA (L + 1) 1 (1 + f) (some (bi,off)) .i64 .i64 (by omega) (by omega)
          rw [show 1 + f - 1 = f by omega] at this; exact this
        have c2 : decide ((1 : Int) < ((1 + f : Nat) : Int)) = true := decide_eq_true (by omega)
        have c3 : decide (((cplV n : Nat) : Int) = ((1 + f : Nat) : Int)) = decide (cplV n = 1 + f) := by rw [decide_eq_decide]; omega
        refine ⟨h1,n,1 + f,decide (cplV n = 1 + f),?_,k1,nl,by simp only [decide_eq_true_eq],fun _ => by omega⟩
        generalize decide (cplV n = 1 + f) = ok at *
        generalize cplV n = z at *
        generalize 1 + f = u at *
        simp (config := {maxSteps := 2000000}) (disch := first | omega | (simp only [List.length_cons,List.length_nil,List.length_append,List.length_drop]; omega)) only [h4,cg,ix,r1,r2,r3,sv,c0,c1,c2,c3,w1,wy,↓s_len,x_lenS,↓x_slcS,x_M0,x_M1,↓x_conv,x_convV,Nat.add_zero,Nat.mul_one,↓s_load,m_load,↓m_load1,m_load1,↓x_idxS,x_idxSE,x_addrE,x_lenS,↓s_len,s_res0,↓s_skip,↓s_ops,↓s_seq,↓s_cond,↓s_ret,↓s_nil,↓s_op,↓s_bindS,s_bindS,↓s_bindE,s_bindE,s_norm,↓s_condV,s_condV,↓s_getp,↓s_get,↓s_con,↓s_os0,↓s_os1,↓s_list0,↓s_list1,↓s_mov,↓s_bin,↓s_call,s_same,b_eql,b_lss,b_gtr,b_add,s_end,s_res0,s_res1,s_tup2,↓iteN_true,↓iteN_false,iteN_true,iteN_false,Nat.reduceEqDiff,decide_true,decide_false]
/-- what an eye answers: new bytes,and the rest as it was but for the eye -/
structure Nq (p : Nat) (h h' : H) (w : List Nat) (a : Option (Nat × Nat)) (c : Option Nat) (e : Nat) : Prop where
  kq : Kq p h h'
  wb : Wb h' w a c e
  ge : ∀ q o,a = some (q,o) → h.next ≤ q
theorem Nq.nil {p : Nat} {h h' : H} (k : Kq p h h') : Nq p h h' [] none (some 0) 0 := ⟨k,.nil _,fun _ _ e => by cases e⟩
theorem take_go (e : EnEye E) (x : NoEye X) (N p n : Nat) (l : List Nat) (hl : l.length ≤ 100000000) (at_ : Nat) (hn : at_ + n ≤ l.length) (a : Option (Nat × Nat)) (h : H) (y : EyeH p l at_ a h) :
    ∃ h' a2 c2 e2,callX E X (N + 1) (.fn k_octet_Eye_take) [.ptr (some (p,0)),.int .i64 (n : Int)] h = some (.slice a2 n c2 e2,h') ∧ Nq p h h' ((l.drop at_).take n) a2 c2 e2 ∧ EyeH p l (at_ + n) a h' := by
  rw [x_cfn e.tk _ _ (Nat.le_of_ble_eq_true rfl) (x.tk _ _)]
  have y0 := y
  obtain ⟨c,ez,g,wb⟩ := y.pt
  have sv := wb.slc at_ (at_ + n) .i64 .i64 (by omega) hn
  rw [Nat.add_sub_cancel_left] at sv
  have lt : ((l.drop at_).take n).length = n := by rw [List.length_take,List.length_drop]; omega
  have sc := ((wb.src.drop at_).take n).e1.cellz (subC c at_)
  obtain ⟨a2,c2,e2,h1,ap,nw⟩ := app_nw h ((l.drop at_).take n) (by omega)
  rw [lt] at sc ap
  have g1 : h1.get p = some (.cells [.slice a l.length c ez,.int .i64 (at_ : Int),.bool true] .rw) := by rw [nw.kp.2 _ y.lt,g]
  obtain ⟨y2,k2⟩ := y0.put nw.kp (at_ + n) hn c ez g
  have hnn : at_ + n ≤ 100000000 := Nat.le_trans hn hl
  have w1 : wr .i64 ((at_ : Int) + (n : Int)) = ((at_ + n : Nat) : Int) := by rw [wr_i64 (by omega)]; omega
  have ne0 : ∀ q o,a2 = some (q,o) → q ≠ p := fun q o ea => by have := nw.ge q o ea; have := y.lt; omega
  refine ⟨h1.put p (.cells [.slice a l.length c ez,.int .i64 ((at_ + n : Nat) : Int),.bool true] .rw),a2,c2,e2,?_,⟨k2,nw.wb.mono (Nat.le_refl _) (fun q hq ea => h_put_ne _ _ (Ne.symm (ne0 q 0 ea))),nw.ge⟩,y2⟩
  obtain ⟨L,eL⟩ : ∃ L,l.length = L := ⟨_,rfl⟩
  rw [eL] at sv g g1 ⊢
  obtain ⟨B,eB⟩ : ∃ B,ofI .u8 ((l.drop at_).take n) = B := ⟨_,rfl⟩
  rw [eB] at sc ap
  simp (config := {maxSteps := 2000000}) (disch := first | omega | (simp only [List.length_cons,List.length_nil,List.length_append,List.length_drop]; omega)) only [g,g1,sv,sc,ap,w1,↓s_append,↓x_slcS,x_M0,x_M1,↓x_fieldAddr,x_fieldV,↓s_nilchk,x_nilchk,Nat.zero_add,Nat.add_zero,↓s_evD,↓s_dnil,↓s_dL,↓s_dR,↓s_dB,↓s_bindD,s_bindD,s_finD,s_addP0,↓s_bump0,Nat.add_zero,↓s_load,m_load,↓m_load1,m_load1,↓m_st,m_stE,m_storeI,m_storeE,w_zero,w_succ,List.length_cons,List.length_nil,List.cons_append,List.drop_succ_cons,List.drop_zero,List.nil_append,s_res0,↓s_ops,↓s_dops,↓s_seq,↓s_ret,↓s_nil,↓s_op,↓s_bindS,s_bindS,↓s_bindE,s_bindE,s_norm,↓s_getp,↓s_getp0,↓s_get,↓s_con,↓s_list0,↓s_list1,↓s_mov,↓s_bin,s_same,b_add,s_end,s_res0,s_res1,s_tup1,↓iteN_true,↓iteN_false,iteN_true,iteN_false,Nat.zero_add,List.nil_append,Nat.reduceEqDiff,decide_true,decide_false,List.getElem?_cons_zero,List.getElem?_cons_succ]
  try rfl
/-- what Fixed reads: the number,the error,the place behind -/
def eyFix (s : Int) (l : List Nat) (at_ : Nat) : Nat × Nat × Nat := if sizedI s = true then if at_ + s.toNat ≤ l.length then (numV ((l.drop at_).take s.toNat),0,at_ + s.toNat) else (0,10,at_) else (0,2,at_)
theorem eyfix_go (e : EnEye E) (x : NoEye X) (N p : Nat) (s : Int) (l : List Nat) (bl : byt l = true) (hl : l.length ≤ 100000000) (at_ : Nat) (a : Option (Nat × Nat)) (h : H) (y : EyeH p l at_ a h) :
    ∃ h',callX E X (N + 12) (.fn k_octet_Eye_Fixed) [.ptr (some (p,0)),.int .i64 s] h = some (.tup [.int .u64 ((eyFix s l at_).1 : Nat),.int .i64 ((eyFix s l at_).2.1 : Nat)],h') ∧ Kq p h h' ∧ EyeH p l (eyFix s l at_).2.2 a h' := by
  rw [x_cfn e.fx _ _ (Nat.le_of_ble_eq_true rfl) (x.fx _ _)]
  have y0 := y
  obtain ⟨c,ez,g,wb⟩ := y.pt
  have r1 := looks_go e x (N + 10) p _ _ .rw h g
  have r2 := sizedI_go e.sd x.sd (N + 10) s h
  unfold eyFix
  cases hs : sizedI s with
  | false =>
    rw [hs] at r2
    refine ⟨h,?_,Kq.refl _ _,y⟩
    rw [if_neg (show ¬ (false = true) by simp)]
    simp (config := {maxSteps := 2000000}) (disch := first | omega | (simp only [List.length_cons,List.length_nil,List.length_append,List.length_drop]; omega)) only [r1,r2,Nat.zero_add,Int.cast_ofNat_Int,s_res0,↓s_skip,↓s_ops,↓s_seq,↓s_cond,↓s_ret,↓s_nil,↓s_op,↓s_bindS,s_bindS,↓s_bindE,s_bindE,s_bindE_ret,s_norm,↓s_condV,s_condV,↓s_getp,↓s_get,↓s_con,↓s_os0,↓s_os1,↓s_list0,↓s_list1,↓s_mov,↓s_un,↓s_call,s_same,u_not,s_end,s_res0,s_res1,s_tup2,↓iteN_true,↓iteN_false,iteN_true,iteN_false,Nat.zero_add,Nat.reduceEqDiff,decide_true,decide_false,Bool.not_true,Bool.not_false]
  | true =>
    rw [hs] at r2
    obtain ⟨k,rfl,k0,k8,_⟩ := sizedI_nat hs
    rw [if_pos rfl,Int.toNat_natCast]
    have r3 := left_go e x (N + 9) p l hl at_ a h y
    have hle := y.le
    by_cases hn : at_ + k ≤ l.length
    · rw [if_pos hn]
      have c1 : decide (((l.length - at_ : Nat) : Int) < (k : Int)) = false := decide_eq_false (by omega)
      have sv := wb.slc at_ (at_ + k) .i64 .i64 (by omega) hn
      rw [Nat.add_sub_cancel_left] at sv
      have lt : ((l.drop at_).take k).length = k := by rw [List.length_take,List.length_drop]; omega
      have r4 := number_go e.nm x.nm (N + 1) (upA a at_) (subC c at_) 1 ((l.drop at_).take k) (byt_iff.2 (fun x hx => byt_iff.1 bl x (List.mem_of_mem_drop (List.mem_of_mem_take hx)))) (by omega) h ((wb.src.drop at_).take k).e1
      rw [lt] at r4
      obtain ⟨y2,k2⟩ := y0.put (Kp.refl h) (at_ + k) hn c ez g
      refine ⟨_,?_,k2,y2⟩
      generalize numV ((l.drop at_).take k) = n at *
      have w1 : wr .i64 ((at_ : Int) + (k : Int)) = ((at_ + k : Nat) : Int) := by rw [wr_i64 (by omega)]; omega
      obtain ⟨L,eL⟩ : ∃ L,l.length = L := ⟨_,rfl⟩
      rw [eL] at sv g r3 c1 ⊢
      generalize L - at_ = d at *
      simp (config := {maxSteps := 2000000}) (disch := first | omega | (simp only [List.length_cons,List.length_nil,List.length_append,List.length_drop]; omega)) only [g,r1,r2,r3,r4,c1,w1,sv,↓x_slcS,x_M0,x_M1,↓x_fieldAddr,x_fieldV,↓s_nilchk,x_nilchk,Nat.zero_add,Nat.add_zero,↓s_evD,↓s_dnil,↓s_dL,↓s_dR,↓s_dB,↓s_bindD,s_bindD,s_finD,s_addP0,↓s_bump0,Nat.add_zero,↓s_load,m_load,↓m_load1,m_load1,↓m_st,m_stE,m_storeI,m_storeE,w_zero,w_succ,List.length_cons,List.length_nil,List.cons_append,List.drop_succ_cons,List.drop_zero,List.nil_append,Int.cast_ofNat_Int,s_res0,↓s_skip,↓s_ops,↓s_dops,↓s_seq,↓s_cond,↓s_ret,↓s_nil,↓s_op,↓s_bindS,s_bindS,↓s_bindE,s_bindE,s_norm,↓s_condV,s_condV,↓s_getp,↓s_getp0,↓s_get,↓s_con,↓s_os0,↓s_os1,↓s_list0,↓s_list1,↓s_mov,↓s_bin,↓s_un,↓s_call,s_same,b_gtr,b_add,u_not,s_end,s_res0,s_res1,s_tup2,↓iteN_true,↓iteN_false,iteN_true,iteN_false,Nat.zero_add,List.nil_append,Nat.reduceEqDiff,decide_true,decide_false,Bool.not_true,List.getElem?_cons_zero,List.getElem?_cons_succ]
      try rfl
    · rw [if_neg hn]
      have c1 : decide (((l.length - at_ : Nat) : Int) < (k : Int)) = true := decide_eq_true (by omega)
      refine ⟨h,?_,Kq.refl _ _,y⟩
      generalize l.length - at_ = d at *
      simp (config := {maxSteps := 2000000}) (disch := first | omega | (simp only [List.length_cons,List.length_nil,List.length_append,List.length_drop]; omega)) only [r1,r2,r3,c1,Nat.zero_add,Int.cast_ofNat_Int,s_res0,↓s_skip,↓s_ops,↓s_seq,↓s_cond,↓s_ret,↓s_nil,↓s_op,↓s_bindS,s_bindS,↓s_bindE,s_bindE,s_bindE_ret,s_norm,↓s_condV,s_condV,↓s_getp,↓s_get,↓s_con,↓s_os0,↓s_os1,↓s_list0,↓s_list1,↓s_mov,↓s_bin,↓s_un,↓s_call,s_same,b_gtr,u_not,s_end,s_res0,s_res1,s_tup2,↓iteN_true,↓iteN_false,iteN_true,iteN_false,Nat.zero_add,Nat.reduceEqDiff,decide_true,decide_false,Bool.not_true]
      try rfl
/-- what Size reads -/
def eySiz (l : List Nat) (at_ : Nat) : Nat × Nat × Nat := match comV (l.drop at_) with
  | some (n,u) => (n,0,at_ + u)
  | none => (0,10,at_)
theorem Wb.sub {h : H} {w : List Nat} {a : Option (Nat × Nat)} {c : Option Nat} {e : Nat} (s : Wb h w a c e) (n : Nat) (hn : w.drop n ≠ []) : subC c n = none := by
  rcases s with ⟨rfl,_⟩ | ⟨_,q,md,_,rfl,_⟩
  · simp at hn
  · rfl
theorem eysiz_go (e : EnEye E) (x : NoEye X) (K p : Nat) (l : List Nat) (bl : byt l = true) (hl : l.length ≤ 100000000) (at_ : Nat) (a : Option (Nat × Nat)) (h : H) (y : EyeH p l at_ a h) :
    ∃ h',callX E X (K + 17) (.fn k_octet_Eye_Size) [.ptr (some (p,0))] h = some (.tup [.int .u64 ((eySiz l at_).1 : Nat),.int .i64 ((eySiz l at_).2.1 : Nat)],h') ∧ Kq p h h' ∧ EyeH p l (eySiz l at_).2.2 a h' ∧ (eySiz l at_).1 < 18446744073709551616 := by
  rw [x_cfn e.sz _ _ (Nat.le_of_ble_eq_true rfl) (x.sz _ _)]
  have y0 := y
  obtain ⟨c,ez,g,wb⟩ := y.pt
  have hle := y.le
  have r1 := looks_go e x (K + 15) p _ _ .rw h g
  have sv := wb.slo at_ .i64 hle
  have ld : (l.drop at_).length = l.length - at_ := List.length_drop
  obtain ⟨h1,n,u,ok,r2,k1,nl,cv,hu⟩ := compact_go e x K (l.drop at_) (byt_iff.2 (fun x hx => byt_iff.1 bl x (List.mem_of_mem_drop hx))) (by omega) (upA a at_) (subC c at_) (wb.sub at_) h (wb.src.drop at_).e1
  rw [ld] at r2 hu
  have g1 : h1.get p = some (.cells [.slice a l.length c ez,.int .i64 (at_ : Int),.bool true] .rw) := by rw [k1.2 _ y.lt,g]
  unfold eySiz
  rw [cv]
  cases ok with
  | false =>
    refine ⟨h1,?_,k1.q,y.kp k1,by show 0 < _; omega⟩
    obtain ⟨L,eL⟩ : ∃ L,l.length = L := ⟨_,rfl⟩
    rw [eL] at sv g g1 r2
    simp (config := {maxSteps := 2000000}) (disch := first | omega | (simp only [List.length_cons,List.length_nil,List.length_append,List.length_drop]; omega)) only [g,r1,r2,sv,↓x_slcS,x_M0,x_M1,↓x_fieldAddr,x_fieldV,↓s_nilchk,x_nilchk,Nat.zero_add,Nat.add_zero,↓s_evD,↓s_dnil,↓s_dL,↓s_dR,↓s_dB,↓s_bindD,s_bindD,s_finD,s_addP0,↓s_bump0,Nat.add_zero,↓s_load,m_load,↓m_load1,m_load1,Int.cast_ofNat_Int,s_res0,↓s_skip,↓s_ops,↓s_dops,↓s_seq,↓s_cond,↓s_ret,↓s_nil,↓s_op,↓s_bindS,s_bindS,↓s_bindE,s_bindE,s_bindE_ret,s_norm,↓s_condV,s_condV,↓s_getp,↓s_get,↓s_con,↓s_os0,↓s_os1,↓s_list0,↓s_list1,↓s_mov,↓s_un,↓s_call,↓s_ext,s_same,u_not,s_end,s_res0,s_res1,s_tup2,↓iteN_true,↓iteN_false,iteN_true,iteN_false,Nat.zero_add,Nat.reduceEqDiff,decide_true,decide_false,Bool.not_true,Bool.not_false,List.getElem?_cons_zero,List.getElem?_cons_succ,Bool.false_eq_true,if_false]
    try rfl
  | true =>
    have hu := hu rfl
    obtain ⟨y2,k2⟩ := y0.put k1 (at_ + u) (by omega) c ez g
    refine ⟨_,?_,k2,y2,nl⟩
    have w1 : wr .i64 ((at_ : Int) + (u : Int)) = ((at_ + u : Nat) : Int) := by rw [wr_i64 (by omega)]; omega
    obtain ⟨L,eL⟩ : ∃ L,l.length = L := ⟨_,rfl⟩
    rw [eL] at sv g g1 r2 ⊢
    simp (config := {maxSteps := 2000000}) (disch := first | omega | (simp only [List.length_cons,List.length_nil,List.length_append,List.length_drop]; omega)) only [g,g1,r1,r2,sv,w1,↓x_slcS,x_M0,x_M1,↓x_fieldAddr,x_fieldV,↓s_nilchk,x_nilchk,Nat.zero_add,Nat.add_zero,↓s_evD,↓s_dnil,↓s_dL,↓s_dR,↓s_dB,↓s_bindD,s_bindD,s_finD,s_addP0,↓s_bump0,Nat.add_zero,↓s_load,m_load,↓m_load1,m_load1,↓m_st,m_stE,m_storeI,m_storeE,w_zero,w_succ,List.length_cons,List.length_nil,List.cons_append,List.drop_succ_cons,List.drop_zero,List.nil_append,Int.cast_ofNat_Int,s_res0,↓s_skip,↓s_ops,↓s_dops,↓s_seq,↓s_cond,↓s_ret,↓s_nil,↓s_op,↓s_bindS,s_bindS,↓s_bindE,s_bindE,s_norm,↓s_condV,s_condV,↓s_getp,↓s_getp0,↓s_get,↓s_con,↓s_os0,↓s_os1,↓s_list0,↓s_list1,↓s_mov,↓s_bin,↓s_un,↓s_call,↓s_ext,s_same,b_add,u_not,s_end,s_res0,s_res1,s_tup2,↓iteN_true,↓iteN_false,iteN_true,iteN_false,Nat.zero_add,List.nil_append,Nat.reduceEqDiff,decide_true,decide_false,Bool.not_true,List.getElem?_cons_zero,List.getElem?_cons_succ,if_true]
    try rfl
/-- what Raw reads -/
def eyRaw (n : Int) (l : List Nat) (at_ : Nat) : List Nat × Nat × Nat := if n < 0 then ([],2,at_) else if at_ + n.toNat ≤ l.length then ((l.drop at_).take n.toNat,0,at_ + n.toNat) else ([],10,at_)
theorem eyraw_go (e : EnEye E) (x : NoEye X) (N p : Nat) (n : Int) (l : List Nat) (hl : l.length ≤ 100000000) (at_ : Nat) (a : Option (Nat × Nat)) (h : H) (y : EyeH p l at_ a h) :
    ∃ h' a2 c2 e2,callX E X (N + 3) (.fn k_octet_Eye_Raw) [.ptr (some (p,0)),.int .i64 n] h = some (.tup [.slice a2 (eyRaw n l at_).1.length c2 e2,.int .i64 ((eyRaw n l at_).2.1 : Nat)],h') ∧ Nq p h h' (eyRaw n l at_).1 a2 c2 e2 ∧ EyeH p l (eyRaw n l at_).2.2 a h' := by
  rw [x_cfn e.rw_ _ _ (Nat.le_of_ble_eq_true rfl) (x.rw_ _ _)]
  obtain ⟨c,ez,g,wb⟩ := y.pt
  have hle := y.le
  have r1 := looks_go e x (N + 1) p _ _ .rw h g
  have r3 := left_go e x N p l hl at_ a h y
  unfold eyRaw
  by_cases n0 : n < 0
  · rw [if_pos n0]
    have c0 : decide (n < 0) = true := decide_eq_true n0
    refine ⟨h,none,some 0,0,?_,.nil (Kq.refl _ _),y⟩
    rw [List.length_nil]
    simp (config := {maxSteps := 2000000}) (disch := first | omega | (simp only [List.length_cons,List.length_nil,List.length_append,List.length_drop]; omega)) only [r1,c0,Nat.zero_add,Int.cast_ofNat_Int,s_res0,↓s_skip,↓s_ops,↓s_seq,↓s_cond,↓s_ret,↓s_nil,↓s_op,↓s_bindS,s_bindS,↓s_bindE,s_bindE,s_bindE_ret,s_norm,↓s_condV,s_condV,↓s_getp,↓s_get,↓s_con,↓s_os0,↓s_os1,↓s_list0,↓s_list1,↓s_mov,↓s_bin,↓s_un,↓s_call,s_same,b_lss,u_not,s_end,s_res0,s_res1,s_tup2,↓iteN_true,↓iteN_false,iteN_true,iteN_false,Nat.zero_add,Nat.reduceEqDiff,decide_true,decide_false,Bool.not_true]
    try rfl
  · rw [if_neg n0]
    have c0 : decide (n < 0) = false := decide_eq_false n0
    obtain ⟨k,rfl⟩ := Int.eq_ofNat_of_zero_le (show 0 ≤ n by omega)
    rw [Int.toNat_natCast]
    by_cases hn : at_ + k ≤ l.length
    · rw [if_pos hn]
      have c1 : decide (((l.length - at_ : Nat) : Int) < (k : Int)) = false := decide_eq_false (by omega)
      obtain ⟨h1,a2,c2,e2,r4,nq,y2⟩ := take_go e x (N + 1) p k l hl at_ hn a h y
      have lt : ((l.drop at_).take k).length = k := by rw [List.length_take,List.length_drop]; omega
      refine ⟨h1,a2,c2,e2,?_,nq,y2⟩
      rw [lt]
      generalize l.length - at_ = d at *
      simp (config := {maxSteps := 2000000}) (disch := first | omega | (simp only [List.length_cons,List.length_nil,List.length_append,List.length_drop]; omega)) only [r1,r3,r4,c0,c1,Nat.zero_add,Int.cast_ofNat_Int,s_res0,↓s_skip,↓s_ops,↓s_seq,↓s_cond,↓s_ret,↓s_nil,↓s_op,↓s_bindS,s_bindS,↓s_bindE,s_bindE,s_norm,↓s_condV,s_condV,↓s_getp,↓s_get,↓s_con,↓s_os0,↓s_os1,↓s_list0,↓s_list1,↓s_mov,↓s_bin,↓s_un,↓s_call,s_same,b_lss,b_gtr,u_not,s_end,s_res0,s_res1,s_tup2,↓iteN_true,↓iteN_false,iteN_true,iteN_false,Nat.zero_add,Nat.reduceEqDiff,decide_true,decide_false,Bool.not_true]
      try rfl
    · rw [if_neg hn]
      have c1 : decide (((l.length - at_ : Nat) : Int) < (k : Int)) = true := decide_eq_true (by omega)
      refine ⟨h,none,some 0,0,?_,.nil (Kq.refl _ _),y⟩
      rw [List.length_nil]
      generalize l.length - at_ = d at *
      simp (config := {maxSteps := 2000000}) (disch := first | omega | (simp only [List.length_cons,List.length_nil,List.length_append,List.length_drop]; omega)) only [r1,r3,c0,c1,Nat.zero_add,Int.cast_ofNat_Int,s_res0,↓s_skip,↓s_ops,↓s_seq,↓s_cond,↓s_ret,↓s_nil,↓s_op,↓s_bindS,s_bindS,↓s_bindE,s_bindE,s_bindE_ret,s_norm,↓s_condV,s_condV,↓s_getp,↓s_get,↓s_con,↓s_os0,↓s_os1,↓s_list0,↓s_list1,↓s_mov,↓s_bin,↓s_un,↓s_call,s_same,b_lss,b_gtr,u_not,s_end,s_res0,s_res1,s_tup2,↓iteN_true,↓iteN_false,iteN_true,iteN_false,Nat.zero_add,Nat.reduceEqDiff,decide_true,decide_false,Bool.not_true]
      try rfl
/-- what Bytes reads -/
def eyByt (most : Int) (l : List Nat) (at_ : Nat) : List Nat × Nat × Nat := match comV (l.drop at_) with
  | some (n,u) => if most < 0 ∨ most < (n : Int) ∨ l.length - at_ - u < n then ([],10,at_) else ((l.drop (at_ + u)).take n,0,at_ + u + n)
  | none => ([],10,at_)
theorem eybyt_go (e : EnEye E) (x : NoEye X) (K p : Nat) (most : Int) (hm : most < 9223372036854775808) (l : List Nat) (bl : byt l = true) (hl : l.length ≤ 100000000) (at_ : Nat) (a : Option (Nat × Nat)) (h : H) (y : EyeH p l at_ a h) :
    ∃ h' a2 c2 e2,callX E X (K + 17) (.fn k_octet_Eye_Bytes) [.ptr (some (p,0)),.int .i64 most] h = some (.tup [.slice a2 (eyByt most l at_).1.length c2 e2,.int .i64 ((eyByt most l at_).2.1 : Nat)],h') ∧ Nq p h h' (eyByt most l at_).1 a2 c2 e2 ∧ EyeH p l (eyByt most l at_).2.2 a h' := by
  rw [x_cfn e.by_ _ _ (Nat.le_of_ble_eq_true rfl) (x.by_ _ _)]
  have y0 := y
  obtain ⟨c,ez,g,wb⟩ := y.pt
  have hle := y.le
  have r1 := looks_go e x (K + 15) p _ _ .rw h g
  have sv := wb.slo at_ .i64 hle
  have ld : (l.drop at_).length = l.length - at_ := List.length_drop
  obtain ⟨h1,n,u,ok,r2,k1,nl,cv,hu⟩ := compact_go e x K (l.drop at_) (byt_iff.2 (fun x hx => byt_iff.1 bl x (List.mem_of_mem_drop hx))) (by omega) (upA a at_) (subC c at_) (wb.sub at_) h (wb.src.drop at_).e1
  rw [ld] at r2 hu
  have g1 : h1.get p = some (.cells [.slice a l.length c ez,.int .i64 (at_ : Int),.bool true] .rw) := by rw [k1.2 _ y.lt,g]
  have r3 := left_go e x (K + 14) p l hl at_ a h1 (y.kp k1)
  unfold eyByt
  rw [cv]
  obtain ⟨L,eL⟩ : ∃ L,l.length = L := ⟨_,rfl⟩
  cases ok with
  | false =>
    refine ⟨h1,none,some 0,0,?_,.nil k1.q,y.kp k1⟩
    rw [eL] at sv g g1 r2
    simp (config := {maxSteps := 2000000}) (disch := first | omega | (simp only [List.length_cons,List.length_nil,List.length_append,List.length_drop]; omega)) only [g,r1,r2,sv,↓x_slcS,x_M0,x_M1,↓x_fieldAddr,x_fieldV,↓s_nilchk,x_nilchk,Nat.zero_add,Nat.add_zero,↓s_evD,↓s_dnil,↓s_dL,↓s_dR,↓s_dB,↓s_bindD,s_bindD,s_finD,s_addP0,↓s_bump0,Nat.add_zero,↓s_load,m_load,↓m_load1,m_load1,List.length_nil,Int.cast_ofNat_Int,s_res0,↓s_skip,↓s_ops,↓s_dops,↓s_seq,↓s_cond,↓s_ret,↓s_nil,↓s_op,↓s_opg,↓s_wanted',↓s_wantV,s_wantV,beq_false,↓s_bindS,s_bindS,↓s_bindE,s_bindE,s_bindE_ret,s_norm,↓s_condV,s_condV,↓s_getp,↓s_get,↓s_con,↓s_os0,↓s_os1,↓s_list0,↓s_list1,↓s_mov,↓s_pick,↓s_pickE,s_pickE,↓s_un,↓s_call,↓s_ext,s_same,u_not,s_end,s_res0,s_res1,s_tup2,↓iteN_true,↓iteN_false,iteN_true,iteN_false,Nat.zero_add,Nat.reduceEqDiff,decide_true,decide_false,Bool.not_true,Bool.not_false,List.getElem?_cons_zero,List.getElem?_cons_succ,Bool.false_eq_true,if_false]
    try rfl
  | true =>
    have hu := hu rfl
    rw [if_pos rfl]
    simp only
    by_cases m0 : most < 0
    · rw [if_pos (.inl m0)]
      have c0 : decide (most < 0) = true := decide_eq_true m0
      refine ⟨h1,none,some 0,0,?_,.nil k1.q,y.kp k1⟩
      rw [eL] at sv g g1 r2
      simp (config := {maxSteps := 2000000}) (disch := first | omega | (simp only [List.length_cons,List.length_nil,List.length_append,List.length_drop]; omega)) only [g,r1,r2,c0,sv,↓x_slcS,x_M0,x_M1,↓x_fieldAddr,x_fieldV,↓s_nilchk,x_nilchk,Nat.zero_add,Nat.add_zero,↓s_evD,↓s_dnil,↓s_dL,↓s_dR,↓s_dB,↓s_bindD,s_bindD,s_finD,s_addP0,↓s_bump0,Nat.add_zero,↓s_load,m_load,↓m_load1,m_load1,List.length_nil,Int.cast_ofNat_Int,s_res0,↓s_skip,↓s_ops,↓s_dops,↓s_seq,↓s_cond,↓s_ret,↓s_nil,↓s_op,↓s_opg,↓s_wanted',↓s_wantV,s_wantV,beq_false,↓s_bindS,s_bindS,↓s_bindE,s_bindE,s_bindE_ret,s_norm,↓s_condV,s_condV,↓s_getp,↓s_get,↓s_con,↓s_os0,↓s_os1,↓s_list0,↓s_list1,↓s_mov,↓s_pick,↓s_pickE,s_pickE,↓s_bin,↓s_un,↓s_call,↓s_ext,s_same,b_lss,u_not,s_end,s_res0,s_res1,s_tup2,↓iteN_true,↓iteN_false,iteN_true,iteN_false,Nat.zero_add,Nat.reduceEqDiff,decide_true,decide_false,Bool.not_true,List.getElem?_cons_zero,List.getElem?_cons_succ,beq_self_eq_true]
      try rfl
    · have c0 : decide (most < 0) = false := decide_eq_false m0
      have wm : wr .u64 most = most := wr_u64 (by omega)
      by_cases m1 : most < (n : Int)
      · rw [if_pos (.inr (.inl m1))]
        have c1 : decide (most < (n : Int)) = true := decide_eq_true m1
        refine ⟨h1,none,some 0,0,?_,.nil k1.q,y.kp k1⟩
        rw [eL] at sv g g1 r2
        simp (config := {maxSteps := 2000000}) (disch := first | omega | (simp only [List.length_cons,List.length_nil,List.length_append,List.length_drop]; omega)) only [g,r1,r2,c0,c1,wm,sv,↓x_slcS,x_M0,x_M1,↓x_conv,x_convV,↓x_fieldAddr,x_fieldV,↓s_nilchk,x_nilchk,Nat.zero_add,Nat.add_zero,↓s_evD,↓s_dnil,↓s_dL,↓s_dR,↓s_dB,↓s_bindD,s_bindD,s_finD,s_addP0,↓s_bump0,Nat.add_zero,↓s_load,m_load,↓m_load1,m_load1,List.length_nil,Int.cast_ofNat_Int,s_res0,↓s_skip,↓s_ops,↓s_dops,↓s_seq,↓s_cond,↓s_ret,↓s_nil,↓s_op,↓s_opg,↓s_wanted',↓s_wantV,s_wantV,beq_false,↓s_bindS,s_bindS,↓s_bindE,s_bindE,s_bindE_ret,s_norm,↓s_condV,s_condV,↓s_getp,↓s_get,↓s_con,↓s_os0,↓s_os1,↓s_list0,↓s_list1,↓s_mov,↓s_pick,↓s_pickE,s_pickE,↓s_bin,↓s_un,↓s_call,↓s_ext,s_same,b_lss,b_gtr,u_not,s_end,s_res0,s_res1,s_tup2,↓iteN_true,↓iteN_false,iteN_true,iteN_false,Nat.zero_add,Nat.reduceEqDiff,decide_true,decide_false,Bool.not_true,List.getElem?_cons_zero,List.getElem?_cons_succ,beq_self_eq_true]
        try rfl
      · have c1 : decide (most < (n : Int)) = false := decide_eq_false m1
        have w2 : wr .i64 (((l.length - at_ : Nat) : Int) - (u : Int)) = ((l.length - at_ - u : Nat) : Int) := by rw [wr_i64 (by omega)]; omega
        have w3 : wr .u64 ((l.length - at_ - u : Nat) : Int) = ((l.length - at_ - u : Nat) : Int) := u64n _ (by omega)
        by_cases m2 : l.length - at_ - u < n
        · rw [if_pos (.inr (.inr m2))]
          have c2 : decide (((l.length - at_ - u : Nat) : Int) < (n : Int)) = true := decide_eq_true (by omega)
          refine ⟨h1,none,some 0,0,?_,.nil k1.q,y.kp k1⟩
          rw [eL] at sv g g1 r2 r3 w2 w3 c2
          generalize L - at_ = d at *
          generalize d - u = dd at *
          simp (config := {maxSteps := 2000000}) (disch := first | omega | (simp only [List.length_cons,List.length_nil,List.length_append,List.length_drop]; omega)) only [g,r1,r2,r3,c0,c1,c2,w2,w3,wm,sv,↓x_slcS,x_M0,x_M1,↓x_conv,x_convV,↓x_fieldAddr,x_fieldV,↓s_nilchk,x_nilchk,Nat.zero_add,Nat.add_zero,↓s_evD,↓s_dnil,↓s_dL,↓s_dR,↓s_dB,↓s_bindD,s_bindD,s_finD,s_addP0,↓s_bump0,Nat.add_zero,↓s_load,m_load,↓m_load1,m_load1,List.length_nil,Int.cast_ofNat_Int,s_res0,↓s_skip,↓s_ops,↓s_dops,↓s_seq,↓s_cond,↓s_ret,↓s_nil,↓s_op,↓s_opg,↓s_wanted',↓s_wantV,s_wantV,↓s_bindS,s_bindS,↓s_bindE,s_bindE,s_bindE_ret,s_norm,↓s_condV,s_condV,↓s_getp,↓s_get,↓s_con,↓s_os0,↓s_os1,↓s_list0,↓s_list1,↓s_mov,↓s_pick,↓s_pickE,s_pickE,↓s_bin,↓s_un,↓s_call,↓s_ext,s_same,b_lss,b_gtr,b_sub,u_not,s_end,s_res0,s_res1,s_tup2,↓iteN_true,↓iteN_false,iteN_true,iteN_false,Nat.zero_add,Nat.reduceEqDiff,decide_true,decide_false,Bool.not_true,List.getElem?_cons_zero,List.getElem?_cons_succ,beq_self_eq_true]
          try rfl
        · rw [if_neg (by omega)]
          have c2 : decide (((l.length - at_ - u : Nat) : Int) < (n : Int)) = false := decide_eq_false (by omega)
          obtain ⟨y2,k2⟩ := y0.put k1 (at_ + u) (by omega) c ez g
          have w4 : wr .i64 ((at_ : Int) + (u : Int)) = ((at_ + u : Nat) : Int) := by rw [wr_i64 (by omega)]; omega
          have w5 : wr .i64 (n : Int) = (n : Int) := w64n (by omega)
          obtain ⟨h3,a2,c2',e2,r4,nq,y3⟩ := take_go e x (K + 15) p n l hl (at_ + u) (by omega) a _ y2
          have lt : ((l.drop (at_ + u)).take n).length = n := by rw [List.length_take,List.length_drop]; omega
          have kn := k2.1
          refine ⟨h3,a2,c2',e2,?_,⟨k2.trans nq.kq,nq.wb,fun q o ea => Nat.le_trans kn (nq.ge q o ea)⟩,y3⟩
          rw [lt]
          rw [eL] at sv g g1 r2 r3 w2 w3 c2 r4
          generalize L - at_ = d at *
          generalize d - u = dd at *
          simp (config := {maxSteps := 2000000}) (disch := first | omega | (simp only [List.length_cons,List.length_nil,List.length_append,List.length_drop]; omega)) only [g,g1,r1,r2,r3,r4,c0,c1,c2,w2,w3,w4,w5,wm,sv,↓x_slcS,x_M0,x_M1,↓x_conv,x_convV,↓x_fieldAddr,x_fieldV,↓s_nilchk,x_nilchk,Nat.zero_add,Nat.add_zero,↓s_evD,↓s_dnil,↓s_dL,↓s_dR,↓s_dB,↓s_bindD,s_bindD,s_finD,s_addP0,↓s_bump0,Nat.add_zero,↓s_load,m_load,↓m_load1,m_load1,↓m_st,m_stE,m_storeI,m_storeE,w_zero,w_succ,List.length_cons,List.length_nil,List.cons_append,List.drop_succ_cons,List.drop_zero,List.nil_append,Int.cast_ofNat_Int,s_res0,↓s_skip,↓s_ops,↓s_dops,↓s_seq,↓s_cond,↓s_ret,↓s_nil,↓s_op,↓s_opg,↓s_wanted',↓s_wantV,s_wantV,↓s_bindS,s_bindS,↓s_bindE,s_bindE,s_norm,↓s_condV,s_condV,↓s_getp,↓s_getp0,↓s_get,↓s_con,↓s_os0,↓s_os1,↓s_list0,↓s_list1,↓s_mov,↓s_pick,↓s_pickE,s_pickE,↓s_bin,↓s_un,↓s_call,↓s_ext,s_same,b_lss,b_gtr,b_add,b_sub,u_not,s_end,s_res0,s_res1,s_tup2,↓iteN_true,↓iteN_false,iteN_true,iteN_false,Nat.zero_add,List.nil_append,Nat.reduceEqDiff,decide_true,decide_false,Bool.not_true,List.getElem?_cons_zero,List.getElem?_cons_succ,beq_self_eq_true]
          try rfl
end Go.Eng
namespace Go.Eng
open Go
variable {E : Nat → Option Fn} {X : Orc}
set_option linter.unusedSimpArgs false
set_option linter.unusedVariables false
theorem leN_succ (s n : Nat) : leN (s + 1) n = n % 256 :: leN s (n / 256) := by
  unfold leN
  rw [List.range_succ_eq_map,List.map_cons,List.map_map]
  congr 1
  · rw [Nat.mul_zero,Nat.pow_zero,Nat.div_one]
  · apply List.map_congr_left
    intro k _
    show n / 2 ^ (8 * (k + 1)) % 256 = n / 256 / 2 ^ (8 * k) % 256
    rw [Nat.div_div_eq_div_mul,show 2 ^ (8 * (k + 1)) = 256 * 2 ^ (8 * k) by rw [Nat.mul_add,Nat.pow_add]; omega]
theorem numV_leN : ∀ s n,n < 256 ^ s → numV (leN s n) = n := by
  intro s
  induction s with
  | zero => intro n h; rw [Nat.pow_zero] at h; obtain rfl : n = 0 := by omega
            rfl
  | succ s ih =>
    intro n h
    rw [leN_succ]
    show numV (leN s (n / 256)) * 256 + n % 256 = n
    rw [ih _ (by rw [Nat.pow_succ] at h; omega)]; omega
theorem leN_numV : ∀ l : List Nat,byt l = true → leN l.length (numV l) = l := by
  intro l
  induction l with
  | nil => intro _; rfl
  | cons a r ih =>
    intro h
    have h1 := byt_iff.1 h a (List.mem_cons_self ..)
    have h2 := ih (byt_iff.2 (fun x hx => byt_iff.1 h x (List.mem_cons_of_mem _ hx)))
    show leN (r.length + 1) (numV r * 256 + a) = _
    rw [leN_succ,show (numV r * 256 + a) % 256 = a by omega,show (numV r * 256 + a) / 256 = numV r by omega,h2]
theorem leN_numV' (l : List Nat) (bl : byt l = true) (k : Nat) (h : l.length = k) : leN k (numV l) = l := by rw [← h]; exact leN_numV l bl
theorem byt_take {l : List Nat} (b : byt l = true) (n : Nat) : byt (l.take n) = true := byt_iff.2 (fun x hx => byt_iff.1 b x (List.mem_of_mem_take hx))
theorem byt_drop {l : List Nat} (b : byt l = true) (n : Nat) : byt (l.drop n) = true := byt_iff.2 (fun x hx => byt_iff.1 b x (List.mem_of_mem_drop hx))
theorem byt_tail {a : Nat} {r : List Nat} (b : byt (a :: r) = true) : byt r = true := byt_iff.2 (fun x hx => byt_iff.1 b x (List.mem_cons_of_mem _ hx))
theorem byt_app {a b : List Nat} (ha : byt a = true) (hb : byt b = true) : byt (a ++ b) = true := byt_iff.2 (fun x hx => by
  rcases List.mem_append.1 hx with h | h
  · exact byt_iff.1 ha x h
  · exact byt_iff.1 hb x h)
theorem sizV_byt (n : Nat) : byt (sizV n) = true := by
  by_cases h : n < 253
  · unfold sizV; rw [if_pos h]; exact byt_iff.2 (fun x hx => by rcases List.mem_singleton.1 hx with rfl; omega)
  · obtain ⟨more,mk,_,_,e⟩ := siz_split n (by omega)
    rw [e]; exact byt_app (leN_byt _ _) (leN_byt _ _)
theorem sizV_le (n : Nat) : (sizV n).length ≤ 9 := by rw [sizV_len]; unfold cplV; split <;> (try split) <;> (try split) <;> omega
theorem cpl_lt (n : Nat) : (cplV n = 1 ↔ n < 253) ∧ (cplV n = 3 → 253 ≤ n ∧ n < 65536) ∧ (cplV n = 5 → 65536 ≤ n ∧ n < 4294967296) ∧ (cplV n = 9 → 4294967296 ≤ n) := by
  unfold cplV
  by_cases h1 : n < 253
  · rw [if_pos h1]; simp [h1]
  · rw [if_neg h1]
    by_cases h2 : n < 65536
    · rw [if_pos h2]; simp; omega
    · rw [if_neg h2]
      by_cases h3 : n < 4294967296
      · rw [if_pos h3]; simp; omega
      · rw [if_neg h3]; simp; omega
/-- what is read as a size is what a pen writes for it -/
theorem com_siz (l : List Nat) (bl : byt l = true) (n u : Nat) (h : comV l = some (n,u)) : sizV n = l.take u ∧ u = cplV n ∧ u ≤ l.length ∧ n < 18446744073709551616 := by
  cases l with
  | nil => cases h
  | cons a r =>
    unfold comV at h
    simp only at h
    have ha := byt_iff.1 bl a (List.mem_cons_self ..)
    have br := byt_tail bl
    by_cases h1 : r.length < folV a
    · rw [if_pos h1] at h; cases h
    · rw [if_neg h1] at h
      by_cases h2 : cplV (if folV a = 0 then a else numV (r.take (folV a))) = 1 + folV a
      · rw [if_pos h2] at h
        injection h with h; injection h with e1 e2
        rw [e1] at h2
        have lt : ∀ k,k = folV a → (r.take k).length = k := fun k e => by rw [List.length_take]; omega
        refine ⟨?_,by rw [h2,e2],by rw [List.length_cons]; omega,?_⟩
        · obtain ⟨c1,c3,c5,c9⟩ := cpl_lt n
          rcases folV_c a with ⟨_,f⟩ | ⟨_,f⟩ | ⟨_,f⟩ | ⟨_,_,_,f⟩
          · rw [f,if_neg (by decide)] at e1
            rw [f] at h2 e2
            have := c3 h2
            unfold sizV
            rw [if_neg (by omega),if_pos (by omega),← e2,← e1,leN_numV' _ (byt_take br _) 2 (lt 2 f.symm)]
            show 253 :: r.take 2 = a :: r.take 2
            congr 1; omega
          · rw [f,if_neg (by decide)] at e1
            rw [f] at h2 e2
            have := c5 h2
            unfold sizV
            rw [if_neg (by omega),if_neg (by omega),if_pos (by omega),← e2,← e1,leN_numV' _ (byt_take br _) 4 (lt 4 f.symm)]
            show 254 :: r.take 4 = a :: r.take 4
            congr 1; omega
          · rw [f,if_neg (by decide)] at e1
            rw [f] at h2 e2
            have := c9 h2
            unfold sizV
            rw [if_neg (by omega),if_neg (by omega),if_neg (by omega),← e2,← e1,leN_numV' _ (byt_take br _) 8 (lt 8 f.symm)]
            show 255 :: r.take 8 = a :: r.take 8
            congr 1; omega
          · rw [f,if_pos rfl] at e1
            rw [f] at h2 e2
            have := c1.1 h2
            unfold sizV
            rw [if_pos this,← e2,← e1]
            show [a] = a :: r.take 0
            rw [List.take_zero]
        · rw [← e1]
          split
          · omega
          · exact numV_lt8 _ (byt_take br _) (by rw [List.length_take]; have := folV_le a; omega)
      · rw [if_neg h2] at h; cases h
/-- a size is read as it was -/
theorem siz_com (n : Nat) (hn : n < 18446744073709551616) (r : List Nat) : comV (sizV n ++ r) = some (n,cplV n) := by
  by_cases h : n < 253
  · have e1 : cplV n = 1 := (cpl_lt n).1.2 h
    have e0 : folV n = 0 := by rcases folV_c n with h | h | h | h <;> omega
    have es : sizV n = [n] := by unfold sizV; rw [if_pos h]
    rw [es]
    show (if r.length < folV n then none else if cplV (if folV n = 0 then n else numV (r.take (folV n))) = 1 + folV n then some (if folV n = 0 then n else numV (r.take (folV n)),1 + folV n) else none) = _
    rw [e0,if_neg (by omega),if_pos rfl,e1,if_pos rfl]
  · obtain ⟨more,mk,hm,ec,es⟩ := siz_split n (by omega)
    have hmk : mk < 256 := by omega
    have ef : folV mk = more := by rcases hm with ⟨rfl,rfl⟩ | ⟨rfl,rfl⟩ | ⟨rfl,rfl⟩ <;> rfl
    rw [es,leN_1 _ hmk]
    show (if (leN more n ++ r).length < folV mk then none else if cplV (if folV mk = 0 then mk else numV ((leN more n ++ r).take (folV mk))) = 1 + folV mk then some (if folV mk = 0 then mk else numV ((leN more n ++ r).take (folV mk)),1 + folV mk) else none) = _
    have np : n < 256 ^ more := by
      obtain ⟨_,c3,c5,c9⟩ := cpl_lt n
      rcases hm with ⟨rfl,rfl⟩ | ⟨rfl,rfl⟩ | ⟨rfl,rfl⟩
      · exact (c3 ec).2
      · exact (c5 ec).2
      · exact hn
    rw [ef,if_neg (by rw [List.length_append,leN_len]; omega),if_neg (show ¬ more = 0 by omega),List.take_left' (leN_len _ _),numV_leN _ _ np,if_pos (by omega),ec,Nat.add_comm]
theorem wid_pow' (n k : Nat) (hn : n < 18446744073709551616) (hk : k = 1 ∨ k = 2 ∨ k = 4 ∨ k = 8) : widV n ≤ k ↔ n < 256 ^ k := by
  unfold widV
  rcases hk with rfl | rfl | rfl | rfl
  · show _ ↔ n < 256
    (repeat' split) <;> omega
  · show _ ↔ n < 65536
    (repeat' split) <;> omega
  · show _ ↔ n < 4294967296
    (repeat' split) <;> omega
  · show _ ↔ n < 18446744073709551616
    (repeat' split) <;> omega
end Go.Eng
namespace Go.Eng
open Go
structure EnPen (E : Nat → Option Fn) : Prop where
  fi : EnFix E
  si : EnSize E
  by_ : E k_octet_Pen_Bytes = some f_octet_Pen_Bytes
  rw_ : E k_octet_Pen_Raw = some f_octet_Pen_Raw
  al : E k_octet_Pen_All = some f_octet_Pen_All
end Go.Eng
namespace Go.Eng
open Go
variable {E : Nat → Option Fn} {X : Orc}
set_option linter.unusedSimpArgs false
set_option linter.unusedVariables false
/-! arguments of any shape,as read-only blocks -/
structure LayB (bl : List (Nat × List V)) (lo hi : Nat) : Prop where
  le : lo ≤ hi
  rg : ∀ x ∈ bl,lo ≤ x.1 ∧ x.1 < hi
  nd : (bl.map (·.1)).Nodup
theorem LayB.nil (lo : Nat) : LayB [] lo lo := ⟨Nat.le_refl _,(fun x hx => by cases hx),List.nodup_nil⟩
theorem LayB.app {a b : List (Nat × List V)} {x y z : Nat} (ha : LayB a x y) (hb : LayB b y z) : LayB (a ++ b) x z := by
  refine ⟨Nat.le_trans ha.le hb.le,fun q hq => ?_,?_⟩
  · rcases List.mem_append.1 hq with h | h
    · exact ⟨(ha.rg q h).1,Nat.lt_of_lt_of_le (ha.rg q h).2 hb.le⟩
    · exact ⟨Nat.le_trans ha.le (hb.rg q h).1,(hb.rg q h).2⟩
  · rw [List.map_append,List.nodup_append]
    refine ⟨ha.nd,hb.nd,fun p hp q hq e => ?_⟩
    obtain ⟨u,hu,rfl⟩ := List.mem_map.1 hp
    obtain ⟨v,hv,rfl⟩ := List.mem_map.1 hq
    have := (ha.rg u hu).2
    have := (hb.rg v hv).1
    omega
theorem LayB.one {b : List (Nat × List V)} {lo hi : Nat} (v : List V) (hb : LayB b (lo + 1) hi) : LayB ((lo,v) :: b) lo hi := by
  have h1 : LayB [(lo,v)] lo (lo + 1) := ⟨by omega,(fun x hx => by rcases List.mem_singleton.1 hx with rfl; exact ⟨Nat.le_refl _,Nat.lt_succ_self _⟩),by simp⟩
  exact h1.app hb
/-- blocks that are there -/
def Has (h : H) (bl : List (Nat × List V)) : Prop := ∀ x ∈ bl,h.get x.1 = some (.cells x.2 .ro) ∧ x.1 < h.next
theorem Has.l {h : H} {a b : List (Nat × List V)} (x : Has h (a ++ b)) : Has h a := fun y hy => x y (List.mem_append_left _ hy)
theorem Has.r {h : H} {a b : List (Nat × List V)} (x : Has h (a ++ b)) : Has h b := fun y hy => x y (List.mem_append_right _ hy)
theorem mkB_skip' : ∀ (bl : List (Nat × List V)) (r : List (Nat × List V)) (i : Nat),(∀ x ∈ bl,x.1 ≠ i) → (mkB (bl ++ r)).get i = (mkB r).get i := by
  intro bl
  induction bl with
  | nil => intro r i _; rfl
  | cons x s ih =>
    intro r i h
    show ((mkB (s ++ r)).set x.1 _).get i = _
    rw [Tr.get_set,if_neg (h x (List.mem_cons_self ..)),ih r i (fun y hy => h y (List.mem_cons_of_mem _ hy))]
theorem has_mk {bl : List (Nat × List V)} {lo nx : Nat} (b : LayB bl lo nx) : Has (mkH bl nx) bl := by
  intro x hx
  refine ⟨?_,(b.rg x hx).2⟩
  obtain ⟨s,t,rfl⟩ := List.append_of_mem hx
  show (mkB (s ++ x :: t)).get x.1 = _
  have nd := b.nd
  rw [List.map_append,List.nodup_append] at nd
  rw [mkB_skip' _ _ _ (fun y hy e => nd.2.2 y.1 (List.mem_map.2 ⟨y,hy,rfl⟩) x.1 (by simp) e)]
  show ((mkB t).set x.1 _).get x.1 = _
  rw [Tr.get_set,if_pos rfl]
/-- a reading: cells,and what is said of them where the blocks are there -/
def Rd (r : Nat → Option Abs) (R : H → List V → Prop) : Prop := ∀ nx,∃ vs bl n1,r nx = some (vs,bl,n1) ∧ LayB bl nx n1 ∧ ∀ h,Has h bl → R h vs
inductive Al2 {α β : Type} (p : α → β → Prop) : List α → List β → Prop where
  | nil : Al2 p [] []
  | cons {a : α} {b : β} {as : List α} {bs : List β} : p a b → Al2 p as bs → Al2 p (a :: as) (b :: bs)
theorem Al2.len {α β : Type} {p : α → β → Prop} {as : List α} {bs : List β} (h : Al2 p as bs) : as.length = bs.length := by
  induction h with
  | nil => rfl
  | cons _ _ ih => simp [ih]
theorem Al2.imp {α β : Type} {p q : α → β → Prop} {as : List α} {bs : List β} (h : Al2 p as bs) (i : ∀ a b,p a b → q a b) : Al2 q as bs := by
  induction h with
  | nil => exact .nil
  | cons h _ ih => exact .cons (i _ _ h) ih
theorem Al2.get {α β : Type} {p : α → β → Prop} {as : List α} {bs : List β} (h : Al2 p as bs) : ∀ (i : Nat) (a : α),as[i]? = some a → ∃ b,bs[i]? = some b ∧ p a b := by
  induction h with
  | nil => intro i a h; simp at h
  | cons h1 _ ih =>
    intro i a h
    cases i with
    | zero => simp at h; subst h; exact ⟨_,rfl,h1⟩
    | succ i => simp at h; simpa using ih i a h
section
variable {Hh : Type} {enc : TypeId × Value → Hh} {P : Program} {W : World} {spare : Nat → Bool} {held : Bool} {base : Nat}
theorem rd_int (n : Nat) {t : TypeId} {k : IntKind} (hu : P.underlying t = some (.int k)) (x : Int) : Rd (absD (H := Hh) P (n + 1) t (.lit (.int k x))) (fun _ vs => vs = [.int k x]) := fun nx => ⟨_,[],nx,by simp only [absD,hu],.nil _,fun _ _ => rfl⟩
theorem rd_nil (n : Nat) {t e : TypeId} (hu : P.underlying t = some (.slice e)) : Rd (absD (H := Hh) P (n + 1) t .nil) (fun _ vs => vs = [.slice none 0 none (P.cellsOf e)]) := fun nx => ⟨_,[],nx,by simp only [absD,hu],.nil _,fun _ _ => rfl⟩
/-- bytes -/
def BytR (l : List Nat) (h : H) (vs : List V) : Prop := ∃ a,vs = [.slice a l.length none 1] ∧ SrcH h a 1 l
theorem trod_u8s' {t e : TypeId} (ht : P.underlying t = some (.slice e)) (he : P.underlying e = some (.int .u8)) (hc : P.cellsOf e = 1) {f : Nat} {cs : List Value} {x : DataW Hh × List MemPlace} (h : DataW.trod enc P W base spare held f t cs = some x) :
    ∃ l : List Nat,byt l = true ∧ (P.bytesOf e = 1 → ∀ B,(∀ n ∈ x.1.weights P t,n ≤ B) → l.length ≤ B) ∧ ∀ n,Rd (absD P (n + 2) t x.1) (BytR l) := by
  have go : ∀ (ys : List (DataW Hh × List MemPlace)),(∀ y ∈ ys,∃ (g : Nat) (c : List Value),DataW.trod enc P W base spare held g e c = some y) → ∃ l : List Nat,byt l = true ∧ ys.map (·.1) = l.map (fun (z : Nat) => DataW.lit (.int .u8 (z : Int))) := by
    intro ys
    induction ys with
    | nil => intro _; exact ⟨[],rfl,rfl⟩
    | cons y r ih =>
      intro hy
      obtain ⟨l,b,e1⟩ := ih (fun z hz => hy z (List.mem_cons_of_mem _ hz))
      obtain ⟨g,c,hg⟩ := hy y (List.mem_cons_self ..)
      obtain ⟨n,_,e2,w⟩ := DataW.trod_int he hg
      simp [Lit.wf,IntKind.min,IntKind.max,IntKind.signed,IntKind.bits] at w
      obtain ⟨z,rfl⟩ := Int.eq_ofNat_of_zero_le w.1
      refine ⟨z :: l,?_,by rw [List.map_cons,List.map_cons,e1,e2]⟩
      rw [byt_iff] at b ⊢
      intro q hq
      rcases List.mem_cons.1 hq with rfl | hq
      · have := w.2; omega
      · exact b q hq
  have lits : ∀ (l : List Nat) (n : Nat),Rd (absL (absD (H := Hh) P (n + 1) e) (l.map (fun (z : Nat) => DataW.lit (.int .u8 (z : Int))))) (fun _ vs => vs = ofI .u8 l) := by
    intro l n
    induction l with
    | nil => intro nx; exact ⟨[],[],nx,rfl,.nil _,fun _ _ => rfl⟩
    | cons y r ih =>
      intro nx
      obtain ⟨vs,bl,n1,e1,l1,k1⟩ := rd_int (Hh := Hh) n he (y : Int) nx
      obtain ⟨vs2,bl2,n2,e2,l2,k2⟩ := ih n1
      refine ⟨vs ++ vs2,bl ++ bl2,n2,by rw [List.map_cons]; simp only [absL,e1,e2],l1.app l2,fun h hh => ?_⟩
      rw [k1 h hh.l,k2 h hh.r]; rfl
  rcases DataW.trod_slice ht h with ⟨_,hx⟩ | ⟨ad,len,cap,elems,rest,n,_,_,hx,_,_,_,hl,hi,_,_⟩
  · refine ⟨[],rfl,(fun _ _ _ => Nat.zero_le _),fun n nx => ?_⟩
    rw [hx]
    obtain ⟨vs,bl,n1,e1,l1,k1⟩ := rd_nil (Hh := Hh) (n + 1) ht nx
    exact ⟨vs,bl,n1,e1,l1,fun h hh => ⟨none,by rw [k1 h hh,hc]; rfl,.inl rfl⟩⟩
  · obtain ⟨l,b,el⟩ := go elems (fun y hy => by
      obtain ⟨i,hi1,hi2⟩ := List.getElem_of_mem hy
      have hi3 : elems[i]? = some y := by rw [List.getElem?_eq_getElem hi1,hi2]
      have h4 := (hi i (by omega)).trans hi3
      simp only [Option.bind_eq_some_iff] at h4
      obtain ⟨cs,_,h5⟩ := h4
      exact ⟨_,_,h5⟩)
    refine ⟨l,b,fun hby B hB => ?_,fun n nx => ?_⟩
    · have ll : (elems.map (·.1)).length = l.length := by rw [el,List.length_map]
      have := hB (((elems.map (·.1)).length + (rest.map (·.1)).length) * P.bytesOf e) (by rw [hx]; simp [DataW.weights,ht])
      rw [hby] at this; omega
    rw [hx]
    show ∃ vs bl n1,absD P (n + 2) t (.slice (elems.map (·.1)) (rest.map (·.1))) nx = _ ∧ _
    obtain ⟨vs,bl,n1,e1,l1,k1⟩ := lits l n (nx + 1)
    have ll : (elems.map (·.1)).length = l.length := by rw [el,List.length_map]
    rw [← el] at e1
    cases hn : (elems.map (·.1)).length + (rest.map (·.1)).length with
    | zero =>
      have h0 : l = [] := List.length_eq_zero_iff.1 (by omega)
      refine ⟨[.slice (some (nx,0)) 0 none 1],[],n1,?_,⟨by have := l1.le; omega,(fun x hx => by cases hx),List.nodup_nil⟩,fun h _ => ⟨some (nx,0),by rw [h0]; rfl,.inl h0⟩⟩
      rw [absD_slc' (n + 1) ht,e1]
      simp only [hn,hc]
    | succ m =>
      refine ⟨[.slice (some (nx,0)) (elems.map (·.1)).length none 1],(nx,vs) :: bl,n1,?_,l1.one vs,fun h hh => ⟨some (nx,0),by rw [← ll],?_⟩⟩
      · rw [absD_slc' (n + 1) ht,e1]
        simp only [hn,hc]
      · obtain ⟨g,gl⟩ := hh (nx,vs) (List.mem_cons_self ..)
        have ev := k1 h (fun x hx => hh x (List.mem_cons_of_mem _ hx))
        simp only at g gl
        rw [ev] at g
        exact .inr ⟨nx,0,_,.ro,rfl,rfl,gl,g,by rw [ofI_len]; omega,by rw [List.drop_zero]; exact List.take_of_length_le (by rw [ofI_len]; exact Nat.le_refl _)⟩
end
/-- cells in pieces of k -/
theorem flat_len {k : Nat} : ∀ {ps : List (List V)},(∀ p ∈ ps,p.length = k) → ps.flatten.length = ps.length * k := by
  intro ps
  induction ps with
  | nil => intro _; simp
  | cons p r ih => intro h; rw [List.flatten_cons,List.length_append,ih (fun q hq => h q (List.mem_cons_of_mem _ hq)),h p (List.mem_cons_self ..),List.length_cons,Nat.succ_mul]; omega
theorem flat_get {k : Nat} : ∀ {ps : List (List V)},(∀ p ∈ ps,p.length = k) → ∀ (i : Nat) (p : List V),ps[i]? = some p → (ps.flatten.drop (i * k)).take k = p := by
  intro ps
  induction ps with
  | nil => intro _ i p h; simp at h
  | cons q r ih =>
    intro h i p hp
    have hq := h q (List.mem_cons_self ..)
    cases i with
    | zero => simp at hp; subst hp; rw [Nat.zero_mul,List.drop_zero,List.flatten_cons,List.take_left' hq]
    | succ i =>
      rw [List.flatten_cons,Nat.succ_mul,Nat.add_comm,← List.drop_drop,List.drop_left' hq]
      exact ih (fun x hx => h x (List.mem_cons_of_mem _ hx)) i p (by simpa using hp)
end Go.Eng
