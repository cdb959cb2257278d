/- What functions of the program come to: own work. -/
import Derived.Test.YtfopajklnakmpaaBtW
import Derived.Test.YtfopajklnakmpaaBtXf
namespace Go.Eng
open Go
variable {E : Nat → Option Fn} {X : Orc}
set_option linter.unusedSimpArgs false
set_option linter.unusedVariables false
structure EnRg (E : Nat → Option Fn) : Prop where
  rf : EnRf E
  nm : E k_purserref01_Number = some f_purserref01_Number
  gf : E k_purserref01_GetFixed = some f_purserref01_GetFixed
  gs : E k_purserref01_GetSize = some f_purserref01_GetSize
  gr : E k_purserref01_GetRaw = some f_purserref01_GetRaw
  gb : E k_purserref01_GetBytes = some f_purserref01_GetBytes
structure NoRg (X : Orc) : Prop where
  rf : NoRf X
  nm : ∀ a h,X (.fn k_purserref01_Number) a h = none
  gf : ∀ a h,X (.fn k_purserref01_GetFixed) a h = none
  gs : ∀ a h,X (.fn k_purserref01_GetSize) a h = none
  gr : ∀ a h,X (.fn k_purserref01_GetRaw) a h = none
  gb : ∀ a h,X (.fn k_purserref01_GetBytes) a h = none
theorem numV_snoc (a : List Nat) (b : Nat) : numV (a ++ [b]) = numV a + b * 256 ^ a.length := by
  induction a with
  | nil => show 0 * 256 + b = 0 + b * 1; omega
  | cons x r ih =>
    show numV (r ++ [b]) * 256 + x = (numV r * 256 + x) + b * 256 ^ (r.length + 1)
    rw [ih,Nat.pow_succ,Nat.add_mul,← Nat.mul_assoc]; omega
theorem takeD (l : List Nat) (i : Nat) (h : i < l.length) : l.take (i + 1) = l.take i ++ [l.getD i 0] := by
  rw [List.take_add_one,List.getElem?_eq_getElem h,List.getD_eq_getElem?_getD,List.getElem?_eq_getElem h]; rfl
structure RNI (a : Option (Nat × Nat)) (c : Option Nat) (ez : Nat) (l : List Nat) (h0 : H) (i : Nat) (T : Tr V) (h : H) : Prop where
  il : i ≤ l.length
  t0 : evO T (.t 0) = .slice a l.length c ez
  t3 : evO T (.t 3) = .int .u64 (numV (l.take i) : Nat)
  t4 : evO T (.t 4) = .int .i64 (i : Int)
  hh : h = h0
theorem rnumber_go (e : EnRg E) (x : NoRg X) (N : Nat) (a : Option (Nat × Nat)) (c : Option Nat) (ez : Nat) (l : List Nat) (bl : byt l = true) (hl : l.length ≤ 8) (h : H) (src : SrcH h a ez l) :
    callX E X (N + 20) (.fn k_purserref01_Number) [.slice a l.length c ez] h = some (.int .u64 (numV l : Nat),h) := by
  rw [x_cfn e.nm _ _ (Nat.le_of_ble_eq_true rfl) (x.nm _ _)]
  have fin : ∀ T,RNI a c ez l h 0 T h → fnEnd [.tmp 2] (bindE (blockE 0 (loopN (evC (callX E X (N + 19)) 22 (N + 19) none L_purserref01_Number_0) (N + 19) ⟨T,[],h⟩)) (evC (callX E X (N + 19)) 22 (N + 19) none R_purserref01_Number_0)) = some (.int .u64 (numV l : Nat),h) := by
    intro T I
    obtain ⟨T',h',r,t3,hh⟩ := loop_go (f := evC (callX E X (N + 19)) 22 (N + 19) none L_purserref01_Number_0) (RNI a c ez l h) l.length (.exit 0) (by intro h; cases h) (fun T h' => evO T (.t 3) = .int .u64 (numV l : Nat) ∧ h' = h) (fun i T h' hi I => by
      obtain ⟨_,t0,t3,t4,hh⟩ := I
      subst hh
      obtain ⟨bi,off,vs,md,rfl,rfl,h3,h4,h5,h6⟩ := src.resolve_left (fun h => by rw [h] at hi; cases hi)
      have c0 : decide ((i : Int) < (l.length : Int)) = true := decide_eq_true (by omega)
      have wi : wr .i64 ((i : Int) + 1) = ((i + 1 : Nat) : Int) := by rw [wr_i64 (by omega)]; omega
      have ix : idx (i : Int) l.length = some i := idxn hi
      have cg : vs[off + i]? = some (.int .u8 (l.getD i 0 : Nat)) := by
        have : ((vs.drop off).take l.length)[i]? = (ofI .u8 l)[i]? := by rw [h6]
        rw [List.getElem?_take_of_lt hi,List.getElem?_drop,ofI_get _ _ _ hi] at this
        exact this
      have r1 := power_go e.rf.pw x.rf.pw (N + 9) i (by omega) h'
      have ns : numV (l.take (i + 1)) = numV (l.take i) + l.getD i 0 * 256 ^ i := by
        rw [takeD l i hi,numV_snoc,List.length_take,Nat.min_eq_left (by omega)]
      have nl := numV_lt8 (l.take (i + 1)) (byt_take bl _) (by rw [List.length_take]; omega)
      have i1 : i + 1 ≤ l.length := hi
      obtain ⟨n2,en2⟩ : ∃ n,numV (l.take (i + 1)) = n := ⟨_,rfl⟩
      rw [en2] at ns nl
      have yl : l.getD i 0 < 256 := by
        rw [List.getD_eq_getElem?_getD,List.getElem?_eq_getElem hi]; exact byt_iff.1 bl _ (List.getElem_mem hi)
      generalize numV (l.take i) = n at *
      generalize l.getD i 0 = y at *
      generalize 256 ^ i = p at *
      obtain ⟨yp,eyp⟩ : ∃ z,y * p = z := ⟨_,rfl⟩
      rw [eyp] at ns
      have wy : wr .u64 (y : Int) = (y : Int) := u64n _ (by omega)
      have w1 : wr .u64 ((y : Int) * (p : Int)) = (yp : Int) := by rw [← eyp,← Int.natCast_mul,u64n _ (by omega)]
      have w2 : wr .u64 ((n : Int) + (yp : Int)) = (n2 : Int) := by rw [show (n : Int) + (yp : Int) = ((n2 : Nat) : Int) by omega]; exact u64n _ nl
      refine ⟨_,h',by
        simp (config := {maxSteps := 2000000}) (disch := first | omega | (simp only [List.length_cons,List.length_nil,List.length_append,List.length_drop]; omega)) only [L_purserref01_Number_0,t0,t3,t4,h4,cg,c0,wi,ix,r1,wy,w1,w2,vbeq_int,↓s_len,x_lenS,↓x_conv,x_convV,Nat.mul_one,↓s_evD,↓s_dnil,↓s_dL,↓s_dRj,↓s_dB,↓s_bindD,s_bindD,s_finDx,s_addP0,↓s_bump0,s_ok0,↓s_ok1,s_okR0,↓s_okR1,↓s_okE,s_okE,s_okE1,s_nth0,Bool.and_self,↓s_load,m_load,↓m_load1,m_load1,↓x_idxS,x_idxSE,x_addrE,x_lenS,↓s_len,↓s_skip,↓s_ops,↓s_dops,↓s_seq,↓s_cond,↓s_block,↓s_nil,↓s_op,↓s_bindS,s_bindS,↓s_bindE,s_bindE,s_norm,↓s_condV,s_condV,s_block_normal,↓s_getp,↓s_con,↓s_os0,↓s_os1,↓s_mov,↓s_bin,↓s_call,s_same,b_lss,b_add,b_mul,↓iteN_true,↓iteN_false,iteN_true,iteN_false,Nat.reduceEqDiff,decide_true,decide_false]
        exact rfl,⟨i1,(by (simp only [s_getp,Nat.reduceEqDiff,decide_false,iteN_false,t0]; try rfl)),by rw [en2]; exact (by (simp only [s_getp,Nat.reduceEqDiff,decide_false,decide_true,iteN_false,iteN_true]; try rfl)),(by (simp only [s_getp,decide_true,iteN_true]; try rfl)),rfl⟩⟩) (fun T h' I => by
      obtain ⟨il,t0,t3,t4,hh⟩ := I
      rw [List.take_length] at t3
      have c0 : decide ((l.length : Int) < (l.length : Int)) = false := decide_eq_false (by omega)
      refine ⟨_,_,by
        simp (config := {maxSteps := 2000000}) (disch := first | omega | (simp only [List.length_cons,List.length_nil,List.length_append,List.length_drop]; omega)) only [L_purserref01_Number_0,t0,t4,c0,↓s_len,x_lenS,x_lenS,↓s_len,↓s_ops,↓s_seq,↓s_cond,↓s_exit,↓s_nil,↓s_op,↓s_bindS,s_bindS,↓s_bindE,s_bindE,s_bindE_exit,s_norm,↓s_condV,s_condV,↓s_getp,↓s_mov,↓s_bin,s_same,b_lss,↓iteN_true,↓iteN_false,iteN_true,iteN_false,Nat.reduceEqDiff,decide_true,decide_false]
        exact rfl,(by (simp only [s_getp,Nat.reduceEqDiff,decide_false,iteN_false,t3]; try rfl)),hh⟩) l.length 0 (by omega) (N + 19) (by omega) T h I
    rw [r,hh]
    simp (config := {maxSteps := 2000000}) (disch := first | omega | (simp only [List.length_cons,List.length_nil,List.length_append,List.length_drop]; omega)) only [R_purserref01_Number_0,t3,s_res0,↓s_ops,↓s_seq,↓s_ret,↓s_nil,↓s_op,↓s_bindS,s_bindS,↓s_bindE,s_bindE,s_norm,s_block_exit,↓s_getp,↓s_mov,s_end,s_res0,s_res1,s_tup1,↓iteN_true,iteN_true,decide_true,if_true]
  obtain ⟨R,eR⟩ : ∃ R,R_purserref01_Number_0 = R := ⟨_,rfl⟩
  obtain ⟨Lo,eL⟩ : ∃ R,L_purserref01_Number_0 = R := ⟨_,rfl⟩
  rw [eR,eL] at fin ⊢
  simp (config := {maxSteps := 2000000}) (disch := first | omega | (simp only [List.length_cons,List.length_nil,List.length_append,List.length_drop]; omega)) only [↓l_loop,↓l_succ,↓s_ops,↓s_seq,↓s_block,↓s_nil,↓s_op,↓s_bindS,s_bindS,↓s_bindE,s_bindE,s_norm,↓s_con,↓s_list0,↓s_list1,↓s_mov]
  exact fin _ ⟨by omega,(by (simp only [s_getp,Nat.reduceEqDiff,decide_false,iteN_false]; try rfl)),by rw [List.take_zero]; show _ = V.int .u64 ((0 : Nat) : Int); exact (by (simp only [s_getp,Nat.reduceEqDiff,decide_false,decide_true,iteN_false,iteN_true]; try rfl)),(by (simp only [s_getp,decide_true,iteN_true]; try rfl)),rfl⟩
theorem rgetfix_go (e : EnRg E) (x : NoRg X) (N : Nat) (s : Int) (l : List Nat) (bl : byt l = true) (hl : l.length ≤ 100000000) (at_ : Nat) (hat : at_ ≤ l.length) (a : Option (Nat × Nat)) (h : H) (src : SrcH h a 1 l) :
    callX E X (N + 21) (.fn k_purserref01_GetFixed) [.slice a l.length none 1,.int .i64 (at_ : Int),.int .i64 s] h = some (.tup [.int .u64 ((eyFix s l at_).1 : Nat),.int .i64 ((eyFix s l at_).2.2 : Nat),.int .i64 ((eyFix s l at_).2.1 : Nat)],h) := by
  rw [x_cfn e.gf _ _ (Nat.le_of_ble_eq_true rfl) (x.gf _ _)]
  unfold eyFix
  cases hs : sizedI s with
  | false =>
    rw [if_neg (show ¬ (false = true) by simp)]
    unfold sizedI at hs
    simp only [Bool.or_eq_false_iff] at hs
    obtain ⟨q1,q2,q4,q8⟩ := hs
    simp (config := {maxSteps := 2000000}) (disch := first | omega | (simp only [List.length_cons,List.length_nil,List.length_append,List.length_drop]; omega)) only [q1,q2,q4,q8,Nat.zero_add,Nat.reduceAdd,Int.cast_ofNat_Int,s_res0,↓s_ops,↓s_seq,↓s_cond,↓s_ret,↓s_nil,↓s_op,↓s_opg,↓s_wanted',↓s_wantV,s_wantV,↓s_bindS,s_bindS,↓s_bindE,s_bindE,s_bindE_ret,s_norm,↓s_condV,s_condV,↓s_getp,↓s_get,↓s_con,↓s_list0,↓s_list1,↓s_mov,↓s_pick,↓s_pickE,s_pickE,↓s_bin,s_same,b_neq,s_end,s_res0,s_res1,s_tup2,↓iteN_true,↓iteN_false,iteN_true,iteN_false,Nat.zero_add,Nat.reduceEqDiff,decide_true,decide_false,Bool.not_false,beq_self_eq_true]
    try rfl
  | true =>
    obtain ⟨k,rfl,k0,k8,kk⟩ := sizedI_nat hs
    rw [if_pos rfl,Int.toNat_natCast]
    have dk : ∀ j : Nat,decide ((k : Int) = (j : Int)) = decide (k = j) := fun j => by rw [decide_eq_decide]; omega
    have d1 := dk 1
    have d2 := dk 2
    have d4 := dk 4
    have d8 := dk 8
    simp only [Int.cast_ofNat_Int] at d1 d2 d4 d8
    have hd : (decide (k = 1) || (decide (k = 2) || (decide (k = 4) || decide (k = 8)))) = true := by
      rcases kk with h | h | h | h <;> subst h <;> rfl
    have w1 : wr .i64 ((l.length : Int) - (at_ : Int)) = ((l.length - at_ : Nat) : Int) := by rw [wr_i64 (by omega)]; omega
    by_cases hn : at_ + k ≤ l.length
    · rw [if_pos hn]
      have c1 : decide (((l.length - at_ : Nat) : Int) < (k : Int)) = false := decide_eq_false (by omega)
      have w2 : wr .i64 ((at_ : Int) + (k : Int)) = ((at_ + k : Nat) : Int) := by rw [wr_i64 (by omega)]; omega
      have sv := slcV_lhA l.length at_ (at_ + k) a .i64 .i64 hn (by omega)
      rw [Nat.add_sub_cancel_left] at sv
      have lt : ((l.drop at_).take k).length = k := by rw [List.length_take,List.length_drop]; omega
      have r4 := rnumber_go e x N (upA a at_) none 1 ((l.drop at_).take k) (byt_take (byt_drop bl _) _) (by omega) h ((src.drop at_).take k).e1
      rw [lt] at r4
      generalize numV ((l.drop at_).take k) = n at *
      generalize l.length - at_ = d at *
      generalize l.length = L at *
      generalize at_ + k = ak at *
      generalize decide (k = 1) = b1 at *
      generalize decide (k = 2) = b2 at *
      generalize decide (k = 4) = b4 at *
      generalize decide (k = 8) = b8 at *
      cases b1 <;> cases b2 <;> cases b4 <;> cases b8 <;> first | (exfalso; revert hd; decide; done) | skip
      all_goals (simp (config := {maxSteps := 2000000}) (disch := first | omega | (simp only [List.length_cons,List.length_nil,List.length_append,List.length_drop]; omega)) only [d1,d2,d4,d8,w1,w2,c1,sv,r4,↓s_len,x_lenS,↓x_slcS,x_M0,x_M1,Nat.zero_add,x_lenS,↓s_len,Nat.reduceAdd,Int.cast_ofNat_Int,s_res0,↓s_skip,↓s_ops,↓s_seq,↓s_cond,↓s_ret,↓s_nil,↓s_op,↓s_opg,↓s_wanted',↓s_wantV,s_wantV,beq_true,↓s_bindS,s_bindS,↓s_bindE,s_bindE,s_norm,↓s_condV,s_condV,↓s_getp,↓s_get,↓s_con,↓s_os0,↓s_os1,↓s_list0,↓s_list1,↓s_mov,↓s_pick,↓s_pickE,s_pickE,↓s_bin,↓s_call,s_same,b_neq,b_lss,b_add,b_sub,s_end,s_res0,s_res1,s_tup2,↓iteN_true,↓iteN_false,iteN_true,iteN_false,Nat.zero_add,Nat.reduceEqDiff,decide_true,decide_false,Bool.not_true,Bool.not_false,beq_self_eq_true]; try rfl)
    · rw [if_neg hn]
      have c1 : decide (((l.length - at_ : Nat) : Int) < (k : Int)) = true := decide_eq_true (by omega)
      generalize l.length - at_ = d at *
      generalize l.length = L at *
      generalize decide (k = 1) = b1 at *
      generalize decide (k = 2) = b2 at *
      generalize decide (k = 4) = b4 at *
      generalize decide (k = 8) = b8 at *
      cases b1 <;> cases b2 <;> cases b4 <;> cases b8 <;> first | (exfalso; revert hd; decide; done) | skip
      all_goals (simp (config := {maxSteps := 2000000}) (disch := first | omega | (simp only [List.length_cons,List.length_nil,List.length_append,List.length_drop]; omega)) only [d1,d2,d4,d8,w1,c1,↓s_len,x_lenS,Nat.zero_add,x_lenS,↓s_len,Nat.reduceAdd,Int.cast_ofNat_Int,s_res0,↓s_skip,↓s_ops,↓s_seq,↓s_cond,↓s_ret,↓s_nil,↓s_op,↓s_opg,↓s_wanted',↓s_wantV,s_wantV,beq_true,↓s_bindS,s_bindS,↓s_bindE,s_bindE,s_bindE_ret,s_norm,↓s_condV,s_condV,↓s_getp,↓s_get,↓s_con,↓s_list0,↓s_list1,↓s_mov,↓s_pick,↓s_pickE,s_pickE,↓s_bin,s_same,b_neq,b_lss,b_sub,s_end,s_res0,s_res1,s_tup2,↓iteN_true,↓iteN_false,iteN_true,iteN_false,Nat.zero_add,Nat.reduceEqDiff,decide_true,decide_false,Bool.not_true,Bool.not_false,beq_self_eq_true]; try rfl)
theorem rgetraw_go (e : EnRg E) (x : NoRg X) (N : Nat) (n : Int) (l : List Nat) (hl : l.length ≤ 100000000) (at_ : Nat) (hat : at_ ≤ l.length) (a : Option (Nat × Nat)) (h : H) (src : SrcH h a 1 l) :
    ∃ h' a2 c2 e2,callX E X (N + 2) (.fn k_purserref01_GetRaw) [.slice a l.length none 1,.int .i64 (at_ : Int),.int .i64 n] h = some (.tup [.slice a2 (eyRaw n l at_).1.length c2 e2,.int .i64 ((eyRaw n l at_).2.2 : Nat),.int .i64 ((eyRaw n l at_).2.1 : Nat)],h') ∧ Nw h h' (eyRaw n l at_).1 a2 c2 e2 := by
  rw [x_cfn e.gr _ _ (Nat.le_of_ble_eq_true rfl) (x.gr _ _)]
  unfold eyRaw
  by_cases n0 : n < 0
  · rw [if_pos n0]
    have c0 : decide (n < 0) = true := decide_eq_true n0
    refine ⟨h,none,some 0,0,?_,⟨Kp.refl _,.nil _,fun _ _ e => by cases e⟩⟩
    rw [List.length_nil]
    simp (config := {maxSteps := 2000000}) (disch := first | omega | (simp only [List.length_cons,List.length_nil,List.length_append,List.length_drop]; omega)) only [c0,Nat.zero_add,Nat.reduceAdd,Int.cast_ofNat_Int,s_res0,↓s_ops,↓s_seq,↓s_cond,↓s_ret,↓s_nil,↓s_op,↓s_bindS,s_bindS,↓s_bindE,s_bindE,s_bindE_ret,s_norm,↓s_condV,s_condV,↓s_getp,↓s_get,↓s_con,↓s_list0,↓s_list1,↓s_mov,↓s_bin,s_same,b_lss,s_end,s_res0,s_res1,s_tup2,↓iteN_true,↓iteN_false,iteN_true,iteN_false,Nat.zero_add,Nat.reduceEqDiff,decide_true,decide_false]
    try rfl
  · rw [if_neg n0]
    have c0 : decide (n < 0) = false := decide_eq_false n0
    obtain ⟨k,rfl⟩ := Int.eq_ofNat_of_zero_le (show 0 ≤ n by omega)
    rw [Int.toNat_natCast]
    have w1 : wr .i64 ((l.length : Int) - (at_ : Int)) = ((l.length - at_ : Nat) : Int) := by rw [wr_i64 (by omega)]; omega
    by_cases hn : at_ + k ≤ l.length
    · rw [if_pos hn]
      have c1 : decide (((l.length - at_ : Nat) : Int) < (k : Int)) = false := decide_eq_false (by omega)
      have w2 : wr .i64 ((at_ : Int) + (k : Int)) = ((at_ + k : Nat) : Int) := by rw [wr_i64 (by omega)]; omega
      have sv := slcV_lhA l.length at_ (at_ + k) a .i64 .i64 hn (by omega)
      rw [Nat.add_sub_cancel_left] at sv
      have lt : ((l.drop at_).take k).length = k := by rw [List.length_take,List.length_drop]; omega
      obtain ⟨a2,c2,e2,h1,r4,nw⟩ := twinv_go e.rf.tw x.rf.tw N ((l.drop at_).take k) (by omega) (upA a at_) none 1 h ((src.drop at_).take k).e1
      rw [lt] at r4
      refine ⟨h1,a2,c2,e2,?_,nw⟩
      rw [lt]
      generalize l.length - at_ = d at *
      generalize l.length = L at *
      generalize at_ + k = ak at *
      simp (config := {maxSteps := 2000000}) (disch := first | omega | (simp only [List.length_cons,List.length_nil,List.length_append,List.length_drop]; omega)) only [c0,c1,w1,w2,sv,r4,↓s_len,x_lenS,↓x_slcS,x_M0,x_M1,Nat.zero_add,x_lenS,↓s_len,Nat.reduceAdd,Int.cast_ofNat_Int,s_res0,↓s_skip,↓s_ops,↓s_seq,↓s_cond,↓s_ret,↓s_nil,↓s_op,↓s_bindS,s_bindS,↓s_bindE,s_bindE,s_norm,↓s_condV,s_condV,↓s_getp,↓s_get,↓s_con,↓s_os0,↓s_os1,↓s_list0,↓s_list1,↓s_mov,↓s_bin,↓s_call,s_same,b_lss,b_gtr,b_add,b_sub,s_end,s_res0,s_res1,s_tup2,↓iteN_true,↓iteN_false,iteN_true,iteN_false,Nat.zero_add,Nat.reduceEqDiff,decide_true,decide_false]
      try rfl
    · rw [if_neg hn]
      have c1 : decide (((l.length - at_ : Nat) : Int) < (k : Int)) = true := decide_eq_true (by omega)
      refine ⟨h,none,some 0,0,?_,⟨Kp.refl _,.nil _,fun _ _ e => by cases e⟩⟩
      rw [List.length_nil]
      generalize l.length - at_ = d at *
      generalize l.length = L at *
      simp (config := {maxSteps := 2000000}) (disch := first | omega | (simp only [List.length_cons,List.length_nil,List.length_append,List.length_drop]; omega)) only [c0,c1,w1,↓s_len,x_lenS,Nat.zero_add,x_lenS,↓s_len,Nat.reduceAdd,Int.cast_ofNat_Int,s_res0,↓s_skip,↓s_ops,↓s_seq,↓s_cond,↓s_ret,↓s_nil,↓s_op,↓s_bindS,s_bindS,↓s_bindE,s_bindE,s_bindE_ret,s_norm,↓s_condV,s_condV,↓s_getp,↓s_get,↓s_con,↓s_list0,↓s_list1,↓s_mov,↓s_bin,s_same,b_lss,b_gtr,b_sub,s_end,s_res0,s_res1,s_tup2,↓iteN_true,↓iteN_false,iteN_true,iteN_false,Nat.zero_add,Nat.reduceEqDiff,decide_true,decide_false]
      try rfl
/-- the document's reading of a size,byte by byte -/
theorem siz_dec (l : List Nat) (bl : byt l = true) (at_ : Nat) (hat : at_ < l.length) :
    ∃ (k from_ : Nat),(∀ y,l.getD at_ 0 = y → (y = 253 ∧ k = 2 ∧ from_ = at_ + 1) ∨ (y = 254 ∧ k = 4 ∧ from_ = at_ + 1) ∨ (y = 255 ∧ k = 8 ∧ from_ = at_ + 1) ∨ (y ≠ 253 ∧ y ≠ 254 ∧ y ≠ 255 ∧ k = 1 ∧ from_ = at_)) ∧ from_ ≤ l.length ∧
      ((l.length < from_ + k ∧ eySiz l at_ = (0,10,at_)) ∨
       (from_ + k ≤ l.length ∧ eyFix k l from_ = (numV ((l.drop from_).take k),0,from_ + k) ∧
        ((sizV (numV ((l.drop from_).take k)) = (l.drop at_).take (from_ + k - at_) ∧ eySiz l at_ = (numV ((l.drop from_).take k),0,from_ + k)) ∨
         (sizV (numV ((l.drop from_).take k)) ≠ (l.drop at_).take (from_ + k - at_) ∧ eySiz l at_ = (0,10,at_))))) := by
  obtain ⟨y,r,er⟩ : ∃ y r,l.drop at_ = y :: r := ⟨_,_,List.drop_eq_getElem_cons hat⟩
  have ey : l.getD at_ 0 = y := by
    rw [List.getD_eq_getElem?_getD,← Nat.add_zero at_,← List.getElem?_drop,er]; rfl
  have lr : r.length = l.length - at_ - 1 := by
    have := congrArg List.length er
    rw [List.length_drop,List.length_cons] at this; omega
  have dr : l.drop (at_ + 1) = r := by rw [← List.drop_drop,er]; rfl
  have bd : byt (y :: r) = true := by rw [← er]; exact byt_drop bl _
  have yl := byt_iff.1 bd y (List.mem_cons_self ..)
  have br := byt_tail bd
  have szd : ∀ k : Nat,(k = 1 ∨ k = 2 ∨ k = 4 ∨ k = 8) → sizedI (k : Int) = true := fun k hk => by rcases hk with rfl | rfl | rfl | rfl <;> rfl
  have cm : ∀ k,folV y = k → comV (l.drop at_) = if r.length < k then none else if cplV (if k = 0 then y else numV (r.take k)) = 1 + k then some (if k = 0 then y else numV (r.take k),1 + k) else none := fun k hk => by rw [er]; unfold comV; simp only [hk]
  have big : ∀ k,folV y = k → (k = 2 ∨ k = 4 ∨ k = 8) → at_ + 1 ≤ l.length ∧
      ((l.length < at_ + 1 + k ∧ eySiz l at_ = (0,10,at_)) ∨
       (at_ + 1 + k ≤ l.length ∧ eyFix k l (at_ + 1) = (numV ((l.drop (at_ + 1)).take k),0,at_ + 1 + k) ∧
        ((sizV (numV ((l.drop (at_ + 1)).take k)) = (l.drop at_).take (at_ + 1 + k - at_) ∧ eySiz l at_ = (numV ((l.drop (at_ + 1)).take k),0,at_ + 1 + k)) ∨
         (sizV (numV ((l.drop (at_ + 1)).take k)) ≠ (l.drop at_).take (at_ + 1 + k - at_) ∧ eySiz l at_ = (0,10,at_))))) := by
    intro k hf hk
    have c := cm k hf
    refine ⟨hat,?_⟩
    by_cases hs : r.length < k
    · left
      refine ⟨by omega,?_⟩
      unfold eySiz
      rw [c,if_pos hs]
    · right
      rw [if_neg hs,if_neg (show ¬ k = 0 by omega)] at c
      have ef : eyFix (k : Int) l (at_ + 1) = (numV ((l.drop (at_ + 1)).take k),0,at_ + 1 + k) := by
        unfold eyFix
        rw [szd k (by omega),if_pos rfl,Int.toNat_natCast,if_pos (by omega)]
      refine ⟨by omega,ef,?_⟩
      rw [dr,show at_ + 1 + k - at_ = 1 + k by omega]
      by_cases hc : cplV (numV (r.take k)) = 1 + k
      · left
        rw [if_pos hc] at c
        obtain ⟨q1,_⟩ := com_siz _ (byt_drop bl at_) _ _ c
        refine ⟨q1,?_⟩
        unfold eySiz
        rw [c]
        show (_,0,at_ + (1 + k)) = _
        rw [show at_ + (1 + k) = at_ + 1 + k by omega]
      · right
        rw [if_neg hc] at c
        refine ⟨fun hq => hc ?_,?_⟩
        · have := congrArg List.length hq
          rw [sizV_len,List.length_take,List.length_drop] at this
          omega
        · unfold eySiz
          rw [c]
  rcases folV_c y with ⟨h1,h2⟩ | ⟨h1,h2⟩ | ⟨h1,h2⟩ | ⟨h1,h3,h4,h2⟩
  · obtain ⟨b1,b2⟩ := big 2 h2 (by omega)
    exact ⟨2,at_ + 1,fun z hz => .inl ⟨by omega,rfl,rfl⟩,b1,b2⟩
  · obtain ⟨b1,b2⟩ := big 4 h2 (by omega)
    exact ⟨4,at_ + 1,fun z hz => .inr (.inl ⟨by omega,rfl,rfl⟩),b1,b2⟩
  · obtain ⟨b1,b2⟩ := big 8 h2 (by omega)
    exact ⟨8,at_ + 1,fun z hz => .inr (.inr (.inl ⟨by omega,rfl,rfl⟩)),b1,b2⟩
  · have c := cm 0 h2
    have cp : cplV y = 1 := (cpl_lt y).1.2 (by omega)
    rw [if_neg (by omega),if_pos rfl,cp,if_pos rfl] at c
    refine ⟨1,at_,fun z hz => .inr (.inr (.inr ⟨by omega,by omega,by omega,rfl,rfl⟩)),by omega,.inr ⟨by omega,?_,.inl ⟨?_,?_⟩⟩⟩
    · unfold eyFix
      rw [szd 1 (by omega),if_pos rfl,Int.toNat_natCast,if_pos (by omega)]
    · have ny : numV ((l.drop at_).take 1) = y := by rw [er]; show 0 * 256 + y = y; omega
      rw [ny,Nat.add_sub_cancel_left,er]
      unfold sizV; rw [if_pos (by omega)]; rfl
    · have ny : numV ((l.drop at_).take 1) = y := by rw [er]; show 0 * 256 + y = y; omega
      unfold eySiz
      rw [c,ny]
theorem rgetsize_go (e : EnRg E) (x : NoRg X) (N : Nat) (l : List Nat) (bl : byt l = true) (hl : l.length ≤ 100000000) (at_ : Nat) (hat : at_ ≤ l.length) (a : Option (Nat × Nat)) (h : H) (src : SrcH h a 1 l) :
    ∃ h',callX E X (N + 22) (.fn k_purserref01_GetSize) [.slice a l.length none 1,.int .i64 (at_ : Int)] h = some (.tup [.int .u64 ((eySiz l at_).1 : Nat),.int .i64 ((eySiz l at_).2.2 : Nat),.int .i64 ((eySiz l at_).2.1 : Nat)],h') ∧ Kp h h' := by
  rw [x_cfn e.gs _ _ (Nat.le_of_ble_eq_true rfl) (x.gs _ _)]
  by_cases h0 : at_ = l.length
  · have c1 : decide ((l.length : Int) ≤ (at_ : Int)) = true := decide_eq_true (by omega)
    have es : eySiz l at_ = (0,10,at_) := by unfold eySiz; rw [List.drop_eq_nil_of_le (by omega)]; rfl
    rw [es]
    refine ⟨h,?_,Kp.refl _⟩
    generalize l.length = L at *
    simp (config := {maxSteps := 2000000}) (disch := first | omega | (simp only [List.length_cons,List.length_nil,List.length_append,List.length_drop]; omega)) only [c1,↓s_len,x_lenS,Nat.zero_add,x_lenS,↓s_len,Int.cast_ofNat_Int,s_res0,↓s_ops,↓s_seq,↓s_cond,↓s_ret,↓s_nil,↓s_op,↓s_bindS,s_bindS,↓s_bindE,s_bindE,s_bindE_ret,s_norm,↓s_condV,s_condV,↓s_getp,↓s_get,↓s_con,↓s_list0,↓s_list1,↓s_mov,↓s_bin,s_same,b_geq,s_end,s_res0,s_res1,s_tup2,↓iteN_true,↓iteN_false,iteN_true,iteN_false,Nat.zero_add,Nat.reduceEqDiff,decide_true,decide_false]
    try rfl
  · have hlt : at_ < l.length := by omega
    have c1 : decide ((l.length : Int) ≤ (at_ : Int)) = false := decide_eq_false (by omega)
    obtain ⟨k,fr,kf,hfr,cs⟩ := siz_dec l bl at_ hlt
    have src0 := src
    obtain ⟨bi,off,vs,md,rfl,_,h3,h4,h5,h6⟩ := src.resolve_left (fun h => by rw [h] at hlt; cases hlt)
    have cg : vs[off + at_]? = some (.int .u8 (l.getD at_ 0 : Nat)) := by
      have : ((vs.drop off).take l.length)[at_]? = (ofI .u8 l)[at_]? := by rw [h6]
      rw [List.getElem?_take_of_lt hlt,List.getElem?_drop,ofI_get _ _ _ hlt] at this
      exact this
    have ix : idx (at_ : Int) l.length = some at_ := idxn hlt
    have w1 : wr .i64 ((at_ : Int) + 1) = ((at_ + 1 : Nat) : Int) := by rw [wr_i64 (by omega)]; omega
    have r1 := rgetfix_go e x N (k : Int) l bl hl fr hfr (some (bi,off)) h src0
    have kf2 := kf _ rfl
    generalize l.getD at_ 0 = y at *
    have sq : ∀ z : Nat,decide ((y : Int) = (z : Int)) = decide (y = z) := fun z => by rw [decide_eq_decide]; omega
    have q1 := sq 253
    have q2 := sq 254
    have q3 := sq 255
    simp only [Int.cast_ofNat_Int] at q1 q2 q3
    have hk : (k = 1 ∨ k = 2 ∨ k = 4 ∨ k = 8) := by omega
    rcases cs with ⟨hsh,es⟩ | ⟨hfit,ef,cs⟩
    · have ef : eyFix (k : Int) l fr = (0,10,fr) := by
        unfold eyFix
        rw [show sizedI (k : Int) = true by rcases hk with rfl | rfl | rfl | rfl <;> rfl,if_pos rfl,Int.toNat_natCast,if_neg (by omega)]
      rw [ef] at r1
      rw [es]
      refine ⟨h,?_,Kp.refl _⟩
      replace r1 : callX E X (N + 21) (.fn k_purserref01_GetFixed) [.slice (some (bi,off)) l.length none 1,.int .i64 (fr : Int),.int .i64 (k : Int)] h = some (.tup [.int .u64 0,.int .i64 (fr : Int),.int .i64 10],h) := r1
      generalize l.length = L at *
      rcases kf2 with ⟨rfl,rfl,rfl⟩ | ⟨rfl,rfl,rfl⟩ | ⟨rfl,rfl,rfl⟩ | ⟨n1,n2,n3,rfl,rfl⟩
      · simp only [Int.cast_ofNat_Int] at r1 cg
        simp (config := {maxSteps := 2000000}) (disch := first | omega | (simp only [List.length_cons,List.length_nil,List.length_append,List.length_drop]; omega)) only [c1,h4,cg,ix,w1,r1,↓s_len,x_lenS,Nat.zero_add,Nat.mul_one,↓s_evD,↓s_dnil,↓s_dL,↓s_dLg,↓s_dRg,↓s_dRjg,↓s_dBg,↓s_bindD,s_bindD,s_finD,s_addP0,↓s_bump0,↓s_load,m_load,↓m_load1,m_load1,↓x_idxS,x_idxSE,x_addrE,x_lenS,↓s_len,Int.reduceEq,Int.cast_ofNat_Int,s_res0,↓s_skip,↓s_ops,↓s_dops,↓s_seq,↓s_cond,↓s_block,↓s_ret,↓s_nil,↓s_op,↓s_wanted',↓s_wantV,s_wantV,beq_false,↓s_bindS,s_bindS,↓s_bindE,s_bindE,s_bindE_ret,s_norm,↓s_condV,s_condV,s_block_normal,↓s_getp,↓s_get,↓s_con,↓s_os0,↓s_os1,↓s_list0,↓s_list1,↓s_mov,↓s_pick,↓s_pickE,s_pickE,↓s_bin,↓s_call,↓s_ext,s_same,b_eql,b_neq,b_geq,b_add,s_end,s_res0,s_res1,s_tup2,↓iteN_true,↓iteN_false,iteN_true,iteN_false,Nat.zero_add,Nat.reduceEqDiff,decide_true,decide_false,Bool.not_true,Bool.not_false,List.getElem?_cons_zero,List.getElem?_cons_succ]
        try rfl
      · simp only [Int.cast_ofNat_Int] at r1 cg
        simp (config := {maxSteps := 2000000}) (disch := first | omega | (simp only [List.length_cons,List.length_nil,List.length_append,List.length_drop]; omega)) only [c1,h4,cg,ix,w1,r1,↓s_len,x_lenS,Nat.zero_add,Nat.mul_one,↓s_evD,↓s_dnil,↓s_dL,↓s_dLg,↓s_dRg,↓s_dRjg,↓s_dBg,↓s_bindD,s_bindD,s_finD,s_addP0,↓s_bump0,↓s_load,m_load,↓m_load1,m_load1,↓x_idxS,x_idxSE,x_addrE,x_lenS,↓s_len,Int.reduceEq,Int.cast_ofNat_Int,s_res0,↓s_skip,↓s_ops,↓s_dops,↓s_seq,↓s_cond,↓s_block,↓s_ret,↓s_nil,↓s_op,↓s_wanted',↓s_wantV,s_wantV,beq_false,↓s_bindS,s_bindS,↓s_bindE,s_bindE,s_bindE_ret,s_norm,↓s_condV,s_condV,s_block_normal,↓s_getp,↓s_get,↓s_con,↓s_os0,↓s_os1,↓s_list0,↓s_list1,↓s_mov,↓s_pick,↓s_pickE,s_pickE,↓s_bin,↓s_call,↓s_ext,s_same,b_eql,b_neq,b_geq,b_add,s_end,s_res0,s_res1,s_tup2,↓iteN_true,↓iteN_false,iteN_true,iteN_false,Nat.zero_add,Nat.reduceEqDiff,decide_true,decide_false,Bool.not_true,Bool.not_false,List.getElem?_cons_zero,List.getElem?_cons_succ]
        try rfl
      · simp only [Int.cast_ofNat_Int] at r1 cg
        simp (config := {maxSteps := 2000000}) (disch := first | omega | (simp only [List.length_cons,List.length_nil,List.length_append,List.length_drop]; omega)) only [c1,h4,cg,ix,w1,r1,↓s_len,x_lenS,Nat.zero_add,Nat.mul_one,↓s_evD,↓s_dnil,↓s_dL,↓s_dLg,↓s_dRg,↓s_dRjg,↓s_dBg,↓s_bindD,s_bindD,s_finD,s_addP0,↓s_bump0,↓s_load,m_load,↓m_load1,m_load1,↓x_idxS,x_idxSE,x_addrE,x_lenS,↓s_len,Int.reduceEq,Int.cast_ofNat_Int,s_res0,↓s_skip,↓s_ops,↓s_dops,↓s_seq,↓s_cond,↓s_block,↓s_ret,↓s_nil,↓s_op,↓s_wanted',↓s_wantV,s_wantV,beq_false,↓s_bindS,s_bindS,↓s_bindE,s_bindE,s_bindE_ret,s_norm,↓s_condV,s_condV,s_block_normal,↓s_getp,↓s_get,↓s_con,↓s_os0,↓s_os1,↓s_list0,↓s_list1,↓s_mov,↓s_pick,↓s_pickE,s_pickE,↓s_bin,↓s_call,↓s_ext,s_same,b_eql,b_neq,b_geq,b_add,s_end,s_res0,s_res1,s_tup2,↓iteN_true,↓iteN_false,iteN_true,iteN_false,Nat.zero_add,Nat.reduceEqDiff,decide_true,decide_false,Bool.not_true,Bool.not_false,List.getElem?_cons_zero,List.getElem?_cons_succ]
        try rfl
      · rw [decide_eq_false n1] at q1
        rw [decide_eq_false n2] at q2
        rw [decide_eq_false n3] at q3
        simp only [Int.cast_ofNat_Int] at r1
        simp (config := {maxSteps := 2000000}) (disch := first | omega | (simp only [List.length_cons,List.length_nil,List.length_append,List.length_drop]; omega)) only [c1,h4,cg,ix,w1,q1,q2,q3,r1,↓s_len,x_lenS,Nat.zero_add,Nat.mul_one,↓s_evD,↓s_dnil,↓s_dL,↓s_dLg,↓s_dRg,↓s_dRjg,↓s_dBg,↓s_bindD,s_bindD,s_finD,s_addP0,↓s_bump0,↓s_load,m_load,↓m_load1,m_load1,↓x_idxS,x_idxSE,x_addrE,x_lenS,↓s_len,Int.reduceEq,Int.cast_ofNat_Int,s_res0,↓s_skip,↓s_ops,↓s_dops,↓s_seq,↓s_cond,↓s_block,↓s_ret,↓s_nil,↓s_op,↓s_wanted',↓s_wantV,s_wantV,beq_false,↓s_bindS,s_bindS,↓s_bindE,s_bindE,s_bindE_ret,s_norm,↓s_condV,s_condV,s_block_normal,↓s_getp,↓s_get,↓s_con,↓s_os0,↓s_os1,↓s_list0,↓s_list1,↓s_mov,↓s_pick,↓s_pickE,s_pickE,↓s_bin,↓s_call,↓s_ext,s_same,b_eql,b_neq,b_geq,b_add,s_end,s_res0,s_res1,s_tup2,↓iteN_true,↓iteN_false,iteN_true,iteN_false,Nat.zero_add,Nat.reduceEqDiff,decide_true,decide_false,Bool.not_true,Bool.not_false,List.getElem?_cons_zero,List.getElem?_cons_succ]
        try rfl
    · rw [ef] at r1
      have sl := slcV_lhA l.length at_ (fr + k) (some (bi,off)) .i64 .i64 hfit (by omega)
      have nb : numV ((l.drop fr).take k) < 18446744073709551616 := numV_lt8 _ (byt_take (byt_drop bl _) _) (by rw [List.length_take]; omega)
      have ltk : ((l.drop at_).take (fr + k - at_)).length = fr + k - at_ := by rw [List.length_take,List.length_drop]; omega
      have st2 := fun hh (k' : Kp h hh) => str_src ((((src0.drop at_).take (fr + k - at_)).e1).mono k') (byt_take (byt_drop bl _) _) none
      simp only [ltk] at st2
      obtain ⟨n,en⟩ : ∃ n,numV ((l.drop fr).take k) = n := ⟨_,rfl⟩
      rw [en] at r1 cs nb
      obtain ⟨h1,a1,d1,z1,r2,k1,sz,_⟩ := rsize_go e.rf x.rf N n nb h
      have st1 := str_src sz.src (sizV_byt n) d1
      have s20 := st2 h (Kp.refl _)
      have s21 := st2 h1 k1
      replace r1 : callX E X (N + 21) (.fn k_purserref01_GetFixed) [.slice (some (bi,off)) l.length none 1,.int .i64 (fr : Int),.int .i64 (k : Int)] h = some (.tup [.int .u64 (n : Int),.int .i64 ((fr + k : Nat) : Int),.int .i64 0],h) := r1
      generalize (l.drop at_).take (fr + k - at_) = D at *
      obtain ⟨sv,esv⟩ : ∃ s,sizV n = s := ⟨_,rfl⟩
      rw [esv] at r2 st1 cs
      obtain ⟨w,ew⟩ : ∃ w,fr + k - at_ = w := ⟨_,rfl⟩
      rw [ew] at sl s20 s21
      obtain ⟨SL,eSL⟩ : ∃ w,sv.length = w := ⟨_,rfl⟩
      rw [eSL] at r2 st1
      have dd : decide (sv = D) = decide (sv = D) := rfl
      rcases cs with ⟨hq,es⟩ | ⟨hq,es⟩
      · rw [es]
        rw [hq] at st1
        refine ⟨h1,?_,k1⟩
        generalize l.length = L at *
        generalize hz : fr + k = z at *
        rcases kf2 with ⟨rfl,rfl,rfl⟩ | ⟨rfl,rfl,rfl⟩ | ⟨rfl,rfl,rfl⟩ | ⟨n1,n2,n3,rfl,rfl⟩
        · simp only [Int.cast_ofNat_Int] at r1 cg
          simp (config := {maxSteps := 2000000}) (disch := first | omega | (simp only [List.length_cons,List.length_nil,List.length_append,List.length_drop]; omega)) only [c1,h4,cg,ix,w1,r1,r2,st1,s20,s21,sl,vbeq_str,b_sneq,↓ns_b2s,↓s_len,x_lenS,↓x_slcS,x_M0,x_M1,Nat.zero_add,Nat.mul_one,↓s_evD,↓s_dnil,↓s_dL,↓s_dLg,↓s_dRg,↓s_dRjg,↓s_dBg,↓s_bindD,s_bindD,s_finDx,s_addP0,↓s_bump0,s_ok0,↓s_ok1,s_okR0,↓s_okR1,↓s_okE,s_okE,s_okE1,s_nth0,s_nthS,Bool.and_self,↓s_load,m_load,↓m_load1,m_load1,↓x_idxS,x_idxSE,x_addrE,x_lenS,↓s_len,Int.cast_ofNat_Int,s_res0,↓s_skip,↓s_ops,↓s_dops,↓s_seq,↓s_cond,↓s_block,↓s_ret,↓s_nil,↓s_op,↓s_wanted',↓s_wantV,s_wantV,↓s_bindS,s_bindS,↓s_bindE,s_bindE,s_norm,↓s_condV,s_condV,s_block_normal,↓s_getp,↓s_get,↓s_con,↓s_os0,↓s_os1,↓s_list0,↓s_list1,↓s_mov,↓s_pick,↓s_pickE,s_pickE,↓s_bin,↓s_call,↓s_ext,s_same,b_eql,b_neq,b_geq,b_add,s_end,s_res0,s_res1,s_tup2,↓iteN_true,↓iteN_false,iteN_true,iteN_false,Nat.zero_add,Nat.reduceEqDiff,decide_true,decide_false,Bool.not_true,List.getElem?_cons_zero,List.getElem?_cons_succ,beq_self_eq_true]
          try rfl
        · simp only [Int.cast_ofNat_Int] at r1 cg
          simp (config := {maxSteps := 2000000}) (disch := first | omega | (simp only [List.length_cons,List.length_nil,List.length_append,List.length_drop]; omega)) only [c1,h4,cg,ix,w1,r1,r2,st1,s20,s21,sl,vbeq_str,b_sneq,↓ns_b2s,↓s_len,x_lenS,↓x_slcS,x_M0,x_M1,Nat.zero_add,Nat.mul_one,↓s_evD,↓s_dnil,↓s_dL,↓s_dLg,↓s_dRg,↓s_dRjg,↓s_dBg,↓s_bindD,s_bindD,s_finDx,s_addP0,↓s_bump0,s_ok0,↓s_ok1,s_okR0,↓s_okR1,↓s_okE,s_okE,s_okE1,s_nth0,s_nthS,Bool.and_self,↓s_load,m_load,↓m_load1,m_load1,↓x_idxS,x_idxSE,x_addrE,x_lenS,↓s_len,Int.reduceEq,Int.cast_ofNat_Int,s_res0,↓s_skip,↓s_ops,↓s_dops,↓s_seq,↓s_cond,↓s_block,↓s_ret,↓s_nil,↓s_op,↓s_wanted',↓s_wantV,s_wantV,↓s_bindS,s_bindS,↓s_bindE,s_bindE,s_norm,↓s_condV,s_condV,s_block_normal,↓s_getp,↓s_get,↓s_con,↓s_os0,↓s_os1,↓s_list0,↓s_list1,↓s_mov,↓s_pick,↓s_pickE,s_pickE,↓s_bin,↓s_call,↓s_ext,s_same,b_eql,b_neq,b_geq,b_add,s_end,s_res0,s_res1,s_tup2,↓iteN_true,↓iteN_false,iteN_true,iteN_false,Nat.zero_add,Nat.reduceEqDiff,decide_true,decide_false,Bool.not_true,List.getElem?_cons_zero,List.getElem?_cons_succ,beq_self_eq_true]
          try rfl
        · simp only [Int.cast_ofNat_Int] at r1 cg
          simp (config := {maxSteps := 2000000}) (disch := first | omega | (simp only [List.length_cons,List.length_nil,List.length_append,List.length_drop]; omega)) only [c1,h4,cg,ix,w1,r1,r2,st1,s20,s21,sl,vbeq_str,b_sneq,↓ns_b2s,↓s_len,x_lenS,↓x_slcS,x_M0,x_M1,Nat.zero_add,Nat.mul_one,↓s_evD,↓s_dnil,↓s_dL,↓s_dLg,↓s_dRg,↓s_dRjg,↓s_dBg,↓s_bindD,s_bindD,s_finDx,s_addP0,↓s_bump0,s_ok0,↓s_ok1,s_okR0,↓s_okR1,↓s_okE,s_okE,s_okE1,s_nth0,s_nthS,Bool.and_self,↓s_load,m_load,↓m_load1,m_load1,↓x_idxS,x_idxSE,x_addrE,x_lenS,↓s_len,Int.reduceEq,Int.cast_ofNat_Int,s_res0,↓s_skip,↓s_ops,↓s_dops,↓s_seq,↓s_cond,↓s_block,↓s_ret,↓s_nil,↓s_op,↓s_wanted',↓s_wantV,s_wantV,↓s_bindS,s_bindS,↓s_bindE,s_bindE,s_norm,↓s_condV,s_condV,s_block_normal,↓s_getp,↓s_get,↓s_con,↓s_os0,↓s_os1,↓s_list0,↓s_list1,↓s_mov,↓s_pick,↓s_pickE,s_pickE,↓s_bin,↓s_call,↓s_ext,s_same,b_eql,b_neq,b_geq,b_add,s_end,s_res0,s_res1,s_tup2,↓iteN_true,↓iteN_false,iteN_true,iteN_false,Nat.zero_add,Nat.reduceEqDiff,decide_true,decide_false,Bool.not_true,List.getElem?_cons_zero,List.getElem?_cons_succ,beq_self_eq_true]
          try rfl
        · rw [decide_eq_false n1] at q1
          rw [decide_eq_false n2] at q2
          rw [decide_eq_false n3] at q3
          simp only [Int.cast_ofNat_Int] at r1
          simp (config := {maxSteps := 2000000}) (disch := first | omega | (simp only [List.length_cons,List.length_nil,List.length_append,List.length_drop]; omega)) only [c1,h4,cg,ix,w1,q1,q2,q3,r1,r2,st1,s20,s21,sl,vbeq_str,b_sneq,↓ns_b2s,↓s_len,x_lenS,↓x_slcS,x_M0,x_M1,Nat.zero_add,Nat.mul_one,↓s_evD,↓s_dnil,↓s_dL,↓s_dLg,↓s_dRg,↓s_dRjg,↓s_dBg,↓s_bindD,s_bindD,s_finDx,s_addP0,↓s_bump0,s_ok0,↓s_ok1,s_okR0,↓s_okR1,↓s_okE,s_okE,s_okE1,s_nth0,s_nthS,Bool.and_self,↓s_load,m_load,↓m_load1,m_load1,↓x_idxS,x_idxSE,x_addrE,x_lenS,↓s_len,Int.cast_ofNat_Int,s_res0,↓s_skip,↓s_ops,↓s_dops,↓s_seq,↓s_cond,↓s_block,↓s_ret,↓s_nil,↓s_op,↓s_wanted',↓s_wantV,s_wantV,↓s_bindS,s_bindS,↓s_bindE,s_bindE,s_norm,↓s_condV,s_condV,s_block_normal,↓s_getp,↓s_get,↓s_con,↓s_os0,↓s_os1,↓s_list0,↓s_list1,↓s_mov,↓s_pick,↓s_pickE,s_pickE,↓s_bin,↓s_call,↓s_ext,s_same,b_eql,b_neq,b_geq,b_add,s_end,s_res0,s_res1,s_tup2,↓iteN_true,↓iteN_false,iteN_true,iteN_false,Nat.zero_add,Nat.reduceEqDiff,decide_true,decide_false,Bool.not_true,List.getElem?_cons_zero,List.getElem?_cons_succ,beq_self_eq_true]
          try rfl
      · rw [es]
        have dq : decide (sv = D) = false := decide_eq_false hq
        refine ⟨h1,?_,k1⟩
        generalize l.length = L at *
        generalize hz : fr + k = z at *
        rcases kf2 with ⟨rfl,rfl,rfl⟩ | ⟨rfl,rfl,rfl⟩ | ⟨rfl,rfl,rfl⟩ | ⟨n1,n2,n3,rfl,rfl⟩
        · simp only [Int.cast_ofNat_Int] at r1 cg
          simp (config := {maxSteps := 2000000}) (disch := first | omega | (simp only [List.length_cons,List.length_nil,List.length_append,List.length_drop]; omega)) only [c1,h4,cg,ix,w1,r1,r2,st1,s20,s21,sl,dq,vbeq_str,b_sneq,↓ns_b2s,↓s_len,x_lenS,↓x_slcS,x_M0,x_M1,Nat.zero_add,Nat.mul_one,↓s_evD,↓s_dnil,↓s_dL,↓s_dLg,↓s_dRg,↓s_dRjg,↓s_dBg,↓s_bindD,s_bindD,s_finDx,s_addP0,↓s_bump0,s_ok0,↓s_ok1,s_okR0,↓s_okR1,↓s_okE,s_okE,s_okE1,s_nth0,s_nthS,Bool.and_self,↓s_load,m_load,↓m_load1,m_load1,↓x_idxS,x_idxSE,x_addrE,x_lenS,↓s_len,Int.cast_ofNat_Int,s_res0,↓s_skip,↓s_ops,↓s_dops,↓s_seq,↓s_cond,↓s_block,↓s_ret,↓s_nil,↓s_op,↓s_wanted',↓s_wantV,s_wantV,↓s_bindS,s_bindS,↓s_bindE,s_bindE,s_bindE_ret,s_norm,↓s_condV,s_condV,s_block_normal,↓s_getp,↓s_get,↓s_con,↓s_os0,↓s_os1,↓s_list0,↓s_list1,↓s_mov,↓s_pick,↓s_pickE,s_pickE,↓s_bin,↓s_call,↓s_ext,s_same,b_eql,b_neq,b_geq,b_add,s_end,s_res0,s_res1,s_tup2,↓iteN_true,↓iteN_false,iteN_true,iteN_false,Nat.zero_add,Nat.reduceEqDiff,decide_true,decide_false,Bool.not_true,Bool.not_false,List.getElem?_cons_zero,List.getElem?_cons_succ,beq_self_eq_true]
          try rfl
        · simp only [Int.cast_ofNat_Int] at r1 cg
          simp (config := {maxSteps := 2000000}) (disch := first | omega | (simp only [List.length_cons,List.length_nil,List.length_append,List.length_drop]; omega)) only [c1,h4,cg,ix,w1,r1,r2,st1,s20,s21,sl,dq,vbeq_str,b_sneq,↓ns_b2s,↓s_len,x_lenS,↓x_slcS,x_M0,x_M1,Nat.zero_add,Nat.mul_one,↓s_evD,↓s_dnil,↓s_dL,↓s_dLg,↓s_dRg,↓s_dRjg,↓s_dBg,↓s_bindD,s_bindD,s_finDx,s_addP0,↓s_bump0,s_ok0,↓s_ok1,s_okR0,↓s_okR1,↓s_okE,s_okE,s_okE1,s_nth0,s_nthS,Bool.and_self,↓s_load,m_load,↓m_load1,m_load1,↓x_idxS,x_idxSE,x_addrE,x_lenS,↓s_len,Int.reduceEq,Int.cast_ofNat_Int,s_res0,↓s_skip,↓s_ops,↓s_dops,↓s_seq,↓s_cond,↓s_block,↓s_ret,↓s_nil,↓s_op,↓s_wanted',↓s_wantV,s_wantV,↓s_bindS,s_bindS,↓s_bindE,s_bindE,s_bindE_ret,s_norm,↓s_condV,s_condV,s_block_normal,↓s_getp,↓s_get,↓s_con,↓s_os0,↓s_os1,↓s_list0,↓s_list1,↓s_mov,↓s_pick,↓s_pickE,s_pickE,↓s_bin,↓s_call,↓s_ext,s_same,b_eql,b_neq,b_geq,b_add,s_end,s_res0,s_res1,s_tup2,↓iteN_true,↓iteN_false,iteN_true,iteN_false,Nat.zero_add,Nat.reduceEqDiff,decide_true,decide_false,Bool.not_true,Bool.not_false,List.getElem?_cons_zero,List.getElem?_cons_succ,beq_self_eq_true]
          try rfl
        · simp only [Int.cast_ofNat_Int] at r1 cg
          simp (config := {maxSteps := 2000000}) (disch := first | omega | (simp only [List.length_cons,List.length_nil,List.length_append,List.length_drop]; omega)) only [c1,h4,cg,ix,w1,r1,r2,st1,s20,s21,sl,dq,vbeq_str,b_sneq,↓ns_b2s,↓s_len,x_lenS,↓x_slcS,x_M0,x_M1,Nat.zero_add,Nat.mul_one,↓s_evD,↓s_dnil,↓s_dL,↓s_dLg,↓s_dRg,↓s_dRjg,↓s_dBg,↓s_bindD,s_bindD,s_finDx,s_addP0,↓s_bump0,s_ok0,↓s_ok1,s_okR0,↓s_okR1,↓s_okE,s_okE,s_okE1,s_nth0,s_nthS,Bool.and_self,↓s_load,m_load,↓m_load1,m_load1,↓x_idxS,x_idxSE,x_addrE,x_lenS,↓s_len,Int.reduceEq,Int.cast_ofNat_Int,s_res0,↓s_skip,↓s_ops,↓s_dops,↓s_seq,↓s_cond,↓s_block,↓s_ret,↓s_nil,↓s_op,↓s_wanted',↓s_wantV,s_wantV,↓s_bindS,s_bindS,↓s_bindE,s_bindE,s_bindE_ret,s_norm,↓s_condV,s_condV,s_block_normal,↓s_getp,↓s_get,↓s_con,↓s_os0,↓s_os1,↓s_list0,↓s_list1,↓s_mov,↓s_pick,↓s_pickE,s_pickE,↓s_bin,↓s_call,↓s_ext,s_same,b_eql,b_neq,b_geq,b_add,s_end,s_res0,s_res1,s_tup2,↓iteN_true,↓iteN_false,iteN_true,iteN_false,Nat.zero_add,Nat.reduceEqDiff,decide_true,decide_false,Bool.not_true,Bool.not_false,List.getElem?_cons_zero,List.getElem?_cons_succ,beq_self_eq_true]
          try rfl
        · rw [decide_eq_false n1] at q1
          rw [decide_eq_false n2] at q2
          rw [decide_eq_false n3] at q3
          simp only [Int.cast_ofNat_Int] at r1
          simp (config := {maxSteps := 2000000}) (disch := first | omega | (simp only [List.length_cons,List.length_nil,List.length_append,List.length_drop]; omega)) only [c1,h4,cg,ix,w1,q1,q2,q3,r1,r2,st1,s20,s21,sl,dq,vbeq_str,b_sneq,↓ns_b2s,↓s_len,x_lenS,↓x_slcS,x_M0,x_M1,Nat.zero_add,Nat.mul_one,↓s_evD,↓s_dnil,↓s_dL,↓s_dLg,↓s_dRg,↓s_dRjg,↓s_dBg,↓s_bindD,s_bindD,s_finDx,s_addP0,↓s_bump0,s_ok0,↓s_ok1,s_okR0,↓s_okR1,↓s_okE,s_okE,s_okE1,s_nth0,s_nthS,Bool.and_self,↓s_load,m_load,↓m_load1,m_load1,↓x_idxS,x_idxSE,x_addrE,x_lenS,↓s_len,Int.cast_ofNat_Int,s_res0,↓s_skip,↓s_ops,↓s_dops,↓s_seq,↓s_cond,↓s_block,↓s_ret,↓s_nil,↓s_op,↓s_wanted',↓s_wantV,s_wantV,↓s_bindS,s_bindS,↓s_bindE,s_bindE,s_bindE_ret,s_norm,↓s_condV,s_condV,s_block_normal,↓s_getp,↓s_get,↓s_con,↓s_os0,↓s_os1,↓s_list0,↓s_list1,↓s_mov,↓s_pick,↓s_pickE,s_pickE,↓s_bin,↓s_call,↓s_ext,s_same,b_eql,b_neq,b_geq,b_add,s_end,s_res0,s_res1,s_tup2,↓iteN_true,↓iteN_false,iteN_true,iteN_false,Nat.zero_add,Nat.reduceEqDiff,decide_true,decide_false,Bool.not_true,Bool.not_false,List.getElem?_cons_zero,List.getElem?_cons_succ,beq_self_eq_true]
          try rfl
end Go.Eng
namespace Go.Eng
open Go
variable {E : Nat → Option Fn} {X : Orc}
set_option linter.unusedSimpArgs false
set_option linter.unusedVariables false
theorem rgetbyt_go (e : EnRg E) (x : NoRg X) (N : Nat) (most : Int) (hm : most < 9223372036854775808) (l : List Nat) (bl : byt l = true) (hl : l.length ≤ 100000000) (at_ : Nat) (hat : at_ ≤ l.length) (a : Option (Nat × Nat)) (h : H) (src : SrcH h a 1 l) :
    ∃ h' a2 c2 e2,callX E X (N + 23) (.fn k_purserref01_GetBytes) [.slice a l.length none 1,.int .i64 (at_ : Int),.int .i64 most] h = some (.tup [.slice a2 (eyByt most l at_).1.length c2 e2,.int .i64 ((eyByt most l at_).2.2 : Nat),.int .i64 ((eyByt most l at_).2.1 : Nat)],h') ∧ Nw h h' (eyByt most l at_).1 a2 c2 e2 := by
  rw [x_cfn e.gb _ _ (Nat.le_of_ble_eq_true rfl) (x.gb _ _)]
  obtain ⟨h1,r1,k1⟩ := rgetsize_go e x N l bl hl at_ hat a h src
  unfold eyByt
  unfold eySiz at r1
  cases hc : comV (l.drop at_) with
  | none =>
    rw [hc] at r1
    simp only at r1 ⊢
    refine ⟨h1,none,some 0,0,?_,⟨k1,.nil _,fun _ _ e => by cases e⟩⟩
    rw [List.length_nil]
    replace r1 : callX E X (N + 22) (.fn k_purserref01_GetSize) [.slice a l.length none 1,.int .i64 (at_ : Int)] h = some (.tup [.int .u64 0,.int .i64 (at_ : Int),.int .i64 10],h1) := r1
    generalize l.length = L at *
    simp (config := {maxSteps := 2000000}) (disch := first | omega | (simp only [List.length_cons,List.length_nil,List.length_append,List.length_drop]; omega)) only [r1,Nat.zero_add,Nat.reduceAdd,Int.reduceEq,Int.cast_ofNat_Int,s_res0,↓s_ops,↓s_seq,↓s_cond,↓s_ret,↓s_nil,↓s_op,↓s_opg,↓s_wanted',↓s_wantV,s_wantV,beq_false,↓s_bindS,s_bindS,↓s_bindE,s_bindE,s_bindE_ret,s_norm,↓s_condV,s_condV,↓s_getp,↓s_get,↓s_con,↓s_os0,↓s_os1,↓s_list0,↓s_list1,↓s_mov,↓s_pick,↓s_pickE,s_pickE,↓s_bin,↓s_call,↓s_ext,s_same,b_neq,s_end,s_res0,s_res1,s_tup2,↓iteN_true,↓iteN_false,iteN_true,iteN_false,Nat.zero_add,Nat.reduceEqDiff,decide_true,decide_false,Bool.not_true,Bool.not_false,List.getElem?_cons_zero,List.getElem?_cons_succ]
    try rfl
  | some z =>
    obtain ⟨n,u⟩ := z
    obtain ⟨_,eu,hu,nl⟩ := com_siz _ (byt_drop bl at_) n u hc
    rw [hc] at r1
    simp only at r1 ⊢
    rw [List.length_drop] at hu
    have u0 : 0 < u := by rw [eu]; unfold cplV; split <;> (try split) <;> (try split) <;> omega
    replace r1 : callX E X (N + 22) (.fn k_purserref01_GetSize) [.slice a l.length none 1,.int .i64 (at_ : Int)] h = some (.tup [.int .u64 (n : Int),.int .i64 ((at_ + u : Nat) : Int),.int .i64 0],h1) := r1
    by_cases m0 : most < 0
    · rw [if_pos (.inl m0)]
      have c0 : decide (most < 0) = true := decide_eq_true m0
      refine ⟨h1,none,some 0,0,?_,⟨k1,.nil _,fun _ _ e => by cases e⟩⟩
      rw [List.length_nil]
      generalize l.length = L at *
      simp (config := {maxSteps := 2000000}) (disch := first | omega | (simp only [List.length_cons,List.length_nil,List.length_append,List.length_drop]; omega)) only [r1,c0,Nat.zero_add,Nat.reduceAdd,Int.cast_ofNat_Int,s_res0,↓s_ops,↓s_seq,↓s_cond,↓s_ret,↓s_nil,↓s_op,↓s_opg,↓s_wanted',↓s_wantV,s_wantV,beq_false,↓s_bindS,s_bindS,↓s_bindE,s_bindE,s_bindE_ret,s_norm,↓s_condV,s_condV,↓s_getp,↓s_get,↓s_con,↓s_os0,↓s_os1,↓s_list0,↓s_list1,↓s_mov,↓s_pick,↓s_pickE,s_pickE,↓s_bin,↓s_call,↓s_ext,s_same,b_neq,b_lss,s_end,s_res0,s_res1,s_tup2,↓iteN_true,↓iteN_false,iteN_true,iteN_false,Nat.zero_add,Nat.reduceEqDiff,decide_true,decide_false,Bool.not_true,List.getElem?_cons_zero,List.getElem?_cons_succ,beq_self_eq_true]
      try rfl
    · have c0 : decide (most < 0) = false := decide_eq_false m0
      have wm : wr .u64 most = most := wr_u64 (by omega)
      by_cases m1 : most < (n : Int)
      · rw [if_pos (.inr (.inl m1))]
        have c1 : decide (most < (n : Int)) = true := decide_eq_true m1
        refine ⟨h1,none,some 0,0,?_,⟨k1,.nil _,fun _ _ e => by cases e⟩⟩
        rw [List.length_nil]
        generalize l.length = L at *
        simp (config := {maxSteps := 2000000}) (disch := first | omega | (simp only [List.length_cons,List.length_nil,List.length_append,List.length_drop]; omega)) only [r1,c0,c1,wm,↓x_conv,x_convV,Nat.zero_add,Nat.reduceAdd,Int.cast_ofNat_Int,s_res0,↓s_ops,↓s_seq,↓s_cond,↓s_ret,↓s_nil,↓s_op,↓s_opg,↓s_wanted',↓s_wantV,s_wantV,beq_false,↓s_bindS,s_bindS,↓s_bindE,s_bindE,s_bindE_ret,s_norm,↓s_condV,s_condV,↓s_getp,↓s_get,↓s_con,↓s_os0,↓s_os1,↓s_list0,↓s_list1,↓s_mov,↓s_pick,↓s_pickE,s_pickE,↓s_bin,↓s_call,↓s_ext,s_same,b_neq,b_lss,b_gtr,s_end,s_res0,s_res1,s_tup2,↓iteN_true,↓iteN_false,iteN_true,iteN_false,Nat.zero_add,Nat.reduceEqDiff,decide_true,decide_false,Bool.not_true,List.getElem?_cons_zero,List.getElem?_cons_succ,beq_self_eq_true]
        try rfl
      · have c1 : decide (most < (n : Int)) = false := decide_eq_false m1
        have w2 : wr .i64 ((l.length : Int) - ((at_ + u : Nat) : Int)) = ((l.length - at_ - u : Nat) : Int) := by rw [wr_i64 (by omega)]; omega
        have w3 : wr .u64 ((l.length - at_ - u : Nat) : Int) = ((l.length - at_ - u : Nat) : Int) := u64n _ (by omega)
        by_cases m2 : l.length - at_ - u < n
        · rw [if_pos (.inr (.inr m2))]
          have c2 : decide (((l.length - at_ - u : Nat) : Int) < (n : Int)) = true := decide_eq_true (by omega)
          refine ⟨h1,none,some 0,0,?_,⟨k1,.nil _,fun _ _ e => by cases e⟩⟩
          rw [List.length_nil]
          generalize l.length - at_ - u = dd at *
          generalize l.length = L at *
          generalize at_ + u = au at *
          simp (config := {maxSteps := 2000000}) (disch := first | omega | (simp only [List.length_cons,List.length_nil,List.length_append,List.length_drop]; omega)) only [r1,c0,c1,c2,w2,w3,wm,↓s_len,x_lenS,↓x_conv,x_convV,Nat.zero_add,x_lenS,↓s_len,Nat.reduceAdd,Int.cast_ofNat_Int,s_res0,↓s_ops,↓s_seq,↓s_cond,↓s_ret,↓s_nil,↓s_op,↓s_opg,↓s_wanted',↓s_wantV,s_wantV,↓s_bindS,s_bindS,↓s_bindE,s_bindE,s_bindE_ret,s_norm,↓s_condV,s_condV,↓s_getp,↓s_get,↓s_con,↓s_os0,↓s_os1,↓s_list0,↓s_list1,↓s_mov,↓s_pick,↓s_pickE,s_pickE,↓s_bin,↓s_call,↓s_ext,s_same,b_neq,b_lss,b_gtr,b_sub,s_end,s_res0,s_res1,s_tup2,↓iteN_true,↓iteN_false,iteN_true,iteN_false,Nat.zero_add,Nat.reduceEqDiff,decide_true,decide_false,Bool.not_true,List.getElem?_cons_zero,List.getElem?_cons_succ,beq_self_eq_true]
          try rfl
        · rw [if_neg (by omega)]
          have c2 : decide (((l.length - at_ - u : Nat) : Int) < (n : Int)) = false := decide_eq_false (by omega)
          have w4 : wr .i64 (((at_ + u : Nat) : Int) + (n : Int)) = ((at_ + u + n : Nat) : Int) := by rw [wr_i64 (by omega)]; omega
          have w5 : wr .i64 (n : Int) = (n : Int) := w64n (by omega)
          have sv := slcV_lhA l.length (at_ + u) (at_ + u + n) a .i64 .i64 (by omega) (by omega)
          rw [Nat.add_sub_cancel_left] at sv
          have lt : ((l.drop (at_ + u)).take n).length = n := by rw [List.length_take,List.length_drop]; omega
          obtain ⟨a2,c2',e2,h3,r4,nw⟩ := twinv_go e.rf.tw x.rf.tw (N + 21) ((l.drop (at_ + u)).take n) (by omega) (upA a (at_ + u)) none 1 h1 (((src.mono k1).drop (at_ + u)).take n).e1
          rw [lt] at r4
          refine ⟨h3,a2,c2',e2,?_,⟨k1.trans nw.kp,nw.wb,fun q o ea => by have := nw.ge q o ea; have := k1.1; omega⟩⟩
          rw [lt]
          generalize l.length - at_ - u = dd at *
          generalize l.length = L at *
          generalize at_ + u + n = aun at *
          generalize at_ + u = au at *
          simp (config := {maxSteps := 2000000}) (disch := first | omega | (simp only [List.length_cons,List.length_nil,List.length_append,List.length_drop]; omega)) only [r1,r4,c0,c1,c2,w2,w3,w4,w5,wm,sv,↓s_len,x_lenS,↓x_slcS,x_M0,x_M1,↓x_conv,x_convV,Nat.zero_add,x_lenS,↓s_len,Nat.reduceAdd,Int.cast_ofNat_Int,s_res0,↓s_skip,↓s_ops,↓s_seq,↓s_cond,↓s_ret,↓s_nil,↓s_op,↓s_opg,↓s_wanted',↓s_wantV,s_wantV,↓s_bindS,s_bindS,↓s_bindE,s_bindE,s_norm,↓s_condV,s_condV,↓s_getp,↓s_get,↓s_con,↓s_os0,↓s_os1,↓s_list0,↓s_list1,↓s_mov,↓s_pick,↓s_pickE,s_pickE,↓s_bin,↓s_call,↓s_ext,s_same,b_neq,b_lss,b_gtr,b_add,b_sub,s_end,s_res0,s_res1,s_tup2,↓iteN_true,↓iteN_false,iteN_true,iteN_false,Nat.zero_add,Nat.reduceEqDiff,decide_true,decide_false,Bool.not_true,List.getElem?_cons_zero,List.getElem?_cons_succ,beq_self_eq_true]
          try rfl
end Go.Eng
namespace Go.Eng
open Go
variable {E : Nat → Option Fn} {X : Orc}
set_option linter.unusedSimpArgs false
set_option linter.unusedVariables false
/-! the document's in and out -/
theorem eyFix_le (s : Int) (l : List Nat) (n : Nat) (h : n ≤ l.length) : (eyFix s l n).2.2 ≤ l.length := by
  unfold eyFix
  split
  · split
    · assumption
    · exact h
  · exact h
theorem eyByt_le (m : Int) (l : List Nat) (bl : byt l = true) (n : Nat) (h : n ≤ l.length) : (eyByt m l n).2.2 ≤ l.length := by
  unfold eyByt
  split
  · rename_i n' u hc
    split
    · exact h
    · rename_i hh
      have := (com_siz _ (byt_drop bl _) _ _ hc).2.2.1
      rw [List.length_drop] at this
      show n + u + n' ≤ _
      omega
  · exact h
structure EnDr (E : Nat → Option Fn) : Prop where
  rg : EnRg E
  in_ : E k_purserref06_in = some f_purserref06_in
  ou : E k_purserref06_out = some f_purserref06_out
  fi : E k_purserref06_First = some f_purserref06_First
  de : E k_purserref06_Decode = some f_purserref06_Decode
structure NoDr (X : Orc) : Prop where
  rg : NoRg X
  in_ : ∀ a h,X (.fn k_purserref06_in) a h = none
  ou : ∀ a h,X (.fn k_purserref06_out) a h = none
  fi : ∀ a h,X (.fn k_purserref06_First) a h = none
  de : ∀ a h,X (.fn k_purserref06_Decode) a h = none
theorem dout_go (e : EnDr E) (x : NoDr X) (N : Nat) (l : List Nat) (bl : byt l = true) (hl : l.length ≤ 100000000) (at_ : Nat) (hat : at_ ≤ l.length) (a : Option (Nat × Nat)) (h : H) (src : SrcH h a 1 l) :
    ((rxO l (at_,false)).2.2 = false ∧ (rxO l (at_,false)).2.1 ≤ l.length ∧ ∃ h' b cb eb,callX E X (N + 24) (.fn k_purserref06_out) [.slice a l.length none 1,.int .i64 (at_ : Int)] h = some (.tup [.agg [.int .i64 (rxO l (at_,false)).1.v,.slice b (rxO l (at_,false)).1.l.length cb eb],.int .i64 ((rxO l (at_,false)).2.1 : Nat)],h') ∧ Nw h h' (rxO l (at_,false)).1.l b cb eb) ∨
    ((rxO l (at_,false)).2.2 = true ∧ ∃ h' v,callX E X (N + 24) (.fn k_purserref06_out) [.slice a l.length none 1,.int .i64 (at_ : Int)] h = some (.tup [.agg v,.int .i64 (-1)],h') ∧ Kp h h' ∧ Fit 2 v) := by
  rw [x_cfn e.ou _ _ (Nat.le_of_ble_eq_true rfl) (x.ou _ _)]
  unfold rxO rdS
  simp only
  obtain ⟨hA,ehA⟩ : ∃ hA,h.new (.cells Z2o .rw) = hA := ⟨_,rfl⟩
  have kA : Kp h hA := by rw [← ehA]; exact Kp.new _ _
  have nA : hA.next = h.next + 1 := by rw [← ehA]; rfl
  have gA : hA.get h.next = some (.cells Z2o .rw) := by rw [← ehA]; exact h_new_same _ _
  have r1 := rgetfix_go e.rg x.rg (N + 2) 8 l bl hl at_ hat a hA (src.mono kA)
  have l1 := eyFix_le 8 l at_ hat
  have v1 := eyFix8_lt l bl at_
  obtain ⟨⟨n1,er1,at1⟩,ev1⟩ : ∃ z,eyFix 8 l at_ = z := ⟨_,rfl⟩
  rw [ev1] at r1 l1 v1 ⊢
  simp only at r1 l1 v1 ⊢
  replace r1 : callX E X (N + 23) (.fn k_purserref01_GetFixed) _ hA = _ := r1
  have fitZ : Fit 2 Z2o := ⟨rfl,rfl⟩
  have stZ := fun h i => fit_st fitZ h i
  have puZ := fun h i => fit_put fitZ h i Z2o rfl
  have ldZ := fun m => fit_ld fitZ m
  have fz : fillV Z2o [] = some Z2o := rfl
  rw [show ([.int .i64 0,.slice none 0 (some 0) 0] : List V) = Z2o from rfl]
  by_cases h1 : er1 = 0
  rotate_left
  · right
    have c1 : decide ((er1 : Int) = 0) = false := decide_eq_false (by omega)
    refine ⟨by simp [h1],hA.put h.next (.cells Z2o .rw),Z2o,?_,⟨by show h.next ≤ hA.next; omega,fun j hj => by rw [h_put_ne _ _ (by omega),kA.2 _ hj]⟩,fitZ⟩
    generalize Z2o = Z at *
    simp (config := {maxSteps := 2000000}) (disch := first | omega | (simp only [List.length_cons,List.length_nil,List.length_append,List.length_drop]; omega)) only [ehA,gA,r1,c1,Bool.not_false,fz,stZ,puZ,ldZ,↓x_build,x_aggO,Nat.zero_add,↓h_put_get,m_load,↓m_st,m_stE,↓s_alloc,↓x_P0,s_resc,s_consR,s_res0,↓s_ops,↓s_seq,↓s_cond,↓s_ret,↓s_nil,↓s_op,↓s_bindS,s_bindS,↓s_bindE,s_bindE,s_bindE_ret,s_norm,↓s_condV,s_condV,↓s_getp,↓s_getp0,↓s_get,↓s_con,↓s_os0,↓s_os1,↓s_list0,↓s_list1,↓s_mov,↓s_bin,↓s_call,↓s_ext,s_same,b_neq,s_end,s_res0,s_res1,s_tup2,↓iteN_true,↓iteN_false,iteN_true,iteN_false,Nat.zero_add,Nat.reduceEqDiff,decide_true,decide_false,Bool.not_false,List.getElem?_cons_zero,List.getElem?_cons_succ]
    try rfl
  subst h1
  have c1 : decide (((0 : Nat) : Int) = 0) = true := rfl
  obtain ⟨h2,b,cb,eb,r2,nw2⟩ := rgetbyt_go e.rg x.rg N 2000 (by omega) l bl hl at1 l1 a hA (src.mono kA)
  have l2 := eyByt_le 2000 l bl at1 l1
  obtain ⟨⟨w,er2,at2⟩,ev2⟩ : ∃ z,eyByt 2000 l at1 = z := ⟨_,rfl⟩
  rw [ev2] at r2 l2 nw2 ⊢
  simp only at r2 l2 nw2 ⊢
  have k2 := nw2.kp
  have kn2 := k2.1
  have g2 : h2.get h.next = some (.cells Z2o .rw) := by rw [k2.2 _ (by omega),gA]
  by_cases h2e : er2 = 0
  rotate_left
  · right
    have c2 : decide ((er2 : Int) = 0) = false := decide_eq_false (by omega)
    refine ⟨by simp [h2e],h2.put h.next (.cells Z2o .rw),Z2o,?_,⟨by show h.next ≤ h2.next; omega,fun j hj => by rw [h_put_ne _ _ (by omega),k2.2 _ (by omega),kA.2 _ hj]⟩,fitZ⟩
    generalize Z2o = Z at *
    generalize w.length = wl at *
    simp (config := {maxSteps := 2000000}) (disch := first | omega | (simp only [List.length_cons,List.length_nil,List.length_append,List.length_drop]; omega)) only [ehA,r1,r2,g2,c2,Bool.not_true,Bool.not_false,fz,stZ,puZ,ldZ,↓x_build,x_aggO,Nat.zero_add,↓h_put_get,m_load,↓m_st,m_stE,↓s_alloc,↓x_P0,Int.cast_ofNat_Int,s_resc,s_consR,s_res0,↓s_skip,↓s_ops,↓s_seq,↓s_cond,↓s_ret,↓s_nil,↓s_op,↓s_bindS,s_bindS,↓s_bindE,s_bindE,s_bindE_ret,s_norm,↓s_condV,s_condV,↓s_getp,↓s_getp0,↓s_get,↓s_con,↓s_os0,↓s_os1,↓s_list0,↓s_list1,↓s_mov,↓s_bin,↓s_call,↓s_ext,s_same,b_neq,s_end,s_res0,s_res1,s_tup2,↓iteN_true,↓iteN_false,iteN_true,iteN_false,Nat.zero_add,Nat.reduceEqDiff,decide_true,decide_false,Bool.not_true,Bool.not_false,List.getElem?_cons_zero,List.getElem?_cons_succ]
    try rfl
  subst h2e
  left
  have c2 : decide (((0 : Nat) : Int) = 0) = true := rfl
  obtain ⟨P,eP⟩ : ∃ P : List V,[.int .i64 (wr .i64 (n1 : Int)),.slice b w.length cb eb] = P := ⟨_,rfl⟩
  have ff : fillV Z2o [(0,1,.int .i64 (wr .i64 (n1 : Int))),(1,1,.slice b w.length cb eb)] = some P := by rw [← eP]; rfl
  have fP : Fit 2 P := by rw [← eP]; exact ⟨rfl,rfl⟩
  have stP := fun h i => fit_st fP h i
  have puP := fun h i => fit_put fP h i Z2o rfl
  have ldP := fun m => fit_ld fP m
  refine ⟨by simp,l2,h2.put h.next (.cells P .rw),b,cb,eb,?_,⟨⟨by show h.next ≤ h2.next; omega,fun j hj => by rw [h_put_ne _ _ (by omega),k2.2 _ (by omega),kA.2 _ hj]⟩,nw2.wb.mono (Nat.le_refl _) (fun q hq eq => by rw [h_put_ne _ _ (by have := nw2.ge _ _ eq; omega)]),fun q o eq => by have := nw2.ge _ _ eq; omega⟩⟩
  rw [eP]
  generalize Z2o = Z at *
  generalize w.length = wl at *
  simp (config := {maxSteps := 2000000}) (disch := first | omega | (simp only [List.length_cons,List.length_nil,List.length_append,List.length_drop]; omega)) only [ehA,r1,r2,g2,Bool.not_true,ff,stP,puP,ldP,↓x_conv,x_convV,↓x_build,x_aggO,↓x_conv,x_convV,Nat.zero_add,↓h_put_get,m_load,↓m_st,m_stE,↓s_alloc,↓x_P0,↓x_P1,Int.cast_ofNat_Int,s_resc,s_consR,s_res0,↓s_skip,↓s_ops,↓s_seq,↓s_cond,↓s_ret,↓s_nil,↓s_op,↓s_bindS,s_bindS,↓s_bindE,s_bindE,s_norm,↓s_condV,s_condV,↓s_getp,↓s_getp0,↓s_get,↓s_con,↓s_os0,↓s_os1,↓s_list0,↓s_list1,↓s_mov,↓s_bin,↓s_call,↓s_ext,s_same,b_neq,s_end,s_res0,s_res1,s_tup2,↓iteN_true,↓iteN_false,iteN_true,iteN_false,Nat.zero_add,Nat.reduceEqDiff,decide_true,decide_false,Bool.not_true,List.getElem?_cons_zero,List.getElem?_cons_succ]
  try rfl
end Go.Eng
namespace Go.Eng
open Go
variable {E : Nat → Option Fn} {X : Orc}
set_option linter.unusedSimpArgs false
set_option linter.unusedVariables false
/-- an input's 35 cells -/
def icV (tx : List Nat) (n : Nat) (s : V) (q : Nat) : List V := ofI .u8 tx ++ [.int .u32 (n : Int),s,.int .u32 (q : Int)]
theorem icV_len (tx : List Nat) (n : Nat) (s : V) (q : Nat) (ht : tx.length = 32) : (icV tx n s q).length = 35 := by unfold icV; rw [List.length_append,ofI_len,ht]; rfl
theorem icV_st (tx : List Nat) (ht : tx.length = 32) (n : Nat) (s : V) (q : Nat) (h : H) (p : Nat) :
    (∀ i b : Nat,i < 32 → storeE (some (.cells (icV tx n s q) .rw)) h p i [.int .u8 (b : Int)] = some (h.put p (.cells (icV (tx.set i b) n s q) .rw))) ∧
    (∀ m : Nat,storeE (some (.cells (icV tx n s q) .rw)) h p 32 [.int .u32 (m : Int)] = some (h.put p (.cells (icV tx m s q) .rw))) ∧
    (∀ v : V,storeE (some (.cells (icV tx n s q) .rw)) h p 33 [v] = some (h.put p (.cells (icV tx n v q) .rw))) ∧
    (∀ m : Nat,storeE (some (.cells (icV tx n s q) .rw)) h p 34 [.int .u32 (m : Int)] = some (h.put p (.cells (icV tx n s m) .rw))) := by
  have l := icV_len tx n s q ht
  have lt : (ofI .u8 tx).length = 32 := by rw [ofI_len,ht]
  refine ⟨fun i b hi => ?_,fun m => ?_,fun v => ?_,fun m => ?_⟩
  · rw [m_storeE _ _ _ _ _ (by rw [l]; show i + 1 ≤ 35; omega),writeN_set _ _ _ (by rw [l]; omega)]
    unfold icV
    rw [List.set_append_left _ _ (by rw [lt]; omega),ofI_set]
  · rw [m_storeE _ _ _ _ _ (by rw [l]; show 32 + 1 ≤ 35; omega),writeN_set _ _ _ (by rw [l]; omega)]
    unfold icV
    rw [List.set_append_right _ _ (by rw [lt]; omega),lt]; rfl
  · rw [m_storeE _ _ _ _ _ (by rw [l]; show 33 + 1 ≤ 35; omega),writeN_set _ _ _ (by rw [l]; omega)]
    unfold icV
    rw [List.set_append_right _ _ (by rw [lt]; omega),lt]; rfl
  · rw [m_storeE _ _ _ _ _ (by rw [l]; show 34 + 1 ≤ 35; omega),writeN_set _ _ _ (by rw [l]; omega)]
    unfold icV
    rw [List.set_append_right _ _ (by rw [lt]; omega),lt]; rfl
theorem icV_fit (tx : List Nat) (n q : Nat) (b : Option (Nat × Nat)) (len : Nat) (cb : Option Nat) (eb : Nat) (ht : tx.length = 32) : Fit 35 (icV tx n (.slice b len cb eb) q) := by
  refine ⟨icV_len _ _ _ _ ht,?_⟩
  unfold icV
  rw [List.all_append,plain_ofI]; rfl
structure DiI (v0 : V) (at1 q4 q6 bi off : Nat) (cw : Option Nat) (w : List Nat) (h0 : H) (i : Nat) (T : Tr V) (h : H) : Prop where
  t0 : evO T (.t 0) = v0
  t1 : evO T (.t 1) = .int .i64 (at1 : Int)
  t4 : evO T (.t 4) = .ptr (some (q4,0))
  t6 : evO T (.t 6) = .ptr (some (q6,0))
  t7 : evO T (.t 7) = .slice (some (bi,off)) 32 cw 1
  t9 : evO T (.t 9) = .int .i64 (i : Int)
  g : h.get q6 = some (.cells (icV (flK w i) 0 (.slice none 0 (some 0) 0) 0) .rw)
  nx : h.next = h0.next
  fr : ∀ j,j ≠ q6 → h.get j = h0.get j
theorem di_step (Q : Orc) (m : Nat) (v0 : V) (at1 q4 q6 bi off : Nat) (cw : Option Nat) (w : List Nat) (lw : w.length = 32) (vs : List V) (md : Md) (h0 : H) (hb : bi ≠ q6) (gb : h0.get bi = some (.cells vs md)) (cg : ∀ k b : Nat,w[k]? = some b → vs[off + k]? = some (.int .u8 (b : Int))) : ∀ i T h,i < 32 → DiI v0 at1 q4 q6 bi off cw w h0 i T h → ∃ T' h',evC Q 77 m none L_purserref06_in_0 ⟨T,[],h⟩ = some (.normal,⟨T',[],h'⟩) ∧ DiI v0 at1 q4 q6 bi off cw w h0 (i + 1) T' h' := by
  intro i T h hi ⟨t0,t1,t4,t6,t7,t9,g,nx,fr⟩
  have fl := flK_len w lw i (by omega)
  obtain ⟨b,eb⟩ : ∃ b,w[i]? = some b := ⟨_,List.getElem?_eq_getElem (by omega)⟩
  have x1 := cg i b eb
  have gv : h.get bi = some (.cells vs md) := by rw [fr _ hb,gb]
  have c0 : decide ((i : Int) < 32) = true := decide_eq_true (by omega)
  have wi : wr .i64 ((i : Int) + 1) = ((i + 1 : Nat) : Int) := by rw [wr_i64 (by omega)]; omega
  have ix : idx (i : Int) 32 = some i := idxn hi
  have p1 := fun h p => (icV_st (flK w i) fl 0 (.slice none 0 (some 0) 0) 0 h p).1 i b hi
  rw [flK_set w lw i b hi eb] at p1
  obtain ⟨C2,eC2⟩ : ∃ C,icV (flK w (i + 1)) 0 (.slice none 0 (some 0) 0) 0 = C := ⟨_,rfl⟩
  rw [eC2] at p1
  generalize icV (flK w i) 0 (.slice none 0 (some 0) 0) 0 = C1 at *
  obtain ⟨T',rr,u0,u1,u4,u6,u7,u9⟩ : ∃ T',evC Q 77 m none L_purserref06_in_0 ⟨T,[],h⟩ = some (.normal,⟨T',[],h.put q6 (.cells C2 .rw)⟩) ∧ evO T' (.t 0) = v0 ∧ evO T' (.t 1) = .int .i64 (at1 : Int) ∧ evO T' (.t 4) = .ptr (some (q4,0)) ∧ evO T' (.t 6) = .ptr (some (q6,0)) ∧ evO T' (.t 7) = .slice (some (bi,off)) 32 cw 1 ∧ evO T' (.t 9) = .int .i64 ((i + 1 : Nat) : Int) := by
    exact ⟨_,by
      simp (config := {maxSteps := 2000000}) (disch := first | omega | (simp only [List.length_cons,List.length_nil,List.length_append,List.length_drop]; omega)) only [L_purserref06_in_0,t6,t7,t9,c0,ix,gv,x1,g,p1,wi,↓x_fieldAddr,x_fieldV,Nat.zero_add,Nat.add_zero,Nat.mul_one,Nat.add_zero,↓s_load,m_load,↓m_load1,m_load1,↓m_st,m_stE,m_storeI,↓x_idxA,↓x_idxS,x_idxAE,x_idxSE,x_addrE,↓s_skip,↓s_ops,↓s_seq,↓s_cond,↓s_block,↓s_nil,↓s_op,↓s_bindS,s_bindS,↓s_bindE,s_bindE,s_norm,↓s_condV,s_condV,s_block_normal,↓s_getp,↓s_getp0,↓s_con,↓s_mov,↓s_bin,s_same,b_lss,b_add,↓iteN_true,↓iteN_false,iteN_true,iteN_false,Nat.zero_add,Nat.reduceEqDiff,decide_true,decide_false]
      exact rfl,(by (simp only [s_getp,s_getp0,Nat.reduceEqDiff,decide_false,iteN_false,t0]; try rfl)),(by (simp only [s_getp,s_getp0,Nat.reduceEqDiff,decide_false,iteN_false,t1]; try rfl)),(by (simp only [s_getp,s_getp0,Nat.reduceEqDiff,decide_false,iteN_false,t4]; try rfl)),(by (simp only [s_getp,s_getp0,Nat.reduceEqDiff,decide_false,iteN_false,t6]; try rfl)),(by (simp only [s_getp,s_getp0,Nat.reduceEqDiff,decide_false,iteN_false,t7]; try rfl)),(by (simp only [s_getp,decide_true,iteN_true]; try rfl))⟩
  exact ⟨T',_,rr,u0,u1,u4,u6,u7,u9,by rw [eC2]; exact h_put_same _ _ _,nx,fun j hj => by rw [h_put_ne _ _ hj.symm,fr j hj]⟩
end Go.Eng
namespace Go.Eng
open Go
variable {E : Nat → Option Fn} {X : Orc}
set_option linter.unusedSimpArgs false
set_option linter.unusedVariables false
theorem eyRaw_ok (l : List Nat) (n : Nat) (h : (eyRaw 32 l n).2.1 = 0) : (eyRaw 32 l n).1.length = 32 ∧ (eyRaw 32 l n).2.2 ≤ l.length := by
  unfold eyRaw at h ⊢
  rw [if_neg (by omega)] at h ⊢
  by_cases c : n + (32 : Int).toNat ≤ l.length
  · rw [if_pos c] at h ⊢
    refine ⟨?_,c⟩
    have : (32 : Int).toNat = 32 := rfl
    simp only [List.length_take,List.length_drop]; omega
  · rw [if_neg c] at h; cases h
/-- what an input read says -/
def DinP (l : List Nat) (at_ : Nat) (h : H) (r : Option (V × H)) : Prop :=
    ((rxI l (at_,false)).2.2 = false ∧ (rxI l (at_,false)).2.1 ≤ l.length ∧ ∃ h' b cb eb,r = some (.tup [.agg (inV (rxI l (at_,false)).1 b cb eb),.int .i64 ((rxI l (at_,false)).2.1 : Nat)],h') ∧ Nw h h' (rxI l (at_,false)).1.l b cb eb) ∨
    ((rxI l (at_,false)).2.2 = true ∧ ∃ h' v,r = some (.tup [.agg v,.int .i64 (-1)],h') ∧ Kp h h' ∧ Fit 35 v)
theorem din_go (e : EnDr E) (x : NoDr X) (N : Nat) (hN : 40 < N) (l : List Nat) (bl : byt l = true) (hl : l.length ≤ 100000000) (at_ : Nat) (hat : at_ ≤ l.length) (a : Option (Nat × Nat)) (h : H) (src : SrcH h a 1 l) :
    DinP l at_ h (callX E X (N + 24) (.fn k_purserref06_in) [.slice a l.length none 1,.int .i64 (at_ : Int)] h) := by
  rw [x_cfn e.in_ _ _ (Nat.le_of_ble_eq_true rfl) (x.in_ _ _)]
  rw [show ([.int .u8 0,.int .u8 0,.int .u8 0,.int .u8 0,.int .u8 0,.int .u8 0,.int .u8 0,.int .u8 0,.int .u8 0,.int .u8 0,.int .u8 0,.int .u8 0,.int .u8 0,.int .u8 0,.int .u8 0,.int .u8 0,.int .u8 0,.int .u8 0,.int .u8 0,.int .u8 0,.int .u8 0,.int .u8 0,.int .u8 0,.int .u8 0,.int .u8 0,.int .u8 0,.int .u8 0,.int .u8 0,.int .u8 0,.int .u8 0,.int .u8 0,.int .u8 0,.int .u32 0,.slice none 0 (some 0) 0,.int .u32 0] : List V) = Z35 from rfl]
  have z35 : Z35 = icV (List.replicate 32 0) 0 (.slice none 0 (some 0) 0) 0 := rfl
  have lz : Z35.length = 35 := rfl
  have fitZ : Fit 35 Z35 := by rw [z35]; exact icV_fit _ _ _ _ _ _ _ List.length_replicate
  have stZ := fun h i => fit_st fitZ h i
  have puZ := fun h i => fit_put fitZ h i Z35 lz
  have ldZ := fun m => fit_ld fitZ m
  have fz : fillV Z35 [] = some Z35 := rfl
  obtain ⟨hB,ehB⟩ : ∃ hB,(h.new (.cells Z35 .rw)).new (.cells Z35 .rw) = hB := ⟨_,rfl⟩
  have kB : Kp h hB := by rw [← ehB]; (repeat (first | exact Kp.refl _ | refine Kp.put ?_ _ (by first | omega | (simp only [h_next_put,h_next_new,h_next_del]; omega)) | refine Kp.del ?_ (by first | omega | (simp only [h_next_put,h_next_new,h_next_del]; omega)) | refine Kp.trans ?_ (Kp.new _ _)))
  have nB : hB.next = h.next + 2 := by rw [← ehB]; rfl
  have gB1 : hB.get h.next = some (.cells Z35 .rw) := by rw [← ehB]; (simp (disch := omega) only [h_new_get,h_next_new,Nat.add_eq_left,decide_true,decide_false,iteN_true,iteN_false,reduceCtorEq,]; try rfl)
  have gB2 : hB.get (h.next + 1) = some (.cells Z35 .rw) := by rw [← ehB]; (simp (disch := omega) only [h_new_get,h_next_new,decide_true,iteN_true,]; try rfl)
  obtain ⟨hC,ehC⟩ : ∃ hC,hB.put (h.next + 1) (.cells Z35 .rw) = hC := ⟨_,rfl⟩
  have nC : hC.next = h.next + 2 := by rw [← ehC]; exact nB
  have kC : Kp h hC := ⟨by omega,fun j hj => by rw [← ehC,h_put_ne _ _ (by omega),kB.2 _ hj]⟩
  have gC1 : hC.get h.next = some (.cells Z35 .rw) := by rw [← ehC,h_put_ne _ _ (by omega),gB1]
  have gC2 : hC.get (h.next + 1) = some (.cells Z35 .rw) := by rw [← ehC]; exact h_put_same _ _ _
  obtain ⟨h1,a1,c1,e1,r1,nw1⟩ := rgetraw_go e.rg x.rg (N + 21) 32 l hl at_ hat a hC (src.mono kC)
  replace r1 : callX E X (N + 23) (.fn k_purserref01_GetRaw) _ hC = _ := r1
  have ok1 := eyRaw_ok l at_
  obtain ⟨⟨w1,er1,at1⟩,ev1⟩ : ∃ z,eyRaw 32 l at_ = z := ⟨_,rfl⟩
  rw [ev1] at r1 nw1 ok1
  simp only at r1 nw1 ok1
  have k1 := nw1.kp
  have kn1 := k1.1
  have g11 : h1.get h.next = some (.cells Z35 .rw) := by rw [k1.2 _ (by omega),gC1]
  have g12 : h1.get (h.next + 1) = some (.cells Z35 .rw) := by rw [k1.2 _ (by omega),gC2]
  by_cases h1e : er1 = 0
  rotate_left
  · have d1 : decide ((er1 : Int) = 0) = false := decide_eq_false (by omega)
    refine Or.inr ⟨by unfold rxI rdH rdW rdS; simp [ev1,h1e],h1.put h.next (.cells Z35 .rw),Z35,?_,⟨by show h.next ≤ h1.next; omega,fun j hj => by rw [h_put_ne _ _ (by omega),k1.2 _ (by omega),kC.2 _ hj]⟩,fitZ⟩
    generalize Z35 = Z at *
    generalize w1.length = wl at *
    simp (config := {maxSteps := 2000000}) (disch := first | omega | (simp only [List.length_cons,List.length_nil,List.length_append,List.length_drop]; omega)) only [ehB,gB2,ehC,r1,g11,g12,d1,Bool.not_false,fz,stZ,puZ,ldZ,↓x_build,x_aggO,Nat.zero_add,↓h_put_get,h_next_new,↓s_load,m_load,↓m_st,m_stE,↓s_alloc,↓x_P0,s_resc,s_consR,s_res0,↓s_ops,↓s_seq,↓s_cond,↓s_ret,↓s_nil,↓s_op,↓s_bindS,s_bindS,↓s_bindE,s_bindE,s_bindE_ret,s_norm,↓s_condV,s_condV,↓s_getp,↓s_getp0,↓s_get,↓s_con,↓s_os0,↓s_os1,↓s_list0,↓s_list1,↓s_mov,↓s_bin,↓s_call,↓s_ext,s_same,b_neq,s_end,s_res0,s_res1,s_tup2,↓iteN_true,↓iteN_false,iteN_true,iteN_false,Nat.zero_add,Nat.reduceEqDiff,decide_true,decide_false,Bool.not_false,List.getElem?_cons_zero,List.getElem?_cons_succ]
    try rfl
  subst h1e
  obtain ⟨lw1,la1⟩ := ok1 rfl
  have d1 : decide (((0 : Nat) : Int) = 0) = true := rfl
  obtain ⟨bi,off,vs,md,ea,ee,lt,gb,len,cs⟩ := nw1.wb.src.resolve_left (fun h => by rw [h] at lw1; cases lw1)
  subst ea ee
  have bige := nw1.ge _ _ rfl
  have cg : ∀ k b : Nat,w1[k]? = some b → vs[off + k]? = some (.int .u8 (b : Int)) := fun k b hk => by
    have hi := (List.getElem?_eq_some_iff.1 hk).1
    have : ((vs.drop off).take w1.length)[k]? = (ofI .u8 w1)[k]? := by rw [cs]
    rw [List.getElem?_take_of_lt hi,List.getElem?_drop,ofI_get _ _ _ hi,List.getD_eq_getElem?_getD,hk] at this
    exact this
  rw [lw1] at r1
  have wn : ¬ w1 = [] := by intro h; rw [h] at lw1; cases lw1
  have fin : ∀ T,DiI (.slice a l.length none 1) at1 h.next (h.next + 1) bi off c1 w1 h1 0 T h1 → ∃ T' h',loopN (evC (callX E X (N + 23)) 77 (N + 23) none L_purserref06_in_0) (N + 23) ⟨T,[],h1⟩ = some (.exit 0,⟨T',[],h'⟩) ∧ DiI (.slice a l.length none 1) at1 h.next (h.next + 1) bi off c1 w1 h1 32 T' h' := fun T I =>
    loop_go (f := evC (callX E X (N + 23)) 77 (N + 23) none L_purserref06_in_0) (DiI (.slice a l.length none 1) at1 h.next (h.next + 1) bi off c1 w1 h1) 32 (.exit 0) (by intro h; cases h) (DiI (.slice a l.length none 1) at1 h.next (h.next + 1) bi off c1 w1 h1 32) (fun i T h' hi I => di_step _ (N + 23) _ at1 h.next (h.next + 1) bi off c1 w1 lw1 vs md h1 (by omega) gb cg i T h' hi I) (fun T h' I => by
      obtain ⟨t0,t1,t4,t6,t7,t9,g,nx,fr⟩ := I
      have c0 : decide (((32 : Nat) : Int) < 32) = false := rfl
      exact ⟨_,h',by
        simp (config := {maxSteps := 2000000}) (disch := first | omega | (simp only [List.length_cons,List.length_nil,List.length_append,List.length_drop]; omega)) only [L_purserref06_in_0,t9,Int.reduceLT,Int.cast_ofNat_Int,↓s_ops,↓s_seq,↓s_cond,↓s_exit,↓s_nil,↓s_op,↓s_bindS,s_bindS,↓s_bindE,s_bindE,s_bindE_exit,s_norm,↓s_condV,s_condV,↓s_getp,↓s_con,↓s_mov,↓s_bin,s_same,b_lss,↓iteN_true,↓iteN_false,iteN_true,iteN_false,decide_true,decide_false]
        exact rfl,⟨(by (simp only [s_getp,Nat.reduceEqDiff,decide_false,iteN_false,t0]; try rfl)),(by (simp only [s_getp,Nat.reduceEqDiff,decide_false,iteN_false,t1]; try rfl)),(by (simp only [s_getp,Nat.reduceEqDiff,decide_false,iteN_false,t4]; try rfl)),(by (simp only [s_getp,Nat.reduceEqDiff,decide_false,iteN_false,t6]; try rfl)),(by (simp only [s_getp,Nat.reduceEqDiff,decide_false,iteN_false,t7]; try rfl)),(by (simp only [s_getp,Nat.reduceEqDiff,decide_false,iteN_false,t9]; try rfl)),g,nx,fr⟩⟩) 32 0 (by omega) (N + 23) (by omega) T h1 I
  have rest : ∀ T h2,DiI (.slice a l.length none 1) at1 h.next (h.next + 1) bi off c1 w1 h1 32 T h2 → DinP l at_ h (fnEnd [.cell 4 (some 35),.tmp 5] (bindE (blockE 0 (some (.exit 0,⟨T,[],h2⟩))) (evC (callX E X (N + 23)) 77 (N + 23) none R_purserref06_in_0))) := by
    intro T h2 ⟨t0,t1,t4,t6,t7,t9,g,nx,fr⟩
    rw [show flK w1 32 = w1 by unfold flK; rw [List.take_of_length_le (by omega)]; simp] at g
    have k02 : Kp h h2 := ⟨by omega,fun j hj => by rw [fr _ (by omega),k1.2 _ (by omega),kC.2 _ hj]⟩
    have src2 := src.mono k02
    have g21 : h2.get h.next = some (.cells Z35 .rw) := by rw [fr _ (by omega),g11]
    have r2 := rgetfix_go e.rg x.rg (N + 2) 4 l bl hl at1 la1 a h2 src2
    replace r2 : callX E X (N + 23) (.fn k_purserref01_GetFixed) _ h2 = _ := r2
    have la2 := eyFix_le 4 l at1 la1
    have v2 := eyFix_lt 4 (.inl rfl) l bl at1
    obtain ⟨⟨n2,er2,at2⟩,ev2⟩ : ∃ z,eyFix 4 l at1 = z := ⟨_,rfl⟩
    have ev2' : eyFix ((4 : Nat) : Int) l at1 = (n2,er2,at2) := ev2
    rw [ev2'] at v2
    rw [ev2] at r2 la2
    simp only at r2 la2 v2
    have fit0 : ∀ n q b len cb eb,Fit 35 (icV w1 n (.slice b len cb eb) q) := fun n q b len cb eb => icV_fit w1 n q b len cb eb lw1
    by_cases h2e : er2 = 0
    rotate_left
    · have d2 : decide ((er2 : Int) = 0) = false := decide_eq_false (by omega)
      have st0 := fun h i => fit_st (fit0 0 0 none 0 (some 0) 0) h i
      have pu0 := fun h i => fit_put (fit0 0 0 none 0 (some 0) 0) h i Z35 lz
      have ld0 := fun m => fit_ld (fit0 0 0 none 0 (some 0) 0) m
      obtain ⟨C,eC⟩ : ∃ C,icV w1 0 (.slice none 0 (some 0) 0) 0 = C := ⟨_,rfl⟩
      have fC := fit0 0 0 none 0 (some 0) 0
      rw [eC] at g st0 pu0 ld0 fC
      refine Or.inr ⟨by unfold rxI rdH rdW rdS; simp [ev1,ev2,h2e],h2.put h.next (.cells C .rw),C,?_,⟨by show h.next ≤ h2.next; omega,fun j hj => by rw [h_put_ne _ _ (by omega),k02.2 _ hj]⟩,fC⟩
      generalize Z35 = Z at *
      simp (config := {maxSteps := 2000000}) (disch := first | omega | (simp only [List.length_cons,List.length_nil,List.length_append,List.length_drop]; omega)) only [R_purserref06_in_0,t0,t1,t4,t6,r2,d2,g,g21,st0,pu0,ld0,Bool.not_false,↓h_put_get,↓s_load,m_load,↓m_st,m_stE,s_resc,s_consR,s_res0,↓s_ops,↓s_seq,↓s_cond,↓s_ret,↓s_nil,↓s_op,↓s_bindS,s_bindS,↓s_bindE,s_bindE,s_bindE_ret,s_norm,↓s_condV,s_condV,s_block_exit,↓s_getp,↓s_getp0,↓s_con,↓s_os0,↓s_os1,↓s_mov,↓s_bin,↓s_call,↓s_ext,s_same,b_neq,s_end,s_res0,s_res1,s_tup2,↓iteN_true,↓iteN_false,iteN_true,iteN_false,Nat.reduceEqDiff,decide_true,decide_false,Bool.not_false,List.getElem?_cons_zero,List.getElem?_cons_succ,if_true]
      try rfl
    subst h2e
    obtain ⟨h3,b,cb,eb,r3,nw3⟩ := rgetbyt_go e.rg x.rg N 2000 (by omega) l bl hl at2 la2 a h2 src2
    have la3 := eyByt_le 2000 l bl at2 la2
    obtain ⟨⟨w3,er3,at3⟩,ev3⟩ : ∃ z,eyByt 2000 l at2 = z := ⟨_,rfl⟩
    rw [ev3] at r3 la3 nw3
    simp only at r3 la3 nw3
    have k3 := nw3.kp
    have kn3 := k3.1
    have g31 : h3.get h.next = some (.cells Z35 .rw) := by rw [k3.2 _ (by omega),g21]
    have g32 : h3.get (h.next + 1) = some (.cells (icV w1 0 (.slice none 0 (some 0) 0) 0) .rw) := by rw [k3.2 _ (by omega),g]
    by_cases h3e : er3 = 0
    rotate_left
    · have d3 : decide ((er3 : Int) = 0) = false := decide_eq_false (by omega)
      have st0 := fun h i => fit_st (fit0 0 0 none 0 (some 0) 0) h i
      have pu0 := fun h i => fit_put (fit0 0 0 none 0 (some 0) 0) h i Z35 lz
      have ld0 := fun m => fit_ld (fit0 0 0 none 0 (some 0) 0) m
      obtain ⟨C,eC⟩ : ∃ C,icV w1 0 (.slice none 0 (some 0) 0) 0 = C := ⟨_,rfl⟩
      have fC := fit0 0 0 none 0 (some 0) 0
      rw [eC] at g32 st0 pu0 ld0 fC
      refine Or.inr ⟨by unfold rxI rdH rdW rdS; simp [ev1,ev2,ev3,h3e],h3.put h.next (.cells C .rw),C,?_,⟨by show h.next ≤ h3.next; omega,fun j hj => by rw [h_put_ne _ _ (by omega),k3.2 _ (by omega),k02.2 _ hj]⟩,fC⟩
      generalize Z35 = Z at *
      generalize w3.length = wl at *
      simp (config := {maxSteps := 2000000}) (disch := first | omega | (simp only [List.length_cons,List.length_nil,List.length_append,List.length_drop]; omega)) only [R_purserref06_in_0,t0,t1,t4,t6,r2,r3,d3,g32,g31,st0,pu0,ld0,Bool.not_true,Bool.not_false,↓h_put_get,↓s_load,m_load,↓m_st,m_stE,Int.cast_ofNat_Int,s_resc,s_consR,s_res0,↓s_skip,↓s_ops,↓s_seq,↓s_cond,↓s_ret,↓s_nil,↓s_op,↓s_bindS,s_bindS,↓s_bindE,s_bindE,s_bindE_ret,s_norm,↓s_condV,s_condV,s_block_exit,↓s_getp,↓s_getp0,↓s_con,↓s_os0,↓s_os1,↓s_mov,↓s_bin,↓s_call,↓s_ext,s_same,b_neq,s_end,s_res0,s_res1,s_tup2,↓iteN_true,↓iteN_false,iteN_true,iteN_false,Nat.reduceEqDiff,decide_true,decide_false,Bool.not_true,Bool.not_false,List.getElem?_cons_zero,List.getElem?_cons_succ,if_true]
      try rfl
    subst h3e
    have r4 := rgetfix_go e.rg x.rg (N + 2) 4 l bl hl at3 la3 a h3 (src2.mono k3)
    replace r4 : callX E X (N + 23) (.fn k_purserref01_GetFixed) _ h3 = _ := r4
    have la4 := eyFix_le 4 l at3 la3
    have v4 := eyFix_lt 4 (.inl rfl) l bl at3
    obtain ⟨⟨n4,er4,at4⟩,ev4⟩ : ∃ z,eyFix 4 l at3 = z := ⟨_,rfl⟩
    have ev4' : eyFix ((4 : Nat) : Int) l at3 = (n4,er4,at4) := ev4
    rw [ev4'] at v4
    rw [ev4] at r4 la4
    simp only at r4 la4 v4
    by_cases h4e : er4 = 0
    rotate_left
    · have d4 : decide ((er4 : Int) = 0) = false := decide_eq_false (by omega)
      have st0 := fun h i => fit_st (fit0 0 0 none 0 (some 0) 0) h i
      have pu0 := fun h i => fit_put (fit0 0 0 none 0 (some 0) 0) h i Z35 lz
      have ld0 := fun m => fit_ld (fit0 0 0 none 0 (some 0) 0) m
      obtain ⟨C,eC⟩ : ∃ C,icV w1 0 (.slice none 0 (some 0) 0) 0 = C := ⟨_,rfl⟩
      have fC := fit0 0 0 none 0 (some 0) 0
      rw [eC] at g32 st0 pu0 ld0 fC
      refine Or.inr ⟨by unfold rxI rdH rdW rdS; simp [ev1,ev2,ev3,ev4,h4e],h3.put h.next (.cells C .rw),C,?_,⟨by show h.next ≤ h3.next; omega,fun j hj => by rw [h_put_ne _ _ (by omega),k3.2 _ (by omega),k02.2 _ hj]⟩,fC⟩
      generalize Z35 = Z at *
      generalize w3.length = wl at *
      simp (config := {maxSteps := 2000000}) (disch := first | omega | (simp only [List.length_cons,List.length_nil,List.length_append,List.length_drop]; omega)) only [R_purserref06_in_0,t0,t1,t4,t6,r2,r3,r4,d4,g32,g31,st0,pu0,ld0,Bool.not_true,Bool.not_false,↓h_put_get,↓s_load,m_load,↓m_st,m_stE,Int.cast_ofNat_Int,s_resc,s_consR,s_res0,↓s_skip,↓s_ops,↓s_seq,↓s_cond,↓s_ret,↓s_nil,↓s_op,↓s_bindS,s_bindS,↓s_bindE,s_bindE,s_bindE_ret,s_norm,↓s_condV,s_condV,s_block_exit,↓s_getp,↓s_getp0,↓s_con,↓s_os0,↓s_os1,↓s_mov,↓s_bin,↓s_call,↓s_ext,s_same,b_neq,s_end,s_res0,s_res1,s_tup2,↓iteN_true,↓iteN_false,iteN_true,iteN_false,Nat.reduceEqDiff,decide_true,decide_false,Bool.not_true,Bool.not_false,List.getElem?_cons_zero,List.getElem?_cons_succ,if_true]
      try rfl
    subst h4e
    have u2 : wr .u32 (n2 : Int) = (n2 : Int) := wr_u32 (by have : (256 : Nat) ^ 4 = 4294967296 := rfl; omega)
    have u4 : wr .u32 (n4 : Int) = (n4 : Int) := wr_u32 (by have : (256 : Nat) ^ 4 = 4294967296 := rfl; omega)
    have p1 := fun h p => (icV_st w1 lw1 0 (.slice none 0 (some 0) 0) 0 h p).2.1 n2
    have p2 := fun h p => (icV_st w1 lw1 n2 (.slice none 0 (some 0) 0) 0 h p).2.2.1 (.slice b w3.length cb eb)
    have p3 := fun h p => (icV_st w1 lw1 n2 (.slice b w3.length cb eb) 0 h p).2.2.2 n4
    have st0 := fun h i => fit_st (fit0 n2 n4 b w3.length cb eb) h i
    have pu0 := fun h i => fit_put (fit0 n2 n4 b w3.length cb eb) h i Z35 lz
    have ld0 := fun m => fit_ld (fit0 n2 n4 b w3.length cb eb) m
    have eI : rxI l (at_,false) = (⟨w1,n2,w3,n4⟩,at4,false) := by unfold rxI rdH rdW rdS; simp [ev1,wn,ev2,ev3,ev4]
    have eV : inV ⟨w1,n2,w3,n4⟩ b cb eb = icV w1 n2 (.slice b w3.length cb eb) n4 := rfl
    obtain ⟨C0,eC0⟩ : ∃ C,icV w1 0 (.slice none 0 (some 0) 0) 0 = C := ⟨_,rfl⟩
    obtain ⟨C1,eC1⟩ : ∃ C,icV w1 n2 (.slice none 0 (some 0) 0) 0 = C := ⟨_,rfl⟩
    obtain ⟨C2,eC2⟩ : ∃ C,icV w1 n2 (.slice b w3.length cb eb) 0 = C := ⟨_,rfl⟩
    obtain ⟨C3,eC3⟩ : ∃ C,icV w1 n2 (.slice b w3.length cb eb) n4 = C := ⟨_,rfl⟩
    rw [eC0,eC1] at p1
    rw [eC1,eC2] at p2
    rw [eC2,eC3] at p3
    rw [eC0] at g32
    rw [eC3] at st0 pu0 ld0 eV
    obtain ⟨q,eq⟩ : ∃ q,h.next + 1 = q := ⟨_,rfl⟩
    rw [eq] at t6 g32
    obtain ⟨h4,eh4⟩ : ∃ h4,h3.put q (.cells C1 .rw) = h4 := ⟨_,rfl⟩
    have g4 : h4.get q = some (.cells C1 .rw) := by rw [← eh4]; exact h_put_same _ _ _
    obtain ⟨h5,eh5⟩ : ∃ h5,h4.put q (.cells C2 .rw) = h5 := ⟨_,rfl⟩
    have g5 : h5.get q = some (.cells C2 .rw) := by rw [← eh5]; exact h_put_same _ _ _
    obtain ⟨h6,eh6⟩ : ∃ h6,h5.put q (.cells C3 .rw) = h6 := ⟨_,rfl⟩
    have g6 : h6.get q = some (.cells C3 .rw) := by rw [← eh6]; exact h_put_same _ _ _
    have n6 : h6.next = h3.next := by rw [← eh6,← eh5,← eh4]; rfl
    have f6 : ∀ j,j ≠ q → h6.get j = h3.get j := fun j hj => by rw [← eh6,h_put_ne _ _ hj.symm,← eh5,h_put_ne _ _ hj.symm,← eh4,h_put_ne _ _ hj.symm]
    have g61 : h6.get h.next = some (.cells Z35 .rw) := by rw [f6 _ (by omega),g31]
    refine Or.inl ⟨by rw [eI],by rw [eI]; exact la4,h6.put h.next (.cells C3 .rw),b,cb,eb,?_,?_⟩
    · rw [eI]
      simp only
      rw [eV]
      clear eV eI eC0 eC1 eC2 eC3 fit0
      generalize Z35 = Z at *
      generalize w3.length = wl at *
      simp (config := {maxSteps := 2000000}) (disch := first | omega | (simp only [List.length_cons,List.length_nil,List.length_append,List.length_drop]; omega)) only [R_purserref06_in_0,t0,t1,t4,t6,r2,r3,r4,u2,u4,m_storeS,g32,p1,eh4,g4,p2,eh5,g5,p3,eh6,g6,ld0,g61,st0,pu0,Bool.not_true,↓x_conv,x_convV,↓x_conv,x_convV,↓x_fieldAddr,x_fieldV,Nat.zero_add,Nat.add_zero,↓h_put_get,↓s_load,m_load,↓m_st,m_stE,m_storeI,Int.cast_ofNat_Int,s_resc,s_consR,s_res0,↓s_skip,↓s_ops,↓s_seq,↓s_cond,↓s_ret,↓s_nil,↓s_op,↓s_bindS,s_bindS,↓s_bindE,s_bindE,s_norm,↓s_condV,s_condV,s_block_exit,↓s_getp,↓s_getp0,↓s_con,↓s_os0,↓s_os1,↓s_mov,↓s_bin,↓s_call,↓s_ext,s_same,b_neq,s_end,s_res0,s_res1,s_tup2,↓iteN_true,↓iteN_false,iteN_true,iteN_false,Nat.zero_add,Nat.reduceEqDiff,decide_true,decide_false,Bool.not_true,List.getElem?_cons_zero,List.getElem?_cons_succ,if_true]
      try rfl
    · rw [eI]
      refine ⟨⟨by show h.next ≤ h6.next; omega,fun j hj => by rw [h_put_ne _ _ (by omega),f6 _ (by omega),k3.2 _ (by omega),k02.2 _ hj]⟩,nw3.wb.mono (by show h3.next ≤ h6.next; omega) (fun j hj ej => by have := nw3.ge _ _ ej; rw [h_put_ne _ _ (by omega),f6 _ (by omega)]),fun j o ej => by have := nw3.ge _ _ ej; omega⟩
  have fin' : ∀ T,DiI (.slice a l.length none 1) at1 h.next (h.next + 1) bi off c1 w1 h1 0 T h1 → DinP l at_ h (fnEnd [.cell 4 (some 35),.tmp 5] (bindE (blockE 0 (loopN (evC (callX E X (N + 23)) 77 (N + 23) none L_purserref06_in_0) (N + 23) ⟨T,[],h1⟩)) (evC (callX E X (N + 23)) 77 (N + 23) none R_purserref06_in_0))) := by
    intro T I
    obtain ⟨T',h',rr,J⟩ := fin T I
    rw [rr]
    exact rest T' h' J
  clear rest fin
  obtain ⟨R,eR⟩ : ∃ R,R_purserref06_in_0 = R := ⟨_,rfl⟩
  obtain ⟨Lo,eLo⟩ : ∃ R,L_purserref06_in_0 = R := ⟨_,rfl⟩
  rw [eR,eLo] at fin' ⊢
  have fin2 := fun T q0 q1 q4 q6 q7 q9 => fin' T ⟨q0,q1,q4,q6,q7,q9,by rw [show flK w1 0 = List.replicate 32 0 from rfl,← z35]; exact g12,rfl,fun _ _ => rfl⟩
  clear fin' z35
  generalize Z35 = Z at *
  simp (config := {maxSteps := 2000000}) (disch := first | omega | (simp only [List.length_cons,List.length_nil,List.length_append,List.length_drop]; omega)) only [ehB,gB2,ehC,r1,Bool.not_true,fz,stZ,puZ,↓x_build,x_aggO,Nat.zero_add,↓l_loop,↓l_succ,h_next_new,↓m_st,m_stE,↓s_alloc,↓x_P0,Int.cast_ofNat_Int,↓s_skip,↓s_ops,↓s_seq,↓s_cond,↓s_block,↓s_nil,↓s_op,↓s_bindS,s_bindS,↓s_bindE,s_bindE,s_norm,↓s_condV,s_condV,↓s_getp,↓s_getp0,↓s_get,↓s_con,↓s_os0,↓s_os1,↓s_list0,↓s_list1,↓s_mov,↓s_bin,↓s_call,↓s_ext,s_same,b_neq,↓iteN_true,↓iteN_false,iteN_true,iteN_false,Nat.zero_add,Nat.reduceEqDiff,decide_true,decide_false,Bool.not_true,List.getElem?_cons_zero,List.getElem?_cons_succ]
  exact fin2 _ (by (simp only [s_getp,s_getp0,Nat.reduceEqDiff,decide_false,iteN_false]; try rfl)) (by (simp only [s_getp,Nat.reduceEqDiff,decide_false,decide_true,iteN_false,iteN_true]; try rfl)) (by (simp only [s_getp,s_getp0,Nat.reduceEqDiff,decide_false,decide_true,iteN_false,iteN_true]; try rfl)) (by (simp only [s_getp,s_getp0,Nat.reduceEqDiff,decide_false,decide_true,iteN_false,iteN_true]; try rfl)) (by (simp only [s_getp,Nat.reduceEqDiff,decide_false,decide_true,iteN_false,iteN_true]; try rfl)) (by (simp only [s_getp,decide_true,iteN_true]; try rfl))
end Go.Eng
