/- What functions of the program come to: own work. -/
import Derived.Test.YtfopajklnakmpaaBxI
namespace Go.Eng
open Go
variable {E : Nat → Option Fn} {X : Orc}
set_option linter.unusedSimpArgs false
set_option linter.unusedVariables false
/-! the document's own answers of layer 1 -/
structure EnRf (E : Nat → Option Fn) : Prop where
  pw : E k_purserref01_power = some f_purserref01_power
  fx : E k_purserref01_Fixed = some f_purserref01_Fixed
  sz : E k_purserref01_Size = some f_purserref01_Size
  by_ : E k_purserref01_Bytes = some f_purserref01_Bytes
  tw : E k_purserref01_Twin = some f_purserref01_Twin
structure NoRf (X : Orc) : Prop where
  pw : ∀ a h,X (.fn k_purserref01_power) a h = none
  fx : ∀ a h,X (.fn k_purserref01_Fixed) a h = none
  sz : ∀ a h,X (.fn k_purserref01_Size) a h = none
  by_ : ∀ a h,X (.fn k_purserref01_Bytes) a h = none
  tw : ∀ a h,X (.fn k_purserref01_Twin) a h = none
theorem pow256 (k : Nat) : 256 ^ k = 2 ^ (8 * k) := by rw [Nat.pow_mul]
structure PwI (n : Nat) (h0 : H) (i : Nat) (T : Tr V) (h : H) : Prop where
  il : i ≤ n
  t0 : evO T (.t 0) = .int .i64 (n : Int)
  t3 : evO T (.t 3) = .int .u64 ((256 ^ i : Nat) : Int)
  t4 : evO T (.t 4) = .int .i64 (i : Int)
  hh : h = h0
theorem power_go (e : E k_purserref01_power = some f_purserref01_power) (x : ∀ a h,X (.fn k_purserref01_power) a h = none) (N n : Nat) (hn : n ≤ 7) (h : H) : callX E X (N + 10) (.fn k_purserref01_power) [.int .i64 (n : Int)] h = some (.int .u64 ((256 ^ n : Nat) : Int),h) := by
  rw [x_cfn e _ _ (Nat.le_of_ble_eq_true rfl) (x _ _)]
  have fin : ∀ T,PwI n h 0 T h → fnEnd [.tmp 2] (bindE (blockE 0 (loopN (evC (callX E X (N + 9)) 13 (N + 9) none L_purserref01_power_0) (N + 9) ⟨T,[],h⟩)) (evC (callX E X (N + 9)) 13 (N + 9) none R_purserref01_power_0)) = some (.int .u64 ((256 ^ n : Nat) : Int),h) := by
    intro T I
    obtain ⟨T',h',r,t3,hh⟩ := loop_go (f := evC (callX E X (N + 9)) 13 (N + 9) none L_purserref01_power_0) (PwI n h) n (.exit 0) (by intro h; cases h) (fun T h' => evO T (.t 3) = .int .u64 ((256 ^ n : Nat) : Int) ∧ h' = h) (fun i T h' hi I => by
      obtain ⟨_,t0,t3,t4,hh⟩ := I
      have c0 : decide ((i : Int) < (n : Int)) = true := decide_eq_true (by omega)
      have wi : wr .i64 ((i : Int) + 1) = ((i + 1 : Nat) : Int) := by rw [wr_i64 (by omega)]; omega
      have pl : 256 ^ (i + 1) ≤ 256 ^ 7 := Nat.pow_le_pow_right (by omega) (by omega)
      have ps : 256 ^ (i + 1) = 256 ^ i * 256 := Nat.pow_succ ..
      have pl2 : 256 ^ (i + 1) ≤ 72057594037927936 := pl
      clear pl
      have i1 : i + 1 ≤ n := hi
      obtain ⟨p',ep'⟩ : ∃ p',256 ^ (i + 1) = p' := ⟨_,rfl⟩
      obtain ⟨p,ep⟩ : ∃ p,256 ^ i = p := ⟨_,rfl⟩
      rw [ep'] at ps pl2
      rw [ep] at ps t3
      have w1 : wr .u64 ((p : Int) * 256) = (p' : Int) := by rw [show (p : Int) * 256 = ((p' : Nat) : Int) by omega]; exact u64n _ (by omega)
      refine ⟨_,h',by
        simp (config := {maxSteps := 2000000}) (disch := first | omega | (simp only [List.length_cons,List.length_nil,List.length_append,List.length_drop]; omega)) only [L_purserref01_power_0,t0,t3,t4,c0,wi,w1,↓s_skip,↓s_ops,↓s_seq,↓s_cond,↓s_block,↓s_nil,↓s_op,↓s_bindS,s_bindS,↓s_bindE,s_bindE,s_norm,↓s_condV,s_condV,s_block_normal,↓s_getp,↓s_con,↓s_mov,↓s_bin,s_same,b_lss,b_add,b_mul,↓iteN_true,↓iteN_false,iteN_true,iteN_false,Nat.reduceEqDiff,decide_true,decide_false]
        exact rfl,⟨i1,(by (simp only [s_getp,Nat.reduceEqDiff,decide_false,iteN_false,t0]; try rfl)),by rw [ep']; exact (by (simp only [s_getp,Nat.reduceEqDiff,decide_false,decide_true,iteN_false,iteN_true]; try rfl)),(by (simp only [s_getp,decide_true,iteN_true]; try rfl)),hh⟩⟩) (fun T h' I => by
      obtain ⟨il,t0,t3,t4,hh⟩ := I
      have c0 : decide ((n : Int) < (n : Int)) = false := decide_eq_false (by omega)
      refine ⟨_,_,by
        simp (config := {maxSteps := 2000000}) (disch := first | omega | (simp only [List.length_cons,List.length_nil,List.length_append,List.length_drop]; omega)) only [L_purserref01_power_0,t0,t4,c0,↓s_ops,↓s_seq,↓s_cond,↓s_exit,↓s_nil,↓s_op,↓s_bindS,s_bindS,↓s_bindE,s_bindE,s_bindE_exit,s_norm,↓s_condV,s_condV,↓s_getp,↓s_mov,↓s_bin,s_same,b_lss,↓iteN_true,↓iteN_false,iteN_true,iteN_false,Nat.reduceEqDiff,decide_true,decide_false]
        exact rfl,(by (simp only [s_getp,Nat.reduceEqDiff,decide_false,iteN_false,t3]; try rfl)),hh⟩) n 0 (by omega) (N + 9) (by omega) T h I
    rw [r,hh]
    generalize 256 ^ n = p at *
    simp (config := {maxSteps := 2000000}) (disch := first | omega | (simp only [List.length_cons,List.length_nil,List.length_append,List.length_drop]; omega)) only [R_purserref01_power_0,t3,s_res0,↓s_ops,↓s_seq,↓s_ret,↓s_nil,↓s_op,↓s_bindS,s_bindS,↓s_bindE,s_bindE,s_norm,s_block_exit,↓s_getp,↓s_mov,s_end,s_res0,s_res1,s_tup1,↓iteN_true,iteN_true,decide_true,if_true]
  obtain ⟨R,eR⟩ : ∃ R,R_purserref01_power_0 = R := ⟨_,rfl⟩
  obtain ⟨Lo,eL⟩ : ∃ R,L_purserref01_power_0 = R := ⟨_,rfl⟩
  rw [eR,eL] at fin ⊢
  generalize e256 : 256 ^ n = p at *
  simp (config := {maxSteps := 2000000}) (disch := first | omega | (simp only [List.length_cons,List.length_nil,List.length_append,List.length_drop]; omega)) only [↓l_loop,↓l_succ,↓s_ops,↓s_seq,↓s_block,↓s_nil,↓s_op,↓s_bindS,s_bindS,↓s_bindE,s_bindE,s_norm,↓s_con,↓s_list0,↓s_list1,↓s_mov]
  exact fin _ ⟨by omega,(by (simp only [s_getp,Nat.reduceEqDiff,decide_false,iteN_false]; try rfl)),by rw [Nat.pow_zero]; exact (by (simp only [s_getp,Nat.reduceEqDiff,decide_false,decide_true,iteN_false,iteN_true]; try rfl)),(by (simp only [s_getp,decide_true,iteN_true]; try rfl)),rfl⟩
theorem leN_snoc (i n : Nat) : leN (i + 1) n = leN i n ++ [n / 2 ^ (8 * i) % 256] := by
  unfold leN
  rw [List.range_succ,List.map_append]; rfl
structure RFI (k n : Nat) (h0 : H) (i : Nat) (T : Tr V) (h : H) : Prop where
  il : i ≤ k
  t0 : evO T (.t 0) = .int .i64 (k : Int)
  t1 : evO T (.t 1) = .int .u64 (n : Int)
  t7 : evO T (.t 7) = .int .i64 (i : Int)
  st : ∃ a c e,evO T (.t 6) = .slice a i c e ∧ Nw h0 h (leN i n) a c e
theorem quoU (n p : Nat) (hp : 0 < p) (hn : n < 18446744073709551616) (e : EqK) (h : H) : binV .quo e h (.int .u64 (n : Int)) (.int .u64 (p : Int)) = some (.int .u64 ((n / p : Nat) : Int)) := by
  rw [b_quo _ _ _ _ _ (by omega),show Int.tdiv (n : Int) (p : Int) = ((n / p : Nat) : Int) from rfl,u64n _ (Nat.lt_of_le_of_lt (Nat.div_le_self _ _) hn)]
theorem remU (n : Nat) (e : EqK) (h : H) : binV .rem e h (.int .u64 (n : Int)) (.int .u64 256) = some (.int .u64 ((n % 256 : Nat) : Int)) := by
  rw [b_rem _ _ _ _ _ (by omega)]; rfl
theorem rf_step (e : EnRf E) (x : NoRf X) (N m k n : Nat) (hk : k ≤ 8) (hn : n < 18446744073709551616) (h0 : H) : ∀ i T h,i < k → RFI k n h0 i T h → ∃ T' h',evC (callX E X (N + 10)) 45 m none L_purserref01_Fixed_0 ⟨T,[],h⟩ = some (.normal,⟨T',[],h'⟩) ∧ RFI k n h0 (i + 1) T' h' := by
  intro i T h hi ⟨_,t0,t1,t7,⟨a,c,ez,t6,nw⟩⟩
  have c0 : decide ((i : Int) < (k : Int)) = true := decide_eq_true (by omega)
  have wi : wr .i64 ((i : Int) + 1) = ((i + 1 : Nat) : Int) := by rw [wr_i64 (by omega)]; omega
  have r1 := power_go e.pw x.pw N i (by omega) h
  have q1 := fun ee hh => quoU n (256 ^ i) (Nat.pow_pos (by omega)) hn ee hh
  have ls := leN_snoc i n
  rw [← pow256] at ls
  have i1 : i + 1 ≤ k := hi
  generalize 256 ^ i = p at *
  have q2 := fun ee hh => remU (n / p) ee hh
  have bl : n / p % 256 < 256 := Nat.mod_lt _ (by decide)
  generalize n / p = d at *
  generalize d % 256 = b at *
  have w8 : wr .u8 (b : Int) = (b : Int) := by rw [w8n,Nat.mod_eq_of_lt bl]
  obtain ⟨h1,e1⟩ : ∃ h1,h.new (.cells [.int .u8 (b : Int)] .rw) = h1 := ⟨_,rfl⟩
  have k1 : Kp h h1 := by rw [← e1]; exact Kp.new _ _
  have n1 : h1.next = h.next + 1 := by rw [← e1]; rfl
  have sc : srcCells h1 1 (.slice (some (h.next,0)) 1 (some 1) 1) = some (1,ofI .u8 [b]) := by rw [← e1,m_src,h_new_same]; rfl
  have wb1 := nw.wb.kp k1
  have l0 := leN_len i n
  obtain ⟨a',c',e',h2,ap,wb2,n2,f2,ow⟩ := ap_wb h1 (leN i n) [b] a c ez wb1 (by rw [l0]; show i + 1 ≤ _; omega)
  rw [← ls,leN_len,leN_len] at ap
  rw [← ls] at wb2
  have nw2 : Nw h0 h2 (leN (i + 1) n) a' c' e' := by
    have kk := nw.kp
    refine ⟨⟨by have := kk.1; omega,fun j hj => ?_⟩,wb2,fun q o ea => ?_⟩
    · have := kk.1
      rw [f2 j (by omega) (fun ea => by have := nw.ge _ _ ea; omega),k1.2 _ (by omega),kk.2 _ hj]
    · rcases ow with ow | ow
      · rw [ow] at ea; exact nw.ge _ _ ea
      · rw [ow] at ea; cases ea; have := kk.1; omega
  replace ap : appendC h1 1 1 (.slice a i c ez) (some (1,ofI .u8 [b])) = some (.slice a' (i + 1) c' e',h2) := ap
  obtain ⟨C,eC⟩ : ∃ C,ofI .u8 [b] = C := ⟨_,rfl⟩
  rw [eC] at sc ap
  refine ⟨_,h2,by
    simp (config := {maxSteps := 2000000}) (disch := first | omega | (simp only [List.length_cons,List.length_nil,List.length_append,List.length_drop]; omega)) only [L_purserref01_Fixed_0,t0,t1,t6,t7,r1,q1,q2,w8,e1,sc,ap,c0,wi,↓s_append,↓x_conv,x_convV,Nat.zero_add,w_zero,↓x_buildS,x_buildE,↓x_P0,↓x_P1,x_fill0,x_filli,List.length_cons,List.length_nil,List.drop_succ_cons,List.drop_nil,↓s_skip,↓s_ops,↓s_seq,↓s_cond,↓s_block,↓s_nil,↓s_op,↓s_bindS,s_bindS,↓s_bindE,s_bindE,s_norm,↓s_condV,s_condV,s_block_normal,↓s_getp,↓s_con,↓s_os0,↓s_os1,↓s_mov,↓s_bin,↓s_call,s_same,b_lss,b_add,↓iteN_true,↓iteN_false,iteN_true,iteN_false,Nat.zero_add,List.append_nil,Nat.reduceEqDiff,decide_true,decide_false]
    exact rfl,⟨i1,(by (simp only [s_getp,Nat.reduceEqDiff,decide_false,iteN_false,t0]; try rfl)),(by (simp only [s_getp,Nat.reduceEqDiff,decide_false,iteN_false,t1]; try rfl)),(by (simp only [s_getp,decide_true,iteN_true]; try rfl)),⟨a',c',e',(by (simp only [s_getp,Nat.reduceEqDiff,decide_false,decide_true,iteN_false,iteN_true]; try rfl)),nw2⟩⟩⟩
theorem rfixed_go (e : EnRf E) (x : NoRf X) (N : Nat) (s : Int) (n : Nat) (hn : n < 18446744073709551616) (h : H) :
    ∃ h' a c ez,callX E X (N + 20) (.fn k_purserref01_Fixed) [.int .i64 s,.int .u64 (n : Int)] h = some (.tup [.slice a (fixB s n).length c ez,.int .i64 (fixE s n : Nat)],h') ∧ Nw h h' (fixB s n) a c ez := by
  rw [x_cfn e.fx _ _ (Nat.le_of_ble_eq_true rfl) (x.fx _ _)]
  cases hs : sizedI s with
  | false =>
    have e2 : fixE s n = 2 := by unfold fixE; rw [hs,if_neg (by simp)]
    have e3 : fixB s n = [] := by unfold fixB; rw [e2,if_neg (by omega)]
    rw [e2,e3]
    unfold sizedI at hs
    simp only [Bool.or_eq_false_iff] at hs
    obtain ⟨q1,q2,q4,q8⟩ := hs
    refine ⟨h,none,some 0,0,?_,⟨Kp.refl _,.nil _,fun _ _ e => by cases e⟩⟩
    rw [List.length_nil]
    simp (config := {maxSteps := 2000000}) (disch := first | omega | (simp only [List.length_cons,List.length_nil,List.length_append,List.length_drop]; omega)) only [q1,q2,q4,q8,Nat.zero_add,Int.cast_ofNat_Int,s_res0,↓s_ops,↓s_seq,↓s_cond,↓s_ret,↓s_nil,↓s_op,↓s_opg,↓s_wanted',↓s_wantV,s_wantV,↓s_bindS,s_bindS,↓s_bindE,s_bindE,s_bindE_ret,s_norm,↓s_condV,s_condV,↓s_getp,↓s_get,↓s_con,↓s_list0,↓s_list1,↓s_mov,↓s_pick,↓s_pickE,s_pickE,↓s_bin,s_same,b_neq,s_end,s_res0,s_res1,s_tup2,↓iteN_true,↓iteN_false,iteN_true,iteN_false,Nat.zero_add,Nat.reduceEqDiff,decide_true,decide_false,Bool.not_false,beq_self_eq_true]
  | true =>
    obtain ⟨k,rfl,k0,k8,kk⟩ := sizedI_nat hs
    have wp := wid_pow' n k hn kk
    have fin : n < 256 ^ k → ∀ T,RFI k n h 0 T h → ∃ h' a c ez,fnEnd [.tmp 4,.tmp 5] (bindE (blockE 0 (loopN (evC (callX E X (N + 19)) 45 (N + 19) none L_purserref01_Fixed_0) (N + 19) ⟨T,[],h⟩)) (evC (callX E X (N + 19)) 45 (N + 19) none R_purserref01_Fixed_0)) = some (.tup [.slice a (fixB k n).length c ez,.int .i64 (fixE k n : Nat)],h') ∧ Nw h h' (fixB k n) a c ez := by
      intro hlt T I
      have e2 : fixE k n = 0 := by unfold fixE; rw [hs,if_pos rfl,if_pos (by have := wp.2 hlt; omega)]
      have e3 : fixB k n = leN k n := by unfold fixB; rw [e2,if_pos rfl,Int.toNat_natCast]
      obtain ⟨T',h',r,a,c,ez,t6,nw⟩ := loop_go (f := evC (callX E X (N + 19)) 45 (N + 19) none L_purserref01_Fixed_0) (RFI k n h) k (.exit 0) (by intro h; cases h) (fun T h' => ∃ a c e,evO T (.t 6) = .slice a k c e ∧ Nw h h' (leN k n) a c e) (rf_step e x (N + 9) (N + 19) k n k8 hn h) (fun T h' I => by
        obtain ⟨il,t0,t1,t7,⟨a,c,ez,t6,nw⟩⟩ := I
        have c0 : decide ((k : Int) < (k : Int)) = false := decide_eq_false (by omega)
        refine ⟨_,_,by
          simp (config := {maxSteps := 2000000}) (disch := first | omega | (simp only [List.length_cons,List.length_nil,List.length_append,List.length_drop]; omega)) only [L_purserref01_Fixed_0,t0,t7,c0,↓s_ops,↓s_seq,↓s_cond,↓s_exit,↓s_nil,↓s_op,↓s_bindS,s_bindS,↓s_bindE,s_bindE,s_bindE_exit,s_norm,↓s_condV,s_condV,↓s_getp,↓s_mov,↓s_bin,s_same,b_lss,↓iteN_true,↓iteN_false,iteN_true,iteN_false,Nat.reduceEqDiff,decide_true,decide_false]
          exact rfl,⟨a,c,ez,(by (simp only [s_getp,Nat.reduceEqDiff,decide_false,iteN_false,t6]; try rfl)),nw⟩⟩) k 0 (by omega) (N + 19) (by omega) T h I
      rw [r,e2,e3,leN_len]
      refine ⟨h',a,c,ez,?_,nw⟩
      simp (config := {maxSteps := 2000000}) (disch := first | omega | (simp only [List.length_cons,List.length_nil,List.length_append,List.length_drop]; omega)) only [R_purserref01_Fixed_0,t6,Int.cast_ofNat_Int,s_res0,↓s_ops,↓s_seq,↓s_ret,↓s_nil,↓s_op,↓s_bindS,s_bindS,↓s_bindE,s_bindE,s_norm,s_block_exit,↓s_getp,↓s_con,↓s_mov,s_end,s_res0,s_res1,s_tup2,↓iteN_true,↓iteN_false,iteN_true,iteN_false,Nat.reduceEqDiff,decide_true,decide_false,if_true]
      try rfl
    have bad : ¬ n < 256 ^ k → fixE k n = 10 ∧ fixB k n = [] := fun hlt => by
      have e2 : fixE k n = 10 := by unfold fixE; rw [hs,if_pos rfl,if_neg (fun h => hlt (wp.1 (by omega)))]
      exact ⟨e2,by unfold fixB; rw [e2,if_neg (by omega)]⟩
    have r1 := fun (h7 : k ≤ 7) => power_go e.pw x.pw (N + 9) k h7 h
    replace r1 : k ≤ 7 → callX E X (N + 19) (.fn k_purserref01_power) [.int .i64 (k : Int)] h = some (.int .u64 ((256 ^ k : Nat) : Int),h) := r1
    obtain ⟨R,eR⟩ : ∃ R,R_purserref01_Fixed_0 = R := ⟨_,rfl⟩
    obtain ⟨Lo,eL⟩ : ∃ R,L_purserref01_Fixed_0 = R := ⟨_,rfl⟩
    rw [eR,eL] at fin ⊢
    have dk : ∀ j : Nat,decide ((k : Int) = (j : Int)) = decide (k = j) := fun j => by rw [decide_eq_decide]; omega
    have d1 := dk 1
    have d2 := dk 2
    have d4 := dk 4
    have d8 := dk 8
    simp only [Int.cast_ofNat_Int] at d1 d2 d4 d8
    have I0 : ∀ T,evO T (.t 0) = .int .i64 (k : Int) → evO T (.t 1) = .int .u64 (n : Int) → evO T (.t 7) = .int .i64 0 → evO T (.t 6) = .slice none 0 (some 0) 0 → RFI k n h 0 T h := fun T a1 a2 a3 a4 => ⟨by omega,a1,a2,a3,⟨none,some 0,0,a4,⟨Kp.refl _,.nil _,fun _ _ e => by cases e⟩⟩⟩
    have hd : (decide (k = 1) || (decide (k = 2) || (decide (k = 4) || decide (k = 8)))) = true := by
      rcases kk with h | h | h | h <;> subst h <;> rfl
    by_cases h7 : k ≤ 7
    · have c7 : decide ((k : Int) < 8) = true := decide_eq_true (by omega)
      replace r1 := r1 h7
      by_cases hlt : n < 256 ^ k
      · have fin' := fin hlt
        clear fin bad
        generalize 256 ^ k = p at *
        have cg : decide ((p : Int) ≤ (n : Int)) = false := decide_eq_false (by omega)
        generalize decide (k = 1) = b1 at *
        generalize decide (k = 2) = b2 at *
        generalize decide (k = 4) = b4 at *
        generalize decide (k = 8) = b8 at *
        cases b1 <;> cases b2 <;> cases b4 <;> cases b8 <;> first | (exfalso; revert hd; decide; done) | skip
        all_goals (simp (config := {maxSteps := 2000000}) (disch := first | omega | (simp only [List.length_cons,List.length_nil,List.length_append,List.length_drop]; omega)) only [d1,d2,d4,d8,c7,r1,cg,Nat.zero_add,↓l_loop,↓l_succ,↓s_skip,↓s_ops,↓s_seq,↓s_cond,↓s_block,↓s_nil,↓s_op,↓s_opg,↓s_wanted',↓s_wantV,s_wantV,beq_true,↓s_bindS,s_bindS,↓s_bindE,s_bindE,s_norm,↓s_condV,s_condV,↓s_getp,↓s_get,↓s_con,↓s_os0,↓s_os1,↓s_list0,↓s_list1,↓s_mov,↓s_pick,↓s_pickE,s_pickE,↓s_bin,↓s_call,s_same,b_neq,b_lss,b_geq,↓iteN_true,↓iteN_false,iteN_true,iteN_false,Nat.zero_add,Nat.reduceEqDiff,decide_true,decide_false,Bool.not_true,Bool.not_false,beq_self_eq_true]; exact fin' _ (I0 _ (by (simp only [s_getp,Nat.reduceEqDiff,decide_false,iteN_false]; try rfl)) (by (simp only [s_getp,Nat.reduceEqDiff,decide_false,iteN_false]; try rfl)) (by (simp only [s_getp,decide_true,iteN_true]; try rfl)) (by (simp only [s_getp,Nat.reduceEqDiff,decide_false,decide_true,iteN_false,iteN_true]; try rfl))))
      · obtain ⟨e2,e3⟩ := bad hlt
        rw [e2,e3]
        generalize 256 ^ k = p at *
        have cg : decide ((p : Int) ≤ (n : Int)) = true := decide_eq_true (by omega)
        refine ⟨h,none,some 0,0,?_,⟨Kp.refl _,.nil _,fun _ _ e => by cases e⟩⟩
        rw [List.length_nil]
        generalize decide (k = 1) = b1 at *
        generalize decide (k = 2) = b2 at *
        generalize decide (k = 4) = b4 at *
        generalize decide (k = 8) = b8 at *
        cases b1 <;> cases b2 <;> cases b4 <;> cases b8 <;> first | (exfalso; revert hd; decide; done) | skip
        all_goals (simp (config := {maxSteps := 2000000}) (disch := first | omega | (simp only [List.length_cons,List.length_nil,List.length_append,List.length_drop]; omega)) only [d1,d2,d4,d8,c7,r1,cg,Nat.zero_add,Int.cast_ofNat_Int,s_res0,↓s_skip,↓s_ops,↓s_seq,↓s_cond,↓s_ret,↓s_nil,↓s_op,↓s_opg,↓s_wanted',↓s_wantV,s_wantV,beq_true,↓s_bindS,s_bindS,↓s_bindE,s_bindE,s_bindE_ret,s_norm,↓s_condV,s_condV,↓s_getp,↓s_get,↓s_con,↓s_os0,↓s_os1,↓s_list0,↓s_list1,↓s_mov,↓s_pick,↓s_pickE,s_pickE,↓s_bin,↓s_call,s_same,b_neq,b_lss,b_geq,s_end,s_res0,s_res1,s_tup2,↓iteN_true,↓iteN_false,iteN_true,iteN_false,Nat.zero_add,Nat.reduceEqDiff,decide_true,decide_false,Bool.not_true,Bool.not_false,beq_self_eq_true])
    · obtain rfl : k = 8 := by omega
      have fin := fin hn
      have c7 : decide (((8 : Nat) : Int) < 8) = false := rfl
      have c7' : decide ((8 : Int) < 8) = false := rfl
      simp (config := {maxSteps := 2000000}) (disch := first | omega | (simp only [List.length_cons,List.length_nil,List.length_append,List.length_drop]; omega)) only [Nat.zero_add,↓l_loop,↓l_succ,Int.reduceLT,Int.reduceEq,Int.cast_ofNat_Int,↓s_skip,↓s_ops,↓s_seq,↓s_cond,↓s_block,↓s_nil,↓s_op,↓s_opg,↓s_wanted',↓s_wantV,s_wantV,beq_true,↓s_bindS,s_bindS,↓s_bindE,s_bindE,s_norm,↓s_condV,s_condV,↓s_getp,↓s_get,↓s_con,↓s_list0,↓s_list1,↓s_mov,↓s_pick,↓s_pickE,s_pickE,↓s_bin,s_same,b_neq,b_lss,↓iteN_true,↓iteN_false,iteN_true,iteN_false,Nat.zero_add,Nat.reduceEqDiff,decide_true,decide_false,Bool.not_true,Bool.not_false,beq_self_eq_true]
      exact fin _ (I0 _ (by (simp only [s_getp,Nat.reduceEqDiff,decide_false,iteN_false]; try rfl)) (by (simp only [s_getp,Nat.reduceEqDiff,decide_false,iteN_false]; try rfl)) (by (simp only [s_getp,decide_true,iteN_true]; try rfl)) (by (simp only [s_getp,Nat.reduceEqDiff,decide_false,decide_true,iteN_false,iteN_true]; try rfl)))
end Go.Eng
namespace Go.Eng
open Go
variable {E : Nat → Option Fn} {X : Orc}
set_option linter.unusedSimpArgs false
set_option linter.unusedVariables false
/-- what Size of the document answers: a slice that is its own,or a row of one -/
def SzH (h : H) (w : List Nat) (a : Option (Nat × Nat)) (c : Option Nat) (e : Nat) : Prop := Wb h w a c e ∨ ∃ y q,w = [y] ∧ a = some (q,0) ∧ c = some 1 ∧ e = 1 ∧ h.get q = some (.cells (ofI .u8 w) .rw) ∧ q < h.next
theorem SzH.src {h : H} {w : List Nat} {a : Option (Nat × Nat)} {c : Option Nat} {e : Nat} (s : SzH h w a c e) : SrcH h a e w := by
  rcases s with s | ⟨y,q,rfl,rfl,rfl,rfl,g,hq⟩
  · exact s.src
  · exact .inr ⟨q,0,_,.rw,rfl,rfl,hq,g,by rw [ofI_len]; omega,by rw [List.drop_zero]; exact List.take_of_length_le (by rw [ofI_len]; exact Nat.le_refl _)⟩
theorem twinv_go (e : E k_purserref01_Twin = some f_purserref01_Twin) (x : ∀ a h,X (.fn k_purserref01_Twin) a h = none) (N : Nat) (l : List Nat) (hl : l.length ≤ 100000000) (a : Option (Nat × Nat)) (c : Option Nat) (ez : Nat) (h : H) (src : SrcH h a ez l) :
    ∃ ao co eo h',callX E X (N + 1) (.fn k_purserref01_Twin) [.slice a l.length c ez] h = some (.slice ao l.length co eo,h') ∧ Nw h h' l ao co eo := by
  rw [x_cfn e _ _ (Nat.le_of_ble_eq_true rfl) (x _ _)]
  have sc := src.cellz c
  obtain ⟨a2,c2,e2,h',ap,nw⟩ := app_nw h l hl
  refine ⟨a2,c2,e2,h',?_,nw⟩
  obtain ⟨n,en⟩ : ∃ n,l.length = n := ⟨_,rfl⟩
  rw [en] at sc ap ⊢
  simp (config := {maxSteps := 2000000}) (disch := first | omega | (simp only [List.length_cons,List.length_nil,List.length_append,List.length_drop]; omega)) only [sc,ap,↓s_append,s_res0,↓s_ops,↓s_seq,↓s_ret,↓s_nil,↓s_op,↓s_bindS,s_bindS,↓s_bindE,s_bindE,s_norm,↓s_getp,↓s_get,↓s_con,↓s_list0,↓s_list1,↓s_mov,s_end,s_res0,s_res1,s_tup1,↓iteN_true,↓iteN_false,iteN_true,iteN_false,Nat.reduceEqDiff,decide_true,decide_false]
end Go.Eng
namespace Go.Eng
open Go
variable {E : Nat → Option Fn} {X : Orc}
set_option linter.unusedSimpArgs false
set_option linter.unusedVariables false
/-! the document's bytes of a transaction -/
theorem Nw.ap {h0 h : H} {w : List Nat} {a : Option (Nat × Nat)} {c : Option Nat} {e : Nat} (nw : Nw h0 h w a c e) (l : List Nat) (hl : w.length + l.length ≤ 100000000) :
    ∃ a' c' e' h',appendC h 1 1 (.slice a w.length c e) (some (l.length,ofI .u8 l)) = some (.slice a' (w ++ l).length c' e',h') ∧ Nw h0 h' (w ++ l) a' c' e' ∧ h.next ≤ h'.next ∧ (∀ i,i < h.next → a ≠ some (i,0) → h'.get i = h.get i) ∧ ∀ q o,a' = some (q,o) → a = some (q,o) ∨ h.next ≤ q := by
  obtain ⟨a',c',e',h',r,wb,hn,fr,ow⟩ := ap_wb h w l a c e nw.wb hl
  have k0 := nw.kp.1
  refine ⟨a',c',e',h',r,⟨⟨by omega,fun i hi => ?_⟩,wb,fun q o eq => ?_⟩,hn,fr,fun q o eq => ?_⟩
  · rw [fr i (by omega) (fun e => by have := nw.ge _ _ e; omega),nw.kp.2 _ hi]
  · rcases ow with ow | ow
    · rw [ow] at eq; exact nw.ge _ _ eq
    · rw [ow] at eq; cases eq; omega
  · rcases ow with ow | ow
    · rw [ow] at eq; exact .inl eq
    · rw [ow] at eq; cases eq; exact .inr (Nat.le_refl _)
theorem Nw.k {h0 h h' : H} {w : List Nat} {a : Option (Nat × Nat)} {c : Option Nat} {e : Nat} (nw : Nw h0 h w a c e) (k : Kp h h') : Nw h0 h' w a c e := ⟨nw.kp.trans k,nw.wb.kp k,nw.ge⟩
structure NoDb (X : Orc) : Prop where
  rf : NoRf X
  nu : ∀ a h,X (.fn k_purserref06_num) a h = none
  by_ : ∀ a h,X (.fn k_purserref06_Bytes) a h = none
  sa : ∀ a h,X (.fn k_purserref06_Same) a h = none
end Go.Eng
namespace Go.Eng
open Go
variable {E : Nat → Option Fn} {X : Orc}
set_option linter.unusedSimpArgs false
set_option linter.unusedVariables false
end Go.Eng
