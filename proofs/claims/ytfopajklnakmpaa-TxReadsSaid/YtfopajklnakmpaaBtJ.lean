/- What functions of the program come to: own work. -/
import Derived.Test.YtfopajklnakmpaaBtI
namespace Go.Eng
open Go
variable {E : Nat → Option Fn} {X : Orc}
set_option linter.unusedSimpArgs false
set_option linter.unusedVariables false
/-! the document's own answers of layer 1 -/
structure EnRf (E : Nat → Option Fn) : Prop where
  pw : E k_purserref01_power = some f_purserref01_power
  fx : E k_purserref01_Fixed = some f_purserref01_Fixed
  sz : E k_purserref01_Size = some f_purserref01_Size
  by_ : E k_purserref01_Bytes = some f_purserref01_Bytes
  tw : E k_purserref01_Twin = some f_purserref01_Twin
structure NoRf (X : Orc) : Prop where
  pw : ∀ a h,X (.fn k_purserref01_power) a h = none
  fx : ∀ a h,X (.fn k_purserref01_Fixed) a h = none
  sz : ∀ a h,X (.fn k_purserref01_Size) a h = none
  by_ : ∀ a h,X (.fn k_purserref01_Bytes) a h = none
  tw : ∀ a h,X (.fn k_purserref01_Twin) a h = none
theorem pow256 (k : Nat) : 256 ^ k = 2 ^ (8 * k) := by rw [Nat.pow_mul]
structure PwI (n : Nat) (h0 : H) (i : Nat) (T : Tr V) (h : H) : Prop where
  il : i ≤ n
  t0 : evO T (.t 0) = .int .i64 (n : Int)
  t3 : evO T (.t 3) = .int .u64 ((256 ^ i : Nat) : Int)
  t4 : evO T (.t 4) = .int .i64 (i : Int)
  hh : h = h0
theorem power_go (e : E k_purserref01_power = some f_purserref01_power) (x : ∀ a h,X (.fn k_purserref01_power) a h = none) (N n : Nat) (hn : n ≤ 7) (h : H) : callX E X (N + 10) (.fn k_purserref01_power) [.int .i64 (n : Int)] h = some (.int .u64 ((256 ^ n : Nat) : Int),h) := by
  rw [x_cfn e _ _ (Nat.le_of_ble_eq_true rfl) (x _ _)]
  have fin : ∀ T,PwI n h 0 T h → fnEnd [.tmp 2] (bindE (blockE 0 (loopN (evC (callX E X (N + 9)) 13 (N + 9) none L_purserref01_power_0) (N + 9) ⟨T,[],h⟩)) (evC (callX E X (N + 9)) 13 (N + 9) none R_purserref01_power_0)) = some (.int .u64 ((256 ^ n : Nat) : Int),h) := by
    intro T I
    obtain ⟨T',h',r,t3,hh⟩ := loop_go (f := evC (callX E X (N + 9)) 13 (N + 9) none L_purserref01_power_0) (PwI n h) n (.exit 0) (by intro h; cases h) (fun T h' => evO T (.t 3) = .int .u64 ((256 ^ n : Nat) : Int) ∧ h' = h) (fun i T h' hi I => by
      obtain ⟨_,t0,t3,t4,hh⟩ := I
      have c0 : decide ((i : Int) < (n : Int)) = true := decide_eq_true (by omega)
      have wi : wr .i64 ((i : Int) + 1) = ((i + 1 : Nat) : Int) := by rw [wr_i64 (by omega)]; omega
      have pl : 256 ^ (i + 1) ≤ 256 ^ 7 := Nat.pow_le_pow_right (by omega) (by omega)
      have ps : 256 ^ (i + 1) = 256 ^ i * 256 := Nat.pow_succ ..
      have pl2 : 256 ^ (i + 1) ≤ 72057594037927936 := pl
      clear pl
      have i1 : i + 1 ≤ n := hi
      obtain ⟨p',ep'⟩ : ∃ p',256 ^ (i + 1) = p' := ⟨_,rfl⟩
      obtain ⟨p,ep⟩ : ∃ p,256 ^ i = p := ⟨_,rfl⟩
      rw [ep'] at ps pl2
      rw [ep] at ps t3
      have w1 : wr .u64 ((p : Int) * 256) = (p' : Int) := by rw [show (p : Int) * 256 = ((p' : Nat) : Int) by omega]; exact u64n _ (by omega)
      refine ⟨_,h',by
        simp (config := {maxSteps := 2000000}) (disch := first | omega | (simp only [List.length_cons,List.length_nil,List.length_append,List.length_drop]; omega)) only [L_purserref01_power_0,t0,t3,t4,c0,wi,w1,↓s_skip,↓s_ops,↓s_seq,↓s_cond,↓s_block,↓s_nil,↓s_op,↓s_bindS,s_bindS,↓s_bindE,s_bindE,s_norm,↓s_condV,s_condV,s_block_normal,↓s_getp,↓s_con,↓s_mov,↓s_bin,s_same,b_lss,b_add,b_mul,↓iteN_true,↓iteN_false,iteN_true,iteN_false,Nat.reduceEqDiff,decide_true,decide_false]
        exact rfl,⟨i1,(by (simp only [s_getp,Nat.reduceEqDiff,decide_false,iteN_false,t0]; try rfl)),by rw [ep']; exact (by (simp only [s_getp,Nat.reduceEqDiff,decide_false,decide_true,iteN_false,iteN_true]; try rfl)),(by (simp only [s_getp,decide_true,iteN_true]; try rfl)),hh⟩⟩) (fun T h' I => by
      obtain ⟨il,t0,t3,t4,hh⟩ := I
      have c0 : decide ((n : Int) < (n : Int)) = false := decide_eq_false (by omega)
      refine ⟨_,_,by
        simp (config := {maxSteps := 2000000}) (disch := first | omega | (simp only [List.length_cons,List.length_nil,List.length_append,List.length_drop]; omega)) only [L_purserref01_power_0,t0,t4,c0,↓s_ops,↓s_seq,↓s_cond,↓s_exit,↓s_nil,↓s_op,↓s_bindS,s_bindS,↓s_bindE,s_bindE,s_bindE_exit,s_norm,↓s_condV,s_condV,↓s_getp,↓s_mov,↓s_bin,s_same,b_lss,↓iteN_true,↓iteN_false,iteN_true,iteN_false,Nat.reduceEqDiff,decide_true,decide_false]
        exact rfl,(by (simp only [s_getp,Nat.reduceEqDiff,decide_false,iteN_false,t3]; try rfl)),hh⟩) n 0 (by omega) (N + 9) (by omega) T h I
    rw [r,hh]
    generalize 256 ^ n = p at *
    simp (config := {maxSteps := 2000000}) (disch := first | omega | (simp only [List.length_cons,List.length_nil,List.length_append,List.length_drop]; omega)) only [R_purserref01_power_0,t3,s_res0,↓s_ops,↓s_seq,↓s_ret,↓s_nil,↓s_op,↓s_bindS,s_bindS,↓s_bindE,s_bindE,s_norm,s_block_exit,↓s_getp,↓s_mov,s_end,s_res0,s_res1,s_tup1,↓iteN_true,iteN_true,decide_true,if_true]
  obtain ⟨R,eR⟩ : ∃ R,R_purserref01_power_0 = R := ⟨_,rfl⟩
  obtain ⟨Lo,eL⟩ : ∃ R,L_purserref01_power_0 = R := ⟨_,rfl⟩
  rw [eR,eL] at fin ⊢
  generalize e256 : 256 ^ n = p at *
  simp (config := {maxSteps := 2000000}) (disch := first | omega | (simp only [List.length_cons,List.length_nil,List.length_append,List.length_drop]; omega)) only [↓l_loop,↓l_succ,↓s_ops,↓s_seq,↓s_block,↓s_nil,↓s_op,↓s_bindS,s_bindS,↓s_bindE,s_bindE,s_norm,↓s_con,↓s_list0,↓s_list1,↓s_mov]
  exact fin _ ⟨by omega,(by (simp only [s_getp,Nat.reduceEqDiff,decide_false,iteN_false]; try rfl)),by rw [Nat.pow_zero]; exact (by (simp only [s_getp,Nat.reduceEqDiff,decide_false,decide_true,iteN_false,iteN_true]; try rfl)),(by (simp only [s_getp,decide_true,iteN_true]; try rfl)),rfl⟩
theorem leN_snoc (i n : Nat) : leN (i + 1) n = leN i n ++ [n / 2 ^ (8 * i) % 256] := by
  unfold leN
  rw [List.range_succ,List.map_append]; rfl
structure RFI (k n : Nat) (h0 : H) (i : Nat) (T : Tr V) (h : H) : Prop where
  il : i ≤ k
  t0 : evO T (.t 0) = .int .i64 (k : Int)
  t1 : evO T (.t 1) = .int .u64 (n : Int)
  t7 : evO T (.t 7) = .int .i64 (i : Int)
  st : ∃ a c e,evO T (.t 6) = .slice a i c e ∧ Nw h0 h (leN i n) a c e
theorem quoU (n p : Nat) (hp : 0 < p) (hn : n < 18446744073709551616) (e : EqK) (h : H) : binV .quo e h (.int .u64 (n : Int)) (.int .u64 (p : Int)) = some (.int .u64 ((n / p : Nat) : Int)) := by
  rw [b_quo _ _ _ _ _ (by omega),show Int.tdiv (n : Int) (p : Int) = ((n / p : Nat) : Int) from rfl,u64n _ (Nat.lt_of_le_of_lt (Nat.div_le_self _ _) hn)]
theorem remU (n : Nat) (e : EqK) (h : H) : binV .rem e h (.int .u64 (n : Int)) (.int .u64 256) = some (.int .u64 ((n % 256 : Nat) : Int)) := by
  rw [b_rem _ _ _ _ _ (by omega)]; rfl
theorem rf_step (e : EnRf E) (x : NoRf X) (N m k n : Nat) (hk : k ≤ 8) (hn : n < 18446744073709551616) (h0 : H) : ∀ i T h,i < k → RFI k n h0 i T h → ∃ T' h',evC (callX E X (N + 10)) 45 m none L_purserref01_Fixed_0 ⟨T,[],h⟩ = some (.normal,⟨T',[],h'⟩) ∧ RFI k n h0 (i + 1) T' h' := by
  intro i T h hi ⟨_,t0,t1,t7,⟨a,c,ez,t6,nw⟩⟩
  have c0 : decide ((i : Int) < (k : Int)) = true := decide_eq_true (by omega)
  have wi : wr .i64 ((i : Int) + 1) = ((i + 1 : Nat) : Int) := by rw [wr_i64 (by omega)]; omega
  have r1 := power_go e.pw x.pw N i (by omega) h
  have q1 := fun ee hh => quoU n (256 ^ i) (Nat.pow_pos (by omega)) hn ee hh
  have ls := leN_snoc i n
  rw [← pow256] at ls
  have i1 : i + 1 ≤ k := hi
  generalize 256 ^ i = p at *
  have q2 := fun ee hh => remU (n / p) ee hh
  have bl : n / p % 256 < 256 := Nat.mod_lt _ (by decide)
  generalize n / p = d at *
  generalize d % 256 = b at *
  have w8 : wr .u8 (b : Int) = (b : Int) := by rw [w8n,Nat.mod_eq_of_lt bl]
  obtain ⟨h1,e1⟩ : ∃ h1,h.new (.cells [.int .u8 (b : Int)] .rw) = h1 := ⟨_,rfl⟩
  have k1 : Kp h h1 := by rw [← e1]; exact Kp.new _ _
  have n1 : h1.next = h.next + 1 := by rw [← e1]; rfl
  have sc : srcCells h1 1 (.slice (some (h.next,0)) 1 (some 1) 1) = some (1,ofI .u8 [b]) := by rw [← e1,m_src,h_new_same]; rfl
  have wb1 := nw.wb.kp k1
  have l0 := leN_len i n
  obtain ⟨a',c',e',h2,ap,wb2,n2,f2,ow⟩ := ap_wb h1 (leN i n) [b] a c ez wb1 (by rw [l0]; show i + 1 ≤ _; omega)
  rw [← ls,leN_len,leN_len] at ap
  rw [← ls] at wb2
  have nw2 : Nw h0 h2 (leN (i + 1) n) a' c' e' := by
    have kk := nw.kp
    refine ⟨⟨by have := kk.1; omega,fun j hj => ?_⟩,wb2,fun q o ea => ?_⟩
    · have := kk.1
      rw [f2 j (by omega) (fun ea => by have := nw.ge _ _ ea; omega),k1.2 _ (by omega),kk.2 _ hj]
    · rcases ow with ow | ow
      · rw [ow] at ea; exact nw.ge _ _ ea
      · rw [ow] at ea; cases ea; have := kk.1; omega
  replace ap : appendC h1 1 1 (.slice a i c ez) (some (1,ofI .u8 [b])) = some (.slice a' (i + 1) c' e',h2) := ap
  obtain ⟨C,eC⟩ : ∃ C,ofI .u8 [b] = C := ⟨_,rfl⟩
  rw [eC] at sc ap
  refine ⟨_,h2,by
    simp (config := {maxSteps := 2000000}) (disch := first | omega | (simp only [List.length_cons,List.length_nil,List.length_append,List.length_drop]; omega)) only [L_purserref01_Fixed_0,t0,t1,t6,t7,r1,q1,q2,w8,e1,sc,ap,c0,wi,↓s_append,↓x_conv,x_convV,Nat.zero_add,w_zero,↓x_buildS,x_buildE,↓x_P0,↓x_P1,x_fill0,x_filli,List.length_cons,List.length_nil,List.drop_succ_cons,List.drop_nil,↓s_skip,↓s_ops,↓s_seq,↓s_cond,↓s_block,↓s_nil,↓s_op,↓s_bindS,s_bindS,↓s_bindE,s_bindE,s_norm,↓s_condV,s_condV,s_block_normal,↓s_getp,↓s_con,↓s_os0,↓s_os1,↓s_mov,↓s_bin,↓s_call,s_same,b_lss,b_add,↓iteN_true,↓iteN_false,iteN_true,iteN_false,Nat.zero_add,List.append_nil,Nat.reduceEqDiff,decide_true,decide_false]
    exact rfl,⟨i1,(by (simp only [s_getp,Nat.reduceEqDiff,decide_false,iteN_false,t0]; try rfl)),(by (simp only [s_getp,Nat.reduceEqDiff,decide_false,iteN_false,t1]; try rfl)),(by (simp only [s_getp,decide_true,iteN_true]; try rfl)),⟨a',c',e',(by (simp only [s_getp,Nat.reduceEqDiff,decide_false,decide_true,iteN_false,iteN_true]; try rfl)),nw2⟩⟩⟩
theorem rfixed_go (e : EnRf E) (x : NoRf X) (N : Nat) (s : Int) (n : Nat) (hn : n < 18446744073709551616) (h : H) :
    ∃ h' a c ez,callX E X (N + 20) (.fn k_purserref01_Fixed) [.int .i64 s,.int .u64 (n : Int)] h = some (.tup [.slice a (fixB s n).length c ez,.int .i64 (fixE s n : Nat)],h') ∧ Nw h h' (fixB s n) a c ez := by
  rw [x_cfn e.fx _ _ (Nat.le_of_ble_eq_true rfl) (x.fx _ _)]
  cases hs : sizedI s with
  | false =>
    have e2 : fixE s n = 2 := by unfold fixE; rw [hs,if_neg (by simp)]
    have e3 : fixB s n = [] := by unfold fixB; rw [e2,if_neg (by omega)]
    rw [e2,e3]
    unfold sizedI at hs
    simp only [Bool.or_eq_false_iff] at hs
    obtain ⟨q1,q2,q4,q8⟩ := hs
    refine ⟨h,none,some 0,0,?_,⟨Kp.refl _,.nil _,fun _ _ e => by cases e⟩⟩
    rw [List.length_nil]
    simp (config := {maxSteps := 2000000}) (disch := first | omega | (simp only [List.length_cons,List.length_nil,List.length_append,List.length_drop]; omega)) only [q1,q2,q4,q8,Nat.zero_add,Int.cast_ofNat_Int,s_res0,↓s_ops,↓s_seq,↓s_cond,↓s_ret,↓s_nil,↓s_op,↓s_opg,↓s_wanted',↓s_wantV,s_wantV,↓s_bindS,s_bindS,↓s_bindE,s_bindE,s_bindE_ret,s_norm,↓s_condV,s_condV,↓s_getp,↓s_get,↓s_con,↓s_list0,↓s_list1,↓s_mov,↓s_pick,↓s_pickE,s_pickE,↓s_bin,s_same,b_neq,s_end,s_res0,s_res1,s_tup2,↓iteN_true,↓iteN_false,iteN_true,iteN_false,Nat.zero_add,Nat.reduceEqDiff,decide_true,decide_false,Bool.not_false,beq_self_eq_true]
  | true =>
    obtain ⟨k,rfl,k0,k8,kk⟩ := sizedI_nat hs
    have wp := wid_pow' n k hn kk
    have fin : n < 256 ^ k → ∀ T,RFI k n h 0 T h → ∃ h' a c ez,fnEnd [.tmp 4,.tmp 5] (bindE (blockE 0 (loopN (evC (callX E X (N + 19)) 45 (N + 19) none L_purserref01_Fixed_0) (N + 19) ⟨T,[],h⟩)) (evC (callX E X (N + 19)) 45 (N + 19) none R_purserref01_Fixed_0)) = some (.tup [.slice a (fixB k n).length c ez,.int .i64 (fixE k n : Nat)],h') ∧ Nw h h' (fixB k n) a c ez := by
      intro hlt T I
      have e2 : fixE k n = 0 := by unfold fixE; rw [hs,if_pos rfl,if_pos (by have := wp.2 hlt; omega)]
      have e3 : fixB k n = leN k n := by unfold fixB; rw [e2,if_pos rfl,Int.toNat_natCast]
      obtain ⟨T',h',r,a,c,ez,t6,nw⟩ := loop_go (f := evC (callX E X (N + 19)) 45 (N + 19) none L_purserref01_Fixed_0) (RFI k n h) k (.exit 0) (by intro h; cases h) (fun T h' => ∃ a c e,evO T (.t 6) = .slice a k c e ∧ Nw h h' (leN k n) a c e) (rf_step e x (N + 9) (N + 19) k n k8 hn h) (fun T h' I => by
        obtain ⟨il,t0,t1,t7,⟨a,c,ez,t6,nw⟩⟩ := I
        have c0 : decide ((k : Int) < (k : Int)) = false := decide_eq_false (by omega)
        refine ⟨_,_,by
          simp (config := {maxSteps := 2000000}) (disch := first | omega | (simp only [List.length_cons,List.length_nil,List.length_append,List.length_drop]; omega)) only [L_purserref01_Fixed_0,t0,t7,c0,↓s_ops,↓s_seq,↓s_cond,↓s_exit,↓s_nil,↓s_op,↓s_bindS,s_bindS,↓s_bindE,s_bindE,s_bindE_exit,s_norm,↓s_condV,s_condV,↓s_getp,↓s_mov,↓s_bin,s_same,b_lss,↓iteN_true,↓iteN_false,iteN_true,iteN_false,Nat.reduceEqDiff,decide_true,decide_false]
          exact rfl,⟨a,c,ez,(by (simp only [s_getp,Nat.reduceEqDiff,decide_false,iteN_false,t6]; try rfl)),nw⟩⟩) k 0 (by omega) (N + 19) (by omega) T h I
      rw [r,e2,e3,leN_len]
      refine ⟨h',a,c,ez,?_,nw⟩
      simp (config := {maxSteps := 2000000}) (disch := first | omega | (simp only [List.length_cons,List.length_nil,List.length_append,List.length_drop]; omega)) only [R_purserref01_Fixed_0,t6,Int.cast_ofNat_Int,s_res0,↓s_ops,↓s_seq,↓s_ret,↓s_nil,↓s_op,↓s_bindS,s_bindS,↓s_bindE,s_bindE,s_norm,s_block_exit,↓s_getp,↓s_con,↓s_mov,s_end,s_res0,s_res1,s_tup2,↓iteN_true,↓iteN_false,iteN_true,iteN_false,Nat.reduceEqDiff,decide_true,decide_false,if_true]
      try rfl
    have bad : ¬ n < 256 ^ k → fixE k n = 10 ∧ fixB k n = [] := fun hlt => by
      have e2 : fixE k n = 10 := by unfold fixE; rw [hs,if_pos rfl,if_neg (fun h => hlt (wp.1 (by omega)))]
      exact ⟨e2,by unfold fixB; rw [e2,if_neg (by omega)]⟩
    have r1 := fun (h7 : k ≤ 7) => power_go e.pw x.pw (N + 9) k h7 h
    replace r1 : k ≤ 7 → callX E X (N + 19) (.fn k_purserref01_power) [.int .i64 (k : Int)] h = some (.int .u64 ((256 ^ k : Nat) : Int),h) := r1
    obtain ⟨R,eR⟩ : ∃ R,R_purserref01_Fixed_0 = R := ⟨_,rfl⟩
    obtain ⟨Lo,eL⟩ : ∃ R,L_purserref01_Fixed_0 = R := ⟨_,rfl⟩
    rw [eR,eL] at fin ⊢
    have dk : ∀ j : Nat,decide ((k : Int) = (j : Int)) = decide (k = j) := fun j => by rw [decide_eq_decide]; omega
    have d1 := dk 1
    have d2 := dk 2
    have d4 := dk 4
    have d8 := dk 8
    simp only [Int.cast_ofNat_Int] at d1 d2 d4 d8
    have I0 : ∀ T,evO T (.t 0) = .int .i64 (k : Int) → evO T (.t 1) = .int .u64 (n : Int) → evO T (.t 7) = .int .i64 0 → evO T (.t 6) = .slice none 0 (some 0) 0 → RFI k n h 0 T h := fun T a1 a2 a3 a4 => ⟨by omega,a1,a2,a3,⟨none,some 0,0,a4,⟨Kp.refl _,.nil _,fun _ _ e => by cases e⟩⟩⟩
    have hd : (decide (k = 1) || (decide (k = 2) || (decide (k = 4) || decide (k = 8)))) = true := by
      rcases kk with h | h | h | h <;> subst h <;> rfl
    by_cases h7 : k ≤ 7
    · have c7 : decide ((k : Int) < 8) = true := decide_eq_true (by omega)
      replace r1 := r1 h7
      by_cases hlt : n < 256 ^ k
      · have fin' := fin hlt
        clear fin bad
        generalize 256 ^ k = p at *
        have cg : decide ((p : Int) ≤ (n : Int)) = false := decide_eq_false (by omega)
        generalize decide (k = 1) = b1 at *
        generalize decide (k = 2) = b2 at *
        generalize decide (k = 4) = b4 at *
        generalize decide (k = 8) = b8 at *
        cases b1 <;> cases b2 <;> cases b4 <;> cases b8 <;> first | (exfalso; revert hd; decide; done) | skip
        all_goals (simp (config := {maxSteps := 2000000}) (disch := first | omega | (simp only [List.length_cons,List.length_nil,List.length_append,List.length_drop]; omega)) only [d1,d2,d4,d8,c7,r1,cg,Nat.zero_add,↓l_loop,↓l_succ,↓s_skip,↓s_ops,↓s_seq,↓s_cond,↓s_block,↓s_nil,↓s_op,↓s_opg,↓s_wanted',↓s_wantV,s_wantV,beq_true,↓s_bindS,s_bindS,↓s_bindE,s_bindE,s_norm,↓s_condV,s_condV,↓s_getp,↓s_get,↓s_con,↓s_os0,↓s_os1,↓s_list0,↓s_list1,↓s_mov,↓s_pick,↓s_pickE,s_pickE,↓s_bin,↓s_call,s_same,b_neq,b_lss,b_geq,↓iteN_true,↓iteN_false,iteN_true,iteN_false,Nat.zero_add,Nat.reduceEqDiff,decide_true,decide_false,Bool.not_true,Bool.not_false,beq_self_eq_true]; exact fin' _ (I0 _ (by (simp only [s_getp,Nat.reduceEqDiff,decide_false,iteN_false]; try rfl)) (by (simp only [s_getp,Nat.reduceEqDiff,decide_false,iteN_false]; try rfl)) (by (simp only [s_getp,decide_true,iteN_true]; try rfl)) (by (simp only [s_getp,Nat.reduceEqDiff,decide_false,decide_true,iteN_false,iteN_true]; try rfl))))
      · obtain ⟨e2,e3⟩ := bad hlt
        rw [e2,e3]
        generalize 256 ^ k = p at *
        have cg : decide ((p : Int) ≤ (n : Int)) = true := decide_eq_true (by omega)
        refine ⟨h,none,some 0,0,?_,⟨Kp.refl _,.nil _,fun _ _ e => by cases e⟩⟩
        rw [List.length_nil]
        generalize decide (k = 1) = b1 at *
        generalize decide (k = 2) = b2 at *
        generalize decide (k = 4) = b4 at *
        generalize decide (k = 8) = b8 at *
        cases b1 <;> cases b2 <;> cases b4 <;> cases b8 <;> first | (exfalso; revert hd; decide; done) | skip
        all_goals (simp (config := {maxSteps := 2000000}) (disch := first | omega | (simp only [List.length_cons,List.length_nil,List.length_append,List.length_drop]; omega)) only [d1,d2,d4,d8,c7,r1,cg,Nat.zero_add,Int.cast_ofNat_Int,s_res0,↓s_skip,↓s_ops,↓s_seq,↓s_cond,↓s_ret,↓s_nil,↓s_op,↓s_opg,↓s_wanted',↓s_wantV,s_wantV,beq_true,↓s_bindS,s_bindS,↓s_bindE,s_bindE,s_bindE_ret,s_norm,↓s_condV,s_condV,↓s_getp,↓s_get,↓s_con,↓s_os0,↓s_os1,↓s_list0,↓s_list1,↓s_mov,↓s_pick,↓s_pickE,s_pickE,↓s_bin,↓s_call,s_same,b_neq,b_lss,b_geq,s_end,s_res0,s_res1,s_tup2,↓iteN_true,↓iteN_false,iteN_true,iteN_false,Nat.zero_add,Nat.reduceEqDiff,decide_true,decide_false,Bool.not_true,Bool.not_false,beq_self_eq_true])
    · obtain rfl : k = 8 := by omega
      have fin := fin hn
      have c7 : decide (((8 : Nat) : Int) < 8) = false := rfl
      have c7' : decide ((8 : Int) < 8) = false := rfl
      simp (config := {maxSteps := 2000000}) (disch := first | omega | (simp only [List.length_cons,List.length_nil,List.length_append,List.length_drop]; omega)) only [Nat.zero_add,↓l_loop,↓l_succ,Int.reduceLT,Int.reduceEq,Int.cast_ofNat_Int,↓s_skip,↓s_ops,↓s_seq,↓s_cond,↓s_block,↓s_nil,↓s_op,↓s_opg,↓s_wanted',↓s_wantV,s_wantV,beq_true,↓s_bindS,s_bindS,↓s_bindE,s_bindE,s_norm,↓s_condV,s_condV,↓s_getp,↓s_get,↓s_con,↓s_list0,↓s_list1,↓s_mov,↓s_pick,↓s_pickE,s_pickE,↓s_bin,s_same,b_neq,b_lss,↓iteN_true,↓iteN_false,iteN_true,iteN_false,Nat.zero_add,Nat.reduceEqDiff,decide_true,decide_false,Bool.not_true,Bool.not_false,beq_self_eq_true]
      exact fin _ (I0 _ (by (simp only [s_getp,Nat.reduceEqDiff,decide_false,iteN_false]; try rfl)) (by (simp only [s_getp,Nat.reduceEqDiff,decide_false,iteN_false]; try rfl)) (by (simp only [s_getp,decide_true,iteN_true]; try rfl)) (by (simp only [s_getp,Nat.reduceEqDiff,decide_false,decide_true,iteN_false,iteN_true]; try rfl)))
end Go.Eng
namespace Go.Eng
open Go
variable {E : Nat → Option Fn} {X : Orc}
set_option linter.unusedSimpArgs false
set_option linter.unusedVariables false
/-- what Size of the document answers: a slice that is its own,or a row of one -/
def SzH (h : H) (w : List Nat) (a : Option (Nat × Nat)) (c : Option Nat) (e : Nat) : Prop := Wb h w a c e ∨ ∃ y q,w = [y] ∧ a = some (q,0) ∧ c = some 1 ∧ e = 1 ∧ h.get q = some (.cells (ofI .u8 w) .rw) ∧ q < h.next
theorem SzH.src {h : H} {w : List Nat} {a : Option (Nat × Nat)} {c : Option Nat} {e : Nat} (s : SzH h w a c e) : SrcH h a e w := by
  rcases s with s | ⟨y,q,rfl,rfl,rfl,rfl,g,hq⟩
  · exact s.src
  · exact .inr ⟨q,0,_,.rw,rfl,rfl,hq,g,by rw [ofI_len]; omega,by rw [List.drop_zero]; exact List.take_of_length_le (by rw [ofI_len]; exact Nat.le_refl _)⟩
theorem app11 (h : H) (q y n : Nat) (l : List Nat) (hl : l.length = n + 1) (hn : n ≤ 100000000) (g : h.get q = some (.cells (ofI .u8 [y]) .rw)) : appendC h 1 1 (.slice (some (q,0)) 1 (some 1) 1) (some (n + 1,ofI .u8 l)) = some (.slice (some (h.next,0)) (1 + (n + 1)) none 1,h.new (.cells (ofI .u8 (y :: l)) .rw)) := by
  unfold appendC
  simp only
  have r : (roomy (1 + (n + 1)) 1 && (Nat.beq 1 1 || (some (q,0) : Option (Nat × Nat)).isNone) && (ofI .u8 l).all plainV) = true := by
    rw [plain_ofI]; have : roomy (1 + (n + 1)) 1 = true := by simp [roomy]; omega
    rw [this]; rfl
  have f : fullC (some 1) (1 + (n + 1)) = true := by
    show Nat.blt 1 (1 + (n + 1)) = true
    simp
  rw [r]
  simp only [_root_.cond_true,g,f]
  rfl
theorem ap_sz (h : H) (w l : List Nat) (a : Option (Nat × Nat)) (c : Option Nat) (e : Nat) (s : SzH h w a c e) (hl : w.length + l.length ≤ 100000000) :
    ∃ a' c' e' h',appendC h 1 1 (.slice a w.length c e) (some (l.length,ofI .u8 l)) = some (.slice a' (w ++ l).length c' e',h') ∧ SzH h' (w ++ l) a' c' e' ∧ h.next ≤ h'.next ∧ (∀ i,i < h.next → a ≠ some (i,0) → h'.get i = h.get i) ∧ (a' = a ∨ a' = some (h.next,0)) := by
  rcases s with s | ⟨y,q,rfl,rfl,rfl,rfl,g,hq⟩
  · obtain ⟨a',c',e',h',r,wb,n1,f1,o1⟩ := ap_wb h w l a c e s hl
    exact ⟨a',c',e',h',r,.inl wb,n1,f1,o1⟩
  · cases hn : l.length with
    | zero =>
      obtain rfl : l = [] := List.length_eq_zero_iff.1 hn
      exact ⟨_,_,_,_,appN _ _ _ _ _ _,.inr ⟨y,q,rfl,rfl,rfl,rfl,g,hq⟩,Nat.le_refl _,fun _ _ _ => rfl,.inl rfl⟩
    | succ n =>
      have ap := app11 h q y n l hn (by rw [hn] at hl; simp at hl; omega) g
      refine ⟨_,_,_,_,by rw [show ([y] ++ l).length = 1 + (n + 1) by simp [hn]; omega]; exact ap,.inl (.inr ⟨by simp,h.next,.rw,rfl,rfl,rfl,h_new_same _ _,rfl,Nat.lt_succ_self _⟩),Nat.le_succ _,fun i hi _ => h_new_ne _ _ (by omega),.inr rfl⟩
theorem rsize_go (e : EnRf E) (x : NoRf X) (N n : Nat) (hn : n < 18446744073709551616) (h : H) :
    ∃ h' a c ez,callX E X (N + 21) (.fn k_purserref01_Size) [.int .u64 (n : Int)] h = some (.slice a (sizV n).length c ez,h') ∧ Kp h h' ∧ SzH h' (sizV n) a c ez ∧ ∀ q o,a = some (q,o) → h.next ≤ q := by
  rw [x_cfn e.sz _ _ (Nat.le_of_ble_eq_true rfl) (x.sz _ _)]
  by_cases h0 : n < 253
  · have c0 : decide ((n : Int) < 253) = true := decide_eq_true (by omega)
    have es : sizV n = [n] := by unfold sizV; rw [if_pos h0]
    have w8 : wr .u8 (n : Int) = (n : Int) := by rw [w8n,Nat.mod_eq_of_lt (by omega)]
    rw [es]
    refine ⟨h.new (.cells [.int .u8 (n : Int)] .rw),some (h.next,0),some 1,1,?_,Kp.new _ _,.inr ⟨n,h.next,rfl,rfl,rfl,rfl,h_new_same _ _,Nat.lt_succ_self _⟩,fun q o ea => by cases ea; exact Nat.le_refl _⟩
    simp (config := {maxSteps := 2000000}) (disch := first | omega | (simp only [List.length_cons,List.length_nil,List.length_append,List.length_drop]; omega)) only [c0,w8,↓x_conv,x_convV,Nat.zero_add,w_zero,↓x_buildS,x_buildE,↓x_P0,↓x_P1,x_fill0,x_filli,List.length_cons,List.length_nil,List.drop_succ_cons,List.drop_nil,s_res0,↓s_ops,↓s_seq,↓s_cond,↓s_ret,↓s_nil,↓s_op,↓s_bindS,s_bindS,↓s_bindE,s_bindE,s_bindE_ret,s_norm,↓s_condV,s_condV,↓s_getp,↓s_get,↓s_con,↓s_list0,↓s_list1,↓s_mov,↓s_bin,s_same,b_lss,s_end,s_res0,s_res1,s_tup1,↓iteN_true,↓iteN_false,iteN_true,iteN_false,Nat.zero_add,List.append_nil,Nat.reduceEqDiff,decide_true,decide_false]
  · have c0 : decide ((n : Int) < 253) = false := decide_eq_false (by omega)
    obtain ⟨more,mk,hm,ec,es⟩ := siz_split n (by omega)
    have hmk : mk < 256 := by omega
    obtain ⟨_,c3,c5,c9⟩ := cpl_lt n
    have np : n < 256 ^ more := by
      rcases hm with ⟨rfl,rfl⟩ | ⟨rfl,rfl⟩ | ⟨rfl,rfl⟩
      · exact (c3 ec).2
      · exact (c5 ec).2
      · exact hn
    have hz : sizedI (more : Int) = true := by rcases hm with ⟨rfl,rfl⟩ | ⟨rfl,rfl⟩ | ⟨rfl,rfl⟩ <;> rfl
    have e2 : fixE (more : Int) n = 0 := by unfold fixE; rw [hz,if_pos rfl,if_pos (by have := (wid_pow' n more hn (by omega)).2 np; omega)]
    have e3 : fixB (more : Int) n = leN more n := by unfold fixB; rw [e2,if_pos rfl,Int.toNat_natCast]
    obtain ⟨h1,a1,c1,z1,r1,nw1⟩ := rfixed_go e x N (more : Int) n hn h
    rw [e2,e3,leN_len] at r1
    rw [e3] at nw1
    rw [leN_1 _ hmk] at es
    obtain ⟨h2,eh2⟩ : ∃ h2,h1.new (.cells [.int .u8 (mk : Int)] .rw) = h2 := ⟨_,rfl⟩
    have k12 : Kp h1 h2 := by rw [← eh2]; exact Kp.new _ _
    have g2 : h2.get h1.next = some (.cells (ofI .u8 [mk]) .rw) := by rw [← eh2]; exact h_new_same _ _
    have n2 : h1.next < h2.next := by rw [← eh2]; exact Nat.lt_succ_self _
    have sc := (nw1.wb.kp k12).src.cellz c1
    rw [leN_len] at sc
    obtain ⟨a3,c3',e3',h3,ap,sz,n3,f3,o3⟩ := ap_sz h2 [mk] (leN more n) (some (h1.next,0)) (some 1) 1 (.inr ⟨mk,h1.next,rfl,rfl,rfl,rfl,g2,n2⟩) (by rw [leN_len]; simp; omega)
    have nk := nw1.kp.1
    rw [es]
    refine ⟨h3,a3,c3',e3',?_,⟨by omega,fun j hj => by rw [f3 j (by omega) (fun e => by cases e; omega),k12.2 _ (by omega),nw1.kp.2 _ hj]⟩,sz,fun q o ea => by
      rcases o3 with o3 | o3
      · rw [o3] at ea; cases ea; exact nk
      · rw [o3] at ea; cases ea; omega⟩
    rw [leN_len] at ap
    replace ap : appendC h2 1 1 (.slice (some (h1.next,0)) 1 (some 1) 1) (some (more,ofI .u8 (leN more n))) = some (.slice a3 ([mk] ++ leN more n).length c3' e3',h3) := ap
    obtain ⟨L,eL⟩ : ∃ L,([mk] ++ leN more n).length = L := ⟨_,rfl⟩
    rw [eL] at ap ⊢
    obtain ⟨C,eC⟩ : ∃ C,ofI .u8 (leN more n) = C := ⟨_,rfl⟩
    rw [eC] at ap sc
    replace r1 : callX E X (N + 20) (.fn k_purserref01_Fixed) [.int .i64 (more : Int),.int .u64 (n : Int)] h = some (.tup [.slice a1 more c1 z1,.int .i64 0],h1) := r1
    rcases hm with ⟨rfl,rfl⟩ | ⟨rfl,rfl⟩ | ⟨rfl,rfl⟩
    · have := c3 ec
      have g1 : decide ((65535 : Int) < (n : Int)) = false := decide_eq_false (by omega)
      have g2 : decide ((4294967295 : Int) < (n : Int)) = false := decide_eq_false (by omega)
      simp only [Int.cast_ofNat_Int] at r1 eh2
      simp (config := {maxSteps := 2000000}) (disch := first | omega | (simp only [List.length_cons,List.length_nil,List.length_append,List.length_drop]; omega)) only [c0,g1,g2,r1,eh2,sc,ap,↓s_append,Nat.zero_add,w_zero,↓x_buildS,x_buildE,↓x_P0,↓x_P1,x_fill0,x_filli,List.length_cons,List.length_nil,List.drop_succ_cons,List.drop_nil,s_res0,↓s_skip,↓s_ops,↓s_seq,↓s_cond,↓s_ret,↓s_nil,↓s_op,↓s_bindS,s_bindS,↓s_bindE,s_bindE,s_norm,↓s_condV,s_condV,↓s_getp,↓s_get,↓s_con,↓s_os0,↓s_os1,↓s_list0,↓s_list1,↓s_mov,↓s_bin,↓s_call,↓s_ext,s_same,b_lss,b_gtr,s_end,s_res0,s_res1,s_tup1,↓iteN_true,↓iteN_false,iteN_true,iteN_false,Nat.zero_add,List.append_nil,Nat.reduceEqDiff,decide_true,decide_false,List.getElem?_cons_zero,List.getElem?_cons_succ]
    · have := c5 ec
      have g1 : decide ((65535 : Int) < (n : Int)) = true := decide_eq_true (by omega)
      have g2 : decide ((4294967295 : Int) < (n : Int)) = false := decide_eq_false (by omega)
      simp only [Int.cast_ofNat_Int] at r1 eh2
      simp (config := {maxSteps := 2000000}) (disch := first | omega | (simp only [List.length_cons,List.length_nil,List.length_append,List.length_drop]; omega)) only [c0,g1,g2,r1,eh2,sc,ap,↓s_append,Nat.zero_add,w_zero,↓x_buildS,x_buildE,↓x_P0,↓x_P1,x_fill0,x_filli,List.length_cons,List.length_nil,List.drop_succ_cons,List.drop_nil,s_res0,↓s_skip,↓s_ops,↓s_seq,↓s_cond,↓s_ret,↓s_nil,↓s_op,↓s_bindS,s_bindS,↓s_bindE,s_bindE,s_norm,↓s_condV,s_condV,↓s_getp,↓s_get,↓s_con,↓s_os0,↓s_os1,↓s_list0,↓s_list1,↓s_mov,↓s_bin,↓s_call,↓s_ext,s_same,b_lss,b_gtr,s_end,s_res0,s_res1,s_tup1,↓iteN_true,↓iteN_false,iteN_true,iteN_false,Nat.zero_add,List.append_nil,Nat.reduceEqDiff,decide_true,decide_false,List.getElem?_cons_zero,List.getElem?_cons_succ]
    · have := c9 ec
      have g1 : decide ((65535 : Int) < (n : Int)) = true := decide_eq_true (by omega)
      have g2 : decide ((4294967295 : Int) < (n : Int)) = true := decide_eq_true (by omega)
      simp only [Int.cast_ofNat_Int] at r1 eh2
      simp (config := {maxSteps := 2000000}) (disch := first | omega | (simp only [List.length_cons,List.length_nil,List.length_append,List.length_drop]; omega)) only [c0,g1,g2,r1,eh2,sc,ap,↓s_append,Nat.zero_add,w_zero,↓x_buildS,x_buildE,↓x_P0,↓x_P1,x_fill0,x_filli,List.length_cons,List.length_nil,List.drop_succ_cons,List.drop_nil,s_res0,↓s_skip,↓s_ops,↓s_seq,↓s_cond,↓s_ret,↓s_nil,↓s_op,↓s_bindS,s_bindS,↓s_bindE,s_bindE,s_norm,↓s_condV,s_condV,↓s_getp,↓s_get,↓s_con,↓s_os0,↓s_os1,↓s_list0,↓s_list1,↓s_mov,↓s_bin,↓s_call,↓s_ext,s_same,b_lss,b_gtr,s_end,s_res0,s_res1,s_tup1,↓iteN_true,↓iteN_false,iteN_true,iteN_false,Nat.zero_add,List.append_nil,Nat.reduceEqDiff,decide_true,decide_false,List.getElem?_cons_zero,List.getElem?_cons_succ]
theorem rbytes_go (e : EnRf E) (x : NoRf X) (N : Nat) (l : List Nat) (hl : l.length ≤ 15000000) (a : Option (Nat × Nat)) (c : Option Nat) (ez : Nat) (h : H) (src : SrcH h a ez l) :
    ∃ h' a' c' e',callX E X (N + 22) (.fn k_purserref01_Bytes) [.slice a l.length c ez] h = some (.slice a' (sizV l.length ++ l).length c' e',h') ∧ Kp h h' ∧ SrcH h' a' e' (sizV l.length ++ l) ∧ ∀ q o,a' = some (q,o) → h.next ≤ q := by
  rw [x_cfn e.by_ _ _ (Nat.le_of_ble_eq_true rfl) (x.by_ _ _)]
  obtain ⟨h1,a1,c1,z1,r1,k1,sz,ge⟩ := rsize_go e x N l.length (by omega) h
  have sc := (src.mono k1).cellz c
  have sl := sizV_le l.length
  obtain ⟨a2,c2,z2,h2,ap,sz2,n2,f2,o2⟩ := ap_sz h1 (sizV l.length) l a1 c1 z1 sz (by omega)
  have k2 : Kp h h2 := ⟨Nat.le_trans k1.1 n2,fun j hj => by rw [f2 j (Nat.lt_of_lt_of_le hj k1.1) (fun ea => by have := ge _ _ ea; omega),k1.2 _ hj]⟩
  refine ⟨h2,a2,c2,z2,?_,k2,sz2.src,fun q o ea => by
    rcases o2 with o2 | o2
    · rw [o2] at ea; exact ge q o ea
    · rw [o2] at ea; cases ea; exact k1.1⟩
  have w1 : wr .u64 (l.length : Int) = (l.length : Int) := u64n _ (by omega)
  obtain ⟨n,en⟩ : ∃ n,l.length = n := ⟨_,rfl⟩
  rw [en] at r1 sc ap w1 ⊢
  obtain ⟨L1,eL1⟩ : ∃ L,(sizV n).length = L := ⟨_,rfl⟩
  obtain ⟨L2,eL2⟩ : ∃ L,(sizV n ++ l).length = L := ⟨_,rfl⟩
  rw [eL1] at r1 ap
  rw [eL2] at ap ⊢
  simp (config := {maxSteps := 2000000}) (disch := first | omega | (simp only [List.length_cons,List.length_nil,List.length_append,List.length_drop]; omega)) only [r1,sc,ap,w1,↓s_append,↓s_len,x_lenS,↓x_conv,x_convV,x_lenS,↓s_len,s_res0,↓s_ops,↓s_seq,↓s_ret,↓s_nil,↓s_op,↓s_bindS,s_bindS,↓s_bindE,s_bindE,s_norm,↓s_getp,↓s_get,↓s_con,↓s_os0,↓s_os1,↓s_list0,↓s_list1,↓s_mov,↓s_call,s_same,s_end,s_res0,s_res1,s_tup1,↓iteN_true,↓iteN_false,iteN_true,iteN_false,Nat.reduceEqDiff,decide_true,decide_false]
theorem twinv_go (e : E k_purserref01_Twin = some f_purserref01_Twin) (x : ∀ a h,X (.fn k_purserref01_Twin) a h = none) (N : Nat) (l : List Nat) (hl : l.length ≤ 100000000) (a : Option (Nat × Nat)) (c : Option Nat) (ez : Nat) (h : H) (src : SrcH h a ez l) :
    ∃ ao co eo h',callX E X (N + 1) (.fn k_purserref01_Twin) [.slice a l.length c ez] h = some (.slice ao l.length co eo,h') ∧ Nw h h' l ao co eo := by
  rw [x_cfn e _ _ (Nat.le_of_ble_eq_true rfl) (x _ _)]
  have sc := src.cellz c
  obtain ⟨a2,c2,e2,h',ap,nw⟩ := app_nw h l hl
  refine ⟨a2,c2,e2,h',?_,nw⟩
  obtain ⟨n,en⟩ : ∃ n,l.length = n := ⟨_,rfl⟩
  rw [en] at sc ap ⊢
  simp (config := {maxSteps := 2000000}) (disch := first | omega | (simp only [List.length_cons,List.length_nil,List.length_append,List.length_drop]; omega)) only [sc,ap,↓s_append,s_res0,↓s_ops,↓s_seq,↓s_ret,↓s_nil,↓s_op,↓s_bindS,s_bindS,↓s_bindE,s_bindE,s_norm,↓s_getp,↓s_get,↓s_con,↓s_list0,↓s_list1,↓s_mov,s_end,s_res0,s_res1,s_tup1,↓iteN_true,↓iteN_false,iteN_true,iteN_false,Nat.reduceEqDiff,decide_true,decide_false]
end Go.Eng
namespace Go.Eng
open Go
variable {E : Nat → Option Fn} {X : Orc}
set_option linter.unusedSimpArgs false
set_option linter.unusedVariables false
/-! the document's bytes of a transaction -/
theorem Nw.ap {h0 h : H} {w : List Nat} {a : Option (Nat × Nat)} {c : Option Nat} {e : Nat} (nw : Nw h0 h w a c e) (l : List Nat) (hl : w.length + l.length ≤ 100000000) :
    ∃ a' c' e' h',appendC h 1 1 (.slice a w.length c e) (some (l.length,ofI .u8 l)) = some (.slice a' (w ++ l).length c' e',h') ∧ Nw h0 h' (w ++ l) a' c' e' ∧ h.next ≤ h'.next ∧ (∀ i,i < h.next → a ≠ some (i,0) → h'.get i = h.get i) ∧ ∀ q o,a' = some (q,o) → a = some (q,o) ∨ h.next ≤ q := by
  obtain ⟨a',c',e',h',r,wb,hn,fr,ow⟩ := ap_wb h w l a c e nw.wb hl
  have k0 := nw.kp.1
  refine ⟨a',c',e',h',r,⟨⟨by omega,fun i hi => ?_⟩,wb,fun q o eq => ?_⟩,hn,fr,fun q o eq => ?_⟩
  · rw [fr i (by omega) (fun e => by have := nw.ge _ _ e; omega),nw.kp.2 _ hi]
  · rcases ow with ow | ow
    · rw [ow] at eq; exact nw.ge _ _ eq
    · rw [ow] at eq; cases eq; omega
  · rcases ow with ow | ow
    · rw [ow] at eq; exact .inl eq
    · rw [ow] at eq; cases eq; exact .inr (Nat.le_refl _)
theorem Nw.k {h0 h h' : H} {w : List Nat} {a : Option (Nat × Nat)} {c : Option Nat} {e : Nat} (nw : Nw h0 h w a c e) (k : Kp h h') : Nw h0 h' w a c e := ⟨nw.kp.trans k,nw.wb.kp k,nw.ge⟩
structure EnDb (E : Nat → Option Fn) : Prop where
  rf : EnRf E
  nu : E k_purserref06_num = some f_purserref06_num
  by_ : E k_purserref06_Bytes = some f_purserref06_Bytes
  sa : E k_purserref06_Same = some f_purserref06_Same
structure NoDb (X : Orc) : Prop where
  rf : NoRf X
  nu : ∀ a h,X (.fn k_purserref06_num) a h = none
  by_ : ∀ a h,X (.fn k_purserref06_Bytes) a h = none
  sa : ∀ a h,X (.fn k_purserref06_Same) a h = none
theorem num_go (e : EnDb E) (x : NoDb X) (N : Nat) (s : Nat) (hs : s = 4 ∨ s = 8) (n : Nat) (hn : n < 256 ^ s) (h : H) :
    ∃ h' a c ez,callX E X (N + 21) (.fn k_purserref06_num) [.int .i64 (s : Int),.int .u64 (n : Int)] h = some (.slice a (leN s n).length c ez,h') ∧ Nw h h' (leN s n) a c ez := by
  rw [x_cfn e.nu _ _ (Nat.le_of_ble_eq_true rfl) (x.nu _ _)]
  have h64 : n < 18446744073709551616 := by
    rcases hs with rfl | rfl
    · exact Nat.lt_of_lt_of_le hn (by decide)
    · exact hn
  obtain ⟨h1,a,c,ez,r,nw⟩ := rfixed_go e.rf x.rf N (s : Int) n h64 h
  have hz : sizedI (s : Int) = true := by rcases hs with rfl | rfl <;> rfl
  have e2 : fixE (s : Int) n = 0 := by
    unfold fixE; rw [hz,if_pos rfl,if_pos (by have := (wid_pow' n s h64 (by omega)).2 hn; omega)]
  have e3 : fixB (s : Int) n = leN s n := by unfold fixB; rw [e2,if_pos rfl,Int.toNat_natCast]
  rw [e3] at r nw
  refine ⟨h1,a,c,ez,?_,nw⟩
  generalize (leN s n).length = L at *
  generalize fixE (s : Int) n = fe at *
  simp (config := {maxSteps := 2000000}) (disch := first | omega | (simp only [List.length_cons,List.length_nil,List.length_append,List.length_drop]; omega)) only [r,Nat.zero_add,s_res0,↓s_ops,↓s_seq,↓s_ret,↓s_nil,↓s_op,↓s_bindS,s_bindS,↓s_bindE,s_bindE,s_norm,↓s_getp,↓s_get,↓s_con,↓s_os0,↓s_os1,↓s_list0,↓s_list1,↓s_mov,↓s_call,↓s_ext,s_same,s_end,s_res0,s_res1,s_tup1,↓iteN_true,↓iteN_false,iteN_true,iteN_false,Nat.zero_add,Nat.reduceEqDiff,decide_true,decide_false,List.getElem?_cons_zero,List.getElem?_cons_succ]
  try rfl
structure DbI (hB : H) (pb : Nat) (k : Nat) (i : Nat) (w : List Nat) (T : Tr V) (h : H) : Prop where
  t1 : evO T (.t 1) = .ptr (some (pb,0))
  ti : evO T (.t k) = .int .i64 (i : Int)
  st : ∃ a c e,evO T (.t 3) = .slice a w.length c e ∧ Nw hB h w a c e
theorem db0_round (e : EnDb E) (x : NoDb X) (N m : Nat) (ins : List InQ) (li : ins.length ≤ 60) (P : List V) (pb : Nat) (u v z : V) (a0 : Option (Nat × Nat)) (c0 : Option Nat) (e0 : Nat) (hB : H) (gb : hB.get pb = some (.cells [u,.slice a0 ins.length c0 e0,v,z] .rw)) (lpb : pb < hB.next) (row : RowG (fun j => j < hB.next) 35 InC hB ins a0 e0) (i : Nat) (o : InQ) (ho : ins[i]? = some o) (ok : o.ok) (ol : o.l.length ≤ 2100) (w : List Nat) (hw : w.length ≤ 600000) (T : Tr V) (h : H) (I : DbI hB pb 4 i w T h) :
    ∃ T' h',evC (callX E X (N + 22)) 92 m none L_purserref06_Bytes_0 ⟨T,[],h⟩ = some (.normal,⟨T',[],h'⟩) ∧ DbI hB pb 4 (i + 1) (w ++ inB o) T' h' := by
  obtain ⟨t1,ti,a,c,ez,t3,nw⟩ := I
  have hi := (List.getElem?_eq_some_iff.1 ho).1
  have kB := nw.kp
  obtain ⟨q0,off,vs,md,P,rfl,rfl,hq0,gq0,ic,ld⟩ := row_at row i o ho
  have gb' : h.get pb = some (.cells [u,.slice (some (q0,off)) ins.length c0 35,v,z] .rw) := by rw [kB.2 _ lpb,gb]
  have gq' : h.get q0 = some (.cells vs md) := by rw [kB.2 _ hq0,gq0]
  have kn := kB.1
  have fi := ic.fit
  obtain ⟨b,cb,eb,eP,sb,l32⟩ := ic
  obtain ⟨h1,eh1⟩ : ∃ h1,(h.new (.cells Z35 .rw)).put h.next (.cells P .rw) = h1 := ⟨_,rfl⟩
  have gz : (h.new (.cells Z35 .rw)).get h.next = some (.cells Z35 .rw) := h_new_same _ _
  have k1 : Kp h h1 := by rw [← eh1]; (repeat (first | exact Kp.refl _ | refine Kp.put ?_ _ (by first | omega | (simp only [h_next_put,h_next_new,h_next_del]; omega)) | refine Kp.del ?_ (by first | omega | (simp only [h_next_put,h_next_new,h_next_del]; omega)) | refine Kp.trans ?_ (Kp.new _ _)))
  have n1 : h1.next = h.next + 1 := by rw [← eh1]; rfl
  have g1 : h1.get h.next = some (.cells P .rw) := by rw [← eh1]; exact h_put_same _ _ _
  have st := fun h i => fit_st fi h i
  have pu := fun h i => fit_put fi h i Z35 rfl
  obtain ⟨p32,p33,p34⟩ := inV_n o b cb eb l32
  rw [← eP] at p32 p33 p34
  have lP := fi.1
  have nq : ∀ q o',a = some (q,o') → q < h.next := fun q o' eq => nw.wb.lt eq
  -- its hash
  have nw1 := nw.k k1
  have s1 : SrcH h1 (some (h.next,0)) 1 o.tx := .inr ⟨h.next,0,P,.rw,rfl,rfl,by omega,g1,by omega,by
    rw [List.drop_zero,eP]; unfold inV; rw [List.take_left' (by rw [ofI_len])]⟩
  have sc1 := s1.cellz (some 32)
  obtain ⟨a2,c2,e2,h2,ap1,nw2,n12,f12,o2⟩ := nw1.ap o.tx (by omega)
  have g2 : h2.get h.next = some (.cells P .rw) := by rw [f12 _ (by omega) (fun eq => by have := nq _ _ eq; omega),g1]
  have nq2 : ∀ q o',a2 = some (q,o') → q ≠ h.next := fun q o' eq => by
    rcases o2 _ _ eq with eq' | hq
    · have := nq _ _ eq'; omega
    · omega
  -- its number
  obtain ⟨h3,a3,c3,e3,r3,nx3⟩ := num_go e x (N + 1) 4 (.inl rfl) o.n (by have := ok.n1; simpa using this) h2
  have n23 := nx3.kp.1
  have g3 : h3.get h.next = some (.cells P .rw) := by rw [nx3.kp.2 _ (by omega),g2]
  have sc3 := nx3.wb.src.cellz c3
  obtain ⟨a4,c4,e4,h4,ap2,nw4,n34,f34,o4⟩ := (nw2.k nx3.kp).ap (leN 4 o.n) (by rw [List.length_append,leN_len]; omega)
  have g4 : h4.get h.next = some (.cells P .rw) := by rw [f34 _ (by omega) (fun eq => nq2 _ _ eq rfl),g3]
  have nq4 : ∀ q o',a4 = some (q,o') → q ≠ h.next := fun q o' eq => by
    rcases o4 _ _ eq with eq' | hq
    · exact nq2 _ _ eq'
    · omega
  -- its script
  have sb4 : SrcH h4 b eb o.l := sb.src.mono nw4.kp
  obtain ⟨h5,a5,c5,e5,r5,k5,sr5,_⟩ := rbytes_go e.rf x.rf N o.l (by omega) b cb eb h4 sb4
  have n45 := k5.1
  have z5 := sizV_le o.l.length
  have g5 : h5.get h.next = some (.cells P .rw) := by rw [k5.2 _ (by omega),g4]
  have sc5 := sr5.cellz c5
  obtain ⟨a6,c6,e6,h6,ap3,nw6,n56,f56,o6⟩ := (nw4.k k5).ap (sizV o.l.length ++ o.l) (by simp only [List.length_append,leN_len]; omega)
  have g6 : h6.get h.next = some (.cells P .rw) := by rw [f56 _ (by omega) (fun eq => nq4 _ _ eq rfl),g5]
  -- its sequence
  obtain ⟨h7,a7,c7,e7,r7,nx7⟩ := num_go e x (N + 1) 4 (.inl rfl) o.q (by have := ok.q1; simpa using this) h6
  have sc7 := nx7.wb.src.cellz c7
  obtain ⟨a8,c8,e8,h8,ap4,nw8,n78,f78,o8⟩ := (nw6.k nx7.kp).ap (leN 4 o.q) (by simp only [List.length_append,leN_len]; omega)
  have ew : w ++ o.tx ++ leN 4 o.n ++ (sizV o.l.length ++ o.l) ++ leN 4 o.q = w ++ inB o := by unfold inB; simp only [List.append_assoc]
  rw [ew] at ap4 nw8
  have c0' : decide ((i : Int) < (ins.length : Int)) = true := decide_eq_true (by omega)
  have wi : wr .i64 ((i : Int) + 1) = ((i + 1 : Nat) : Int) := by rw [wr_i64 (by omega)]; omega
  have ix : idx (i : Int) ins.length = some i := idxn hi
  have un : wr .u64 (o.n : Int) = (o.n : Int) := u64n _ (by have := ok.n1; omega)
  have uq : wr .u64 (o.q : Int) = (o.q : Int) := u64n _ (by have := ok.q1; omega)
  have sl : ∀ h : H,slcB (some (.cells P .rw)) 32 1 h1.next 0 none none h = some (.slice (some (h1.next,0)) 32 (some 32) 1,h) := fun h => slcB_nn P .rw 32 h1.next 0 h (by omega)
  have sl' : ∀ i (h : H),slcB (some (.cells P .rw)) 32 1 i 0 none none h = some (.slice (some (i,0)) 32 (some 32) 1,h) := fun i h => slcB_nn P .rw 32 i 0 h (by omega)
  rw [l32] at sc1 ap1
  rw [List.length_append,l32] at ap1
  have l4 : (leN 4 o.n).length = 4 := leN_len _ _
  have l4' : (leN 4 o.q).length = 4 := leN_len _ _
  replace r3 : callX E X (N + 22) (.fn k_purserref06_num) [.int .i64 4,.int .u64 (o.n : Int)] h2 = _ := r3
  replace r7 : callX E X (N + 22) (.fn k_purserref06_num) [.int .i64 4,.int .u64 (o.q : Int)] h6 = _ := r7
  obtain ⟨n2,en2⟩ : ∃ n,w.length + 32 = n := ⟨_,rfl⟩
  have e2' : (w ++ o.tx).length = n2 := by rw [List.length_append,l32]; exact en2
  rw [en2] at ap1
  rw [e2'] at ap2
  obtain ⟨n4,en4⟩ : ∃ n,(w ++ o.tx ++ leN 4 o.n).length = n := ⟨_,rfl⟩
  rw [en4] at ap2 ap3
  obtain ⟨n6,en6⟩ : ∃ n,(w ++ o.tx ++ leN 4 o.n ++ (sizV o.l.length ++ o.l)).length = n := ⟨_,rfl⟩
  rw [en6] at ap3 ap4
  obtain ⟨n8,en8⟩ : ∃ n,(w ++ inB o).length = n := ⟨_,rfl⟩
  rw [en8] at ap4
  obtain ⟨T',r,u1,ui,u3⟩ : ∃ T',evC (callX E X (N + 22)) 92 m none L_purserref06_Bytes_0 ⟨T,[],h⟩ = some (.normal,⟨T',[],h8⟩) ∧ evO T' (.t 1) = .ptr (some (pb,0)) ∧ evO T' (.t 4) = .int .i64 ((i + 1 : Nat) : Int) ∧ evO T' (.t 3) = .slice a8 n8 c8 e8 := by
    generalize (sizV o.l.length ++ o.l).length = L5 at *
    generalize (leN 4 o.n).length = L3 at *
    generalize (leN 4 o.q).length = L7 at *
    generalize ofI .u8 (sizV o.l.length ++ o.l) = O5 at *
    generalize ofI .u8 (leN 4 o.n) = O3 at *
    generalize ofI .u8 (leN 4 o.q) = O7 at *
    generalize ofI .u8 o.tx = O1 at *
    generalize o.l.length = ll at *
    generalize w.length = wl at *
    generalize ins.length = n at *
    unfold Z35 at *
    exact ⟨_,by
      simp (config := {maxSteps := 2000000}) (disch := first | omega | (simp only [List.length_cons,List.length_nil,List.length_append,List.length_drop]; omega)) only [L_purserref06_Bytes_0,t1,ti,t3,gb',c0',ix,gq',ld,st,pu,eh1,g1,↓x_slcA,x_slcAE,x_M0,sl',sc1,ap1,g2,p32,un,r3,sc3,ap2,g4,p33,r5,sc5,ap3,g6,p34,uq,r7,sc7,ap4,wi,↓s_append,↓x_conv,x_convV,↓s_len,x_lenS,↓x_conv,x_convV,↓x_fieldAddr,x_fieldV,Nat.zero_add,Nat.add_zero,↓h_new_get,↓s_load,m_load,↓m_load1,m_load1,↓m_st,m_stE,↓s_alloc,↓x_idxS,x_idxSE,x_addrE,x_lenS,↓s_len,↓s_skip,↓s_ops,↓s_seq,↓s_cond,↓s_block,↓s_nil,↓s_op,↓s_bindS,s_bindS,↓s_bindE,s_bindE,s_norm,↓s_condV,s_condV,s_block_normal,↓s_getp,↓s_getp0,↓s_con,↓s_os0,↓s_os1,↓s_mov,↓s_bin,↓s_call,s_same,b_lss,b_add,↓iteN_true,↓iteN_false,iteN_true,iteN_false,Nat.zero_add,Nat.reduceEqDiff,decide_true,decide_false,List.getElem?_cons_zero,List.getElem?_cons_succ]
      exact rfl,(by (simp only [s_getp,s_getp0,Nat.reduceEqDiff,decide_false,iteN_false,t1]; try rfl)),(by (simp only [s_getp,decide_true,iteN_true]; try rfl)),(by (simp only [s_getp,Nat.reduceEqDiff,decide_false,decide_true,iteN_false,iteN_true]; try rfl))⟩
  exact ⟨T',h8,r,u1,ui,a8,c8,e8,by rw [en8]; exact u3,nw8⟩
end Go.Eng
namespace Go.Eng
open Go
variable {E : Nat → Option Fn} {X : Orc}
set_option linter.unusedSimpArgs false
set_option linter.unusedVariables false
theorem db1_round (e : EnDb E) (x : NoDb X) (N m : Nat) (outs : List OutQ) (li : outs.length ≤ 60) (pb : Nat) (u v z : V) (a0 : Option (Nat × Nat)) (c0 : Option Nat) (e0 : Nat) (hB : H) (gb : hB.get pb = some (.cells [u,v,.slice a0 outs.length c0 e0,z] .rw)) (lpb : pb < hB.next) (row : RowG (fun j => j < hB.next) 2 OutC hB outs a0 e0) (i : Nat) (o : OutQ) (ho : outs[i]? = some o) (ok : o.ok) (ol : o.l.length ≤ 2100) (w : List Nat) (hw : w.length ≤ 600000) (T : Tr V) (h : H) (I : DbI hB pb 6 i w T h) :
    ∃ T' h',evC (callX E X (N + 22)) 92 m none L_purserref06_Bytes_1 ⟨T,[],h⟩ = some (.normal,⟨T',[],h'⟩) ∧ DbI hB pb 6 (i + 1) (w ++ outB o) T' h' := by
  obtain ⟨t1,ti,a,c,ez,t3,nw⟩ := I
  have hi := (List.getElem?_eq_some_iff.1 ho).1
  obtain ⟨q0,off,vs,md,P,rfl,rfl,gq0,⟨b,cb,eb,rfl,sb⟩,cell⟩ := row_cell row i o ho
  have cg0 : vs[off + i * 2]? = some (.int .i64 o.v) := by have := cell 0 (by omega); simpa using this
  have cg1 : vs[off + (i * 2 + 1)]? = some (.slice b o.l.length cb eb) := cell 1 (by omega)
  have hq0 : q0 < hB.next := by
    rcases row with r | ⟨q,_,_,_,eq,_,_,hq,_⟩
    · rw [r] at ho; simp at ho
    · cases eq; exact hq
  obtain ⟨m1,m2⟩ := mod_wr o.v ok.v0 ok.v1
  have wv : wr .u64 o.v = (((o.v % 18446744073709551616).toNat : Nat) : Int) := by
    rw [wr_eq]; simp [IntKind.wrap,IntKind.bits,IntKind.signed]; omega
  have see : ∀ h' : H,Kp hB h' → h'.get pb = some (.cells [u,v,.slice (some (q0,off)) outs.length c0 2,z] .rw) ∧ h'.get q0 = some (.cells vs md) := fun h' k => ⟨by rw [k.2 _ lpb,gb],by rw [k.2 _ hq0,gq0]⟩
  have gh := see h nw.kp
  -- its value
  obtain ⟨h3,a3,c3,e3,r3,nx3⟩ := num_go e x (N + 1) 8 (.inr rfl) (o.v % 18446744073709551616).toNat (by simpa using m2) h
  have sc3 := nx3.wb.src.cellz c3
  obtain ⟨a4,c4,e4,h4,ap2,nw4,n34,f34,o4⟩ := (nw.k nx3.kp).ap (leN 8 (o.v % 18446744073709551616).toNat) (by rw [leN_len]; omega)
  have g4 := see h4 nw4.kp
  -- its script
  have sb4 : SrcH h4 b eb o.l := sb.src.mono nw4.kp
  obtain ⟨h5,a5,c5,e5,r5,k5,sr5,_⟩ := rbytes_go e.rf x.rf N o.l (by omega) b cb eb h4 sb4
  have z5 := sizV_le o.l.length
  have sc5 := sr5.cellz c5
  obtain ⟨a6,c6,e6,h6,ap3,nw6,n56,f56,o6⟩ := (nw4.k k5).ap (sizV o.l.length ++ o.l) (by simp only [List.length_append,leN_len]; omega)
  have ew : w ++ leN 8 (o.v % 18446744073709551616).toNat ++ (sizV o.l.length ++ o.l) = w ++ outB o := by unfold outB; simp only [List.append_assoc]
  rw [ew] at ap3 nw6
  have c0' : decide ((i : Int) < (outs.length : Int)) = true := decide_eq_true (by omega)
  have wi : wr .i64 ((i : Int) + 1) = ((i + 1 : Nat) : Int) := by rw [wr_i64 (by omega)]; omega
  have ix : idx (i : Int) outs.length = some i := idxn hi
  replace r3 : callX E X (N + 22) (.fn k_purserref06_num) [.int .i64 8,.int .u64 (((o.v % 18446744073709551616).toNat : Nat) : Int)] h = _ := r3
  obtain ⟨n4,en4⟩ : ∃ n,(w ++ leN 8 (o.v % 18446744073709551616).toNat).length = n := ⟨_,rfl⟩
  rw [en4] at ap2 ap3
  obtain ⟨n8,en8⟩ : ∃ n,(w ++ outB o).length = n := ⟨_,rfl⟩
  rw [en8] at ap3
  obtain ⟨gh1,gh2⟩ := gh
  obtain ⟨g41,g42⟩ := g4
  obtain ⟨T',r,u1,ui,u3⟩ : ∃ T',evC (callX E X (N + 22)) 92 m none L_purserref06_Bytes_1 ⟨T,[],h⟩ = some (.normal,⟨T',[],h6⟩) ∧ evO T' (.t 1) = .ptr (some (pb,0)) ∧ evO T' (.t 6) = .int .i64 ((i + 1 : Nat) : Int) ∧ evO T' (.t 3) = .slice a6 n8 c6 e6 := by
    generalize (sizV o.l.length ++ o.l).length = L5 at *
    generalize ofI .u8 (sizV o.l.length ++ o.l) = O5 at *
    generalize ofI .u8 (leN 8 (o.v % 18446744073709551616).toNat) = O3 at *
    generalize (leN 8 (o.v % 18446744073709551616).toNat).length = L3 at *
    generalize (((o.v % 18446744073709551616).toNat : Nat) : Int) = VV at *
    generalize o.l.length = ll at *
    generalize w.length = wl at *
    generalize outs.length = n at *
    exact ⟨_,by
      simp (config := {maxSteps := 2000000}) (disch := first | omega | (simp only [List.length_cons,List.length_nil,List.length_append,List.length_drop]; omega)) only [L_purserref06_Bytes_1,t1,ti,t3,gh1,gh2,g41,g42,c0',ix,cg0,cg1,wv,r3,sc3,ap2,r5,sc5,ap3,wi,↓s_append,↓x_conv,x_convV,↓s_len,x_lenS,↓x_conv,x_convV,↓x_fieldAddr,x_fieldV,Nat.zero_add,Nat.add_zero,Nat.add_assoc,↓s_load,m_load,↓m_load1,m_load1,↓x_idxS,x_idxSE,x_addrE,x_lenS,↓s_len,↓s_skip,↓s_ops,↓s_seq,↓s_cond,↓s_block,↓s_nil,↓s_op,↓s_bindS,s_bindS,↓s_bindE,s_bindE,s_norm,↓s_condV,s_condV,s_block_normal,↓s_getp,↓s_con,↓s_os0,↓s_os1,↓s_mov,↓s_bin,↓s_call,s_same,b_lss,b_add,↓iteN_true,↓iteN_false,iteN_true,iteN_false,Nat.zero_add,Nat.reduceEqDiff,decide_true,decide_false,List.getElem?_cons_zero,List.getElem?_cons_succ]
      exact rfl,(by (simp only [s_getp,Nat.reduceEqDiff,decide_false,iteN_false,t1]; try rfl)),(by (simp only [s_getp,decide_true,iteN_true]; try rfl)),(by (simp only [s_getp,Nat.reduceEqDiff,decide_false,decide_true,iteN_false,iteN_true]; try rfl))⟩
  exact ⟨T',h6,r,u1,ui,a6,c6,e6,by rw [en8]; exact u3,nw6⟩
theorem dbytes_go (e : EnDb E) (x : NoDb X) (N : Nat) (hN : 100 < N) (t : TxQ) (ok : t.ok) (g : gtOk t) (P : List V) (h : H) (tc : TxC (fun j => j < h.next) h t P) :
    ∃ h' a c ez,callX E X (N + 23) (.fn k_purserref06_Bytes) [.agg P] h = some (.slice a (txB t).length c ez,h') ∧ Nw h h' (txB t) a c ez := by
  rw [x_cfn e.by_ _ _ (Nat.le_of_ble_eq_true rfl) (x.by_ _ _)]
  have ca' : ∀ l : List V,(V.agg l).cells = l := fun _ => rfl
  obtain ⟨hb,ehb⟩ : ∃ hb,h.new (.cells P .rw) = hb := ⟨_,rfl⟩
  have kb : Kp h hb := by rw [← ehb]; exact Kp.new _ _
  have nb : hb.next = h.next + 1 := by rw [← ehb]; rfl
  have g0 : hb.get h.next = some (.cells P .rw) := by rw [← ehb]; exact h_new_same _ _
  obtain ⟨a,b,ca,cb,ea,eb,eP,ra,rb⟩ := tc.kp kb
  unfold txV at eP
  rw [eP] at g0
  have g1 := g.1
  have g2 := g.2.1
  obtain ⟨h1,a1,c1,e1,r1,nw1⟩ := num_go e x (N + 1) 4 (.inl rfl) t.ver (by have := ok.v1; simpa using this) hb
  obtain ⟨h2,a2,c2,e2,r2,k2,sz2,_⟩ := rsize_go e.rf x.rf (N + 1) t.ins.length (by omega) h1
  have sc2 := sz2.src.cellz c2
  have z2 := sizV_le t.ins.length
  have z3 := sizV_le t.outs.length
  obtain ⟨a3,c3,e3,h3,ap1,nw3,_,_,_⟩ := (nw1.k k2).ap (sizV t.ins.length) (by rw [leN_len]; omega)
  have see : ∀ h' : H,Kp hb h' → h'.get h.next = some (.cells [.int .u32 (t.ver : Int),.slice a t.ins.length ca ea,.slice b t.outs.length cb eb,.int .u32 (t.lock : Int)] .rw) := fun h' k => by rw [k.2 _ (by omega),g0]
  have s1 := see h1 nw1.kp
  have s2 := see h3 nw3.kp
  have w4 : (leN 4 t.ver).length = 4 := leN_len _ _
  obtain ⟨W1,eW1⟩ : ∃ W,leN 4 t.ver ++ sizV t.ins.length = W := ⟨_,rfl⟩
  have lW1 : W1.length ≤ 13 := by rw [← eW1,List.length_append,w4]; omega
  rw [eW1] at ap1 nw3
  have fi : ∀ i,((t.ins.take i).map inB).flatten.length ≤ 132000 := fun i => by
    have := flat_le inB 2200 (t.ins.take i) (fun o ho => inB_len o (ok.io o (List.mem_of_mem_take ho)) (g.2.2.1 o (List.mem_of_mem_take ho)))
    rw [List.length_take] at this
    have : 2200 * min i t.ins.length ≤ 2200 * 60 := Nat.mul_le_mul_left _ (by omega)
    omega
  have fo : ∀ i,((t.outs.take i).map outB).flatten.length ≤ 132000 := fun i => by
    have := flat_le outB 2200 (t.outs.take i) (fun o ho => outB_len o (g.2.2.2 o (List.mem_of_mem_take ho)))
    rw [List.length_take] at this
    have : 2200 * min i t.outs.length ≤ 2200 * 60 := Nat.mul_le_mul_left _ (by omega)
    omega
  have un : wr .u64 (t.ins.length : Int) = (t.ins.length : Int) := u64n _ (by omega)
  have uo : wr .u64 (t.outs.length : Int) = (t.outs.length : Int) := u64n _ (by omega)
  have uv : wr .u64 (t.ver : Int) = (t.ver : Int) := u64n _ (by have := ok.v1; omega)
  have uk : wr .u64 (t.lock : Int) = (t.lock : Int) := u64n _ (by have := ok.l1; omega)
  have fin0 : ∀ T,DbI hb h.next 4 0 (W1 ++ ((t.ins.take 0).map inB).flatten) T h3 → ∃ h' a c ez,fnEnd [.tmp 2] (bindE (blockE 0 (loopN (evC (callX E X (N + 22)) 92 (N + 22) none L_purserref06_Bytes_0) (N + 22) ⟨T,[],h3⟩)) (evC (callX E X (N + 22)) 92 (N + 22) none R_purserref06_Bytes_1)) = some (.slice a (txB t).length c ez,h') ∧ Nw h h' (txB t) a c ez := by
    intro T I
    obtain ⟨T',h4,rr,J⟩ := loop_go (f := evC (callX E X (N + 22)) 92 (N + 22) none L_purserref06_Bytes_0) (fun i T h' => DbI hb h.next 4 i (W1 ++ ((t.ins.take i).map inB).flatten) T h') t.ins.length (.exit 0) (by intro h; cases h) (fun T h' => DbI hb h.next 4 t.ins.length (W1 ++ ((t.ins.take t.ins.length).map inB).flatten) T h') (fun i T h' hi I => by
      have ho : t.ins[i]? = some t.ins[i] := List.getElem?_eq_getElem hi
      have hm := List.mem_of_getElem? ho
      have es : ((t.ins.take (i + 1)).map inB).flatten = ((t.ins.take i).map inB).flatten ++ inB t.ins[i] := by rw [List.take_add_one,ho,List.map_append,List.flatten_append]; simp
      rw [es,← List.append_assoc]
      exact db0_round e x N (N + 22) t.ins (by omega) P h.next _ _ _ a ca ea hb g0 (by omega) ra i _ ho (ok.io _ hm) (g.2.2.1 _ hm) _ (by rw [List.length_append]; have := fi i; omega) T h' I) (fun T h' I => by
      obtain ⟨t1,ti,a',c',e',t3,nw⟩ := I
      have s := see h' nw.kp
      have c0 : decide ((t.ins.length : Int) < (t.ins.length : Int)) = false := decide_eq_false (by omega)
      obtain ⟨L,eL⟩ : ∃ L,(W1 ++ ((t.ins.take t.ins.length).map inB).flatten).length = L := ⟨_,rfl⟩
      rw [eL] at t3
      obtain ⟨n1,en1⟩ : ∃ n,t.ins.length = n := ⟨_,rfl⟩
      rw [en1] at s ti c0
      exact ⟨_,h',by
        simp (config := {maxSteps := 2000000}) (disch := first | omega | (simp only [List.length_cons,List.length_nil,List.length_append,List.length_drop]; omega)) only [L_purserref06_Bytes_0,t1,ti,s,c0,↓s_len,x_lenS,↓x_fieldAddr,x_fieldV,Nat.zero_add,↓s_load,m_load,↓m_load1,m_load1,x_lenS,↓s_len,↓s_ops,↓s_seq,↓s_cond,↓s_exit,↓s_nil,↓s_op,↓s_bindS,s_bindS,↓s_bindE,s_bindE,s_bindE_exit,s_norm,↓s_condV,s_condV,↓s_getp,↓s_mov,↓s_bin,s_same,b_lss,↓iteN_true,↓iteN_false,iteN_true,iteN_false,Nat.zero_add,Nat.reduceEqDiff,decide_true,decide_false,List.getElem?_cons_zero,List.getElem?_cons_succ]
        exact rfl,⟨(by (simp only [s_getp,Nat.reduceEqDiff,decide_false,iteN_false,t1]; try rfl)),by rw [en1]; exact (by (simp only [s_getp,Nat.reduceEqDiff,decide_false,iteN_false,ti]; try rfl)),a',c',e',by rw [eL]; exact (by (simp only [s_getp,Nat.reduceEqDiff,decide_false,iteN_false,t3]; try rfl)),nw⟩⟩) t.ins.length 0 (by omega) (N + 22) (by omega) T h3 I
    rw [rr]
    obtain ⟨t1,ti,a4,c4,e4,t3,nw4⟩ := J
    rw [List.take_length] at t3 nw4
    have fi' := fi t.ins.length
    rw [List.take_length] at fi'
    obtain ⟨W2,eW2⟩ : ∃ W,W1 ++ (t.ins.map inB).flatten = W := ⟨_,rfl⟩
    have lW2 : W2.length ≤ 132013 := by rw [← eW2,List.length_append]; omega
    rw [eW2] at t3 nw4
    have s4 := see h4 nw4.kp
    obtain ⟨h5,a5,c5,e5,r5,k5,sz5,_⟩ := rsize_go e.rf x.rf (N + 1) t.outs.length (by omega) h4
    have sc5 := sz5.src.cellz c5
    obtain ⟨a6,c6,e6,h6,ap5,nw6,_,_,_⟩ := (nw4.k k5).ap (sizV t.outs.length) (by omega)
    have s6 := see h6 nw6.kp
    obtain ⟨W3,eW3⟩ : ∃ W,W2 ++ sizV t.outs.length = W := ⟨_,rfl⟩
    have lW3 : W3.length ≤ 132022 := by rw [← eW3,List.length_append]; omega
    rw [eW3] at ap5 nw6
    have fin1 : ∀ T,DbI hb h.next 6 0 (W3 ++ ((t.outs.take 0).map outB).flatten) T h6 → ∃ h' a c ez,fnEnd [.tmp 2] (bindE (blockE 2 (loopN (evC (callX E X (N + 22)) 92 (N + 22) none L_purserref06_Bytes_1) (N + 22) ⟨T,[],h6⟩)) (evC (callX E X (N + 22)) 92 (N + 22) none R_purserref06_Bytes_0)) = some (.slice a (txB t).length c ez,h') ∧ Nw h h' (txB t) a c ez := by
      intro T I
      obtain ⟨T',h7,rr,J⟩ := loop_go (f := evC (callX E X (N + 22)) 92 (N + 22) none L_purserref06_Bytes_1) (fun i T h' => DbI hb h.next 6 i (W3 ++ ((t.outs.take i).map outB).flatten) T h') t.outs.length (.exit 2) (by intro h; cases h) (fun T h' => DbI hb h.next 6 t.outs.length (W3 ++ ((t.outs.take t.outs.length).map outB).flatten) T h') (fun i T h' hi I => by
        have ho : t.outs[i]? = some t.outs[i] := List.getElem?_eq_getElem hi
        have hm := List.mem_of_getElem? ho
        have es : ((t.outs.take (i + 1)).map outB).flatten = ((t.outs.take i).map outB).flatten ++ outB t.outs[i] := by rw [List.take_add_one,ho,List.map_append,List.flatten_append]; simp
        rw [es,← List.append_assoc]
        exact db1_round e x N (N + 22) t.outs (by omega) h.next _ _ _ b cb eb hb g0 (by omega) rb i _ ho (ok.oo _ hm) (g.2.2.2 _ hm) _ (by rw [List.length_append]; have := fo i; omega) T h' I) (fun T h' I => by
        obtain ⟨t1,ti,a',c',e',t3,nw⟩ := I
        have s := see h' nw.kp
        have c0 : decide ((t.outs.length : Int) < (t.outs.length : Int)) = false := decide_eq_false (by omega)
        obtain ⟨L,eL⟩ : ∃ L,(W3 ++ ((t.outs.take t.outs.length).map outB).flatten).length = L := ⟨_,rfl⟩
        rw [eL] at t3
        obtain ⟨n1,en1⟩ : ∃ n,t.outs.length = n := ⟨_,rfl⟩
        rw [en1] at s ti c0
        exact ⟨_,h',by
          simp (config := {maxSteps := 2000000}) (disch := first | omega | (simp only [List.length_cons,List.length_nil,List.length_append,List.length_drop]; omega)) only [L_purserref06_Bytes_1,t1,ti,s,c0,↓s_len,x_lenS,↓x_fieldAddr,x_fieldV,Nat.zero_add,↓s_load,m_load,↓m_load1,m_load1,x_lenS,↓s_len,↓s_ops,↓s_seq,↓s_cond,↓s_exit,↓s_nil,↓s_op,↓s_bindS,s_bindS,↓s_bindE,s_bindE,s_bindE_exit,s_norm,↓s_condV,s_condV,↓s_getp,↓s_mov,↓s_bin,s_same,b_lss,↓iteN_true,↓iteN_false,iteN_true,iteN_false,Nat.zero_add,Nat.reduceEqDiff,decide_true,decide_false,List.getElem?_cons_zero,List.getElem?_cons_succ]
          exact rfl,⟨(by (simp only [s_getp,Nat.reduceEqDiff,decide_false,iteN_false,t1]; try rfl)),by rw [en1]; exact (by (simp only [s_getp,Nat.reduceEqDiff,decide_false,iteN_false,ti]; try rfl)),a',c',e',by rw [eL]; exact (by (simp only [s_getp,Nat.reduceEqDiff,decide_false,iteN_false,t3]; try rfl)),nw⟩⟩) t.outs.length 0 (by omega) (N + 22) (by omega) T h6 I
      rw [rr]
      obtain ⟨t1,ti,a7,c7,e7,t3,nw7⟩ := J
      rw [List.take_length] at t3 nw7
      have fo' := fo t.outs.length
      rw [List.take_length] at fo'
      have s7 := see h7 nw7.kp
      obtain ⟨h8,a8,c8,e8,r8,nx8⟩ := num_go e x (N + 1) 4 (.inl rfl) t.lock (by have := ok.l1; simpa using this) h7
      have sc8 := nx8.wb.src.cellz c8
      obtain ⟨a9,c9,e9,h9,ap8,nw9,_,_,_⟩ := (nw7.k nx8.kp).ap (leN 4 t.lock) (by rw [List.length_append,leN_len]; omega)
      have ew : W3 ++ (t.outs.map outB).flatten ++ leN 4 t.lock = txB t := by rw [← eW3,← eW2,← eW1]; rfl
      rw [ew] at ap8 nw9
      refine ⟨h9,a9,c9,e9,?_,⟨kb.trans nw9.kp,nw9.wb,fun q o eq => by have := nw9.ge q o eq; omega⟩⟩
      replace r8 : callX E X (N + 22) (.fn k_purserref06_num) [.int .i64 4,.int .u64 (t.lock : Int)] h7 = _ := r8
      generalize (W3 ++ (t.outs.map outB).flatten).length = L7 at *
      generalize (txB t).length = LB at *
      generalize ofI .u8 (leN 4 t.lock) = O8 at *
      generalize (leN 4 t.lock).length = L8 at *
      generalize t.ins.length = n1 at *
      generalize t.outs.length = n2 at *
      simp (config := {maxSteps := 2000000}) (disch := first | omega | (simp only [List.length_cons,List.length_nil,List.length_append,List.length_drop]; omega)) only [R_purserref06_Bytes_0,t1,t3,s7,uk,r8,sc8,ap8,↓s_append,↓x_conv,x_convV,↓x_conv,x_convV,↓x_fieldAddr,x_fieldV,Nat.zero_add,↓s_load,m_load,↓m_load1,m_load1,s_res0,↓s_ops,↓s_seq,↓s_ret,↓s_nil,↓s_op,↓s_bindS,s_bindS,↓s_bindE,s_bindE,s_norm,s_block_exit,↓s_getp,↓s_con,↓s_os0,↓s_os1,↓s_mov,↓s_call,s_same,s_end,s_res0,s_res1,s_tup1,↓iteN_true,↓iteN_false,iteN_true,iteN_false,Nat.zero_add,Nat.reduceEqDiff,decide_true,decide_false,List.getElem?_cons_zero,List.getElem?_cons_succ,if_true]
      try rfl
    obtain ⟨R,eR⟩ : ∃ R,R_purserref06_Bytes_0 = R := ⟨_,rfl⟩
    obtain ⟨Lo,eL⟩ : ∃ R,L_purserref06_Bytes_1 = R := ⟨_,rfl⟩
    rw [eR,eL] at fin1
    have e0 : W3 ++ ((t.outs.take 0).map outB).flatten = W3 := by simp
    rw [e0] at fin1
    have fin' := fun T q1 q6 q3 => fin1 T ⟨q1,q6,a6,c6,e6,q3,nw6⟩
    clear fin1
    replace r5 : callX E X (N + 22) (.fn k_purserref01_Size) [.int .u64 (t.outs.length : Int)] h4 = _ := r5
    generalize (txB t).length = LB at *
    generalize W3.length = L3 at *
    obtain ⟨OS,eOS⟩ : ∃ O,ofI .u8 (sizV t.outs.length) = O := ⟨_,rfl⟩
    obtain ⟨LS,eLS⟩ : ∃ O,(sizV t.outs.length).length = O := ⟨_,rfl⟩
    rw [eOS,eLS] at sc5 ap5
    rw [eLS] at r5
    generalize W2.length = L2 at *
    obtain ⟨n2,en2⟩ : ∃ n,t.outs.length = n := ⟨_,rfl⟩
    rw [en2] at s4 uo r5
    obtain ⟨n1,en1⟩ : ∃ n,t.ins.length = n := ⟨_,rfl⟩
    rw [en1] at s4
    simp (config := {maxSteps := 2000000}) (disch := first | omega | (simp only [List.length_cons,List.length_nil,List.length_append,List.length_drop]; omega)) only [R_purserref06_Bytes_1,eR,eL,t1,t3,s4,uo,r5,sc5,ap5,↓s_append,↓x_conv,x_convV,↓s_len,x_lenS,↓x_conv,x_convV,↓x_fieldAddr,x_fieldV,Nat.zero_add,↓l_loop,↓l_succ,↓s_load,m_load,↓m_load1,m_load1,x_lenS,↓s_len,↓s_ops,↓s_seq,↓s_block,↓s_nil,↓s_op,↓s_bindS,s_bindS,↓s_bindE,s_bindE,s_norm,s_block_exit,↓s_getp,↓s_con,↓s_os0,↓s_os1,↓s_mov,↓s_call,s_same,↓iteN_true,↓iteN_false,iteN_true,iteN_false,Nat.zero_add,Nat.reduceEqDiff,decide_true,decide_false,List.getElem?_cons_zero,List.getElem?_cons_succ,if_true]
    exact fin' _ (by (simp only [s_getp,Nat.reduceEqDiff,decide_false,iteN_false,t1]; try rfl)) (by (simp only [s_getp,decide_true,iteN_true]; try rfl)) (by (simp only [s_getp,Nat.reduceEqDiff,decide_false,decide_true,iteN_false,iteN_true]; try rfl))
  obtain ⟨R,eR⟩ : ∃ R,R_purserref06_Bytes_1 = R := ⟨_,rfl⟩
  obtain ⟨Lo,eL⟩ : ∃ R,L_purserref06_Bytes_0 = R := ⟨_,rfl⟩
  rw [eR,eL] at fin0 ⊢
  have e0 : W1 ++ ((t.ins.take 0).map inB).flatten = W1 := by simp
  rw [e0] at fin0
  have fin' := fun T q1 q4 q3 => fin0 T ⟨q1,q4,a3,c3,e3,q3,nw3⟩
  clear fin0
  replace r1 : callX E X (N + 22) (.fn k_purserref06_num) [.int .i64 4,.int .u64 (t.ver : Int)] hb = _ := r1
  replace r2 : callX E X (N + 22) (.fn k_purserref01_Size) [.int .u64 (t.ins.length : Int)] h1 = _ := r2
  generalize (txB t).length = LB at *
  generalize W1.length = L1 at *
  obtain ⟨OS,eOS⟩ : ∃ O,ofI .u8 (sizV t.ins.length) = O := ⟨_,rfl⟩
  obtain ⟨LS,eLS⟩ : ∃ O,(sizV t.ins.length).length = O := ⟨_,rfl⟩
  rw [eOS,eLS] at sc2 ap1
  rw [eLS] at r2
  rw [w4] at r1 ap1
  obtain ⟨n2,en2⟩ : ∃ n,t.outs.length = n := ⟨_,rfl⟩
  obtain ⟨n1,en1⟩ : ∃ n,t.ins.length = n := ⟨_,rfl⟩
  rw [en1,en2] at g0 s1 eP
  rw [en1] at un r2
  rw [eP] at ehb ⊢
  simp (config := {maxSteps := 2000000}) (disch := first | omega | (simp only [List.length_cons,List.length_nil,List.length_append,List.length_drop]; omega)) only [ca',ehb,g0,uv,r1,s1,un,r2,sc2,ap1,↓s_append,↓s_box,↓x_conv,x_convV,↓s_len,x_lenS,↓x_conv,x_convV,↓x_fieldAddr,x_fieldV,Nat.zero_add,Nat.add_zero,↓l_loop,↓l_succ,↓s_load,m_load,↓m_load1,m_load1,x_lenS,↓s_len,↓s_ops,↓s_seq,↓s_block,↓s_nil,↓s_op,↓s_bindS,s_bindS,↓s_bindE,s_bindE,s_norm,↓s_getp,↓s_get,↓s_con,↓s_os0,↓s_os1,↓s_list0,↓s_list1,↓s_mov,↓s_call,s_same,↓iteN_true,↓iteN_false,iteN_true,iteN_false,Nat.zero_add,Nat.reduceEqDiff,decide_true,decide_false,List.getElem?_cons_zero,List.getElem?_cons_succ]
  exact fin' _ (by (simp only [s_getp,Nat.reduceEqDiff,decide_false,decide_true,iteN_false,iteN_true]; try rfl)) (by (simp only [s_getp,decide_true,iteN_true]; try rfl)) (by (simp only [s_getp,Nat.reduceEqDiff,decide_false,decide_true,iteN_false,iteN_true]; try rfl))
theorem dsame6_go (e : EnDb E) (x : NoDb X) (N : Nat) (hN : 100 < N) (t u : TxQ) (ok : t.ok) (uk : u.ok) (g : gtOk t) (gu : gtOk u) (P1 P2 : List V) (h : H) (c1 : TxC (fun j => j < h.next) h t P1) (c2 : TxC (fun j => j < h.next) h u P2) :
    ∃ h',callX E X (N + 24) (.fn k_purserref06_Same) [.agg P1,.agg P2] h = some (.bool (decide (txB t = txB u)),h') ∧ Kp h h' := by
  rw [x_cfn e.sa _ _ (Nat.le_of_ble_eq_true rfl) (x.sa _ _)]
  have ca' : ∀ l : List V,(V.agg l).cells = l := fun _ => rfl
  obtain ⟨hA,eA⟩ : ∃ hA,(h.new (.cells P1 .rw)).new (.cells P2 .rw) = hA := ⟨_,rfl⟩
  have kA : Kp h hA := by rw [← eA]; (repeat (first | exact Kp.refl _ | refine Kp.put ?_ _ (by first | omega | (simp only [h_next_put,h_next_new,h_next_del]; omega)) | refine Kp.del ?_ (by first | omega | (simp only [h_next_put,h_next_new,h_next_del]; omega)) | refine Kp.trans ?_ (Kp.new _ _)))
  have nA : hA.next = h.next + 2 := by rw [← eA]; rfl
  have g1 : hA.get h.next = some (.cells P1 .rw) := by rw [← eA]; (simp (disch := omega) only [h_new_get,h_next_new,Nat.add_eq_left,decide_true,decide_false,iteN_true,iteN_false,reduceCtorEq,]; try rfl)
  have g2 : hA.get (h.next + 1) = some (.cells P2 .rw) := by rw [← eA]; (simp (disch := omega) only [h_new_get,h_next_new,decide_true,iteN_true,]; try rfl)
  have f1 := c1.fit
  have f2 := c2.fit
  have l1 := fun m => fit_ld f1 m
  have l2 := fun m => fit_ld f2 m
  obtain ⟨hB,a,ca,ea,rB,nB⟩ := dbytes_go e x N hN t ok g P1 hA (c1.kp kA)
  have g2B : hB.get (h.next + 1) = some (.cells P2 .rw) := by rw [nB.kp.2 _ (by omega),g2]
  obtain ⟨hC,b,cb,eb,rC,nC⟩ := dbytes_go e x N hN u uk gu P2 hB ((c2.kp kA).kp nB.kp)
  have s1 := str_src nB.wb.src (txB_byt t ok) ca
  have s1' := str_src (nB.wb.kp nC.kp).src (txB_byt t ok) ca
  have s2 := str_src nC.wb.src (txB_byt u uk) cb
  refine ⟨hC,?_,(kA.trans nB.kp).trans nC.kp⟩
  have lb1 : V.beq (.agg P2) (.agg P2) = true := by
    obtain ⟨_,_,_,_,_,_,eP,_⟩ := c2
    rw [eP]; exact vbeq4 _ _ _ _ _ _ _ _ _ _ _
  generalize (txB t).length = n1 at *
  generalize (txB u).length = n2 at *
  simp (config := {maxSteps := 2000000}) (disch := first | omega | (simp only [List.length_cons,List.length_nil,List.length_append,List.length_drop]; omega)) only [ca',eA,g1,g2,g2B,l1,l2,rB,rC,s1,s1',s2,b_seq,↓ns_b2s,vbeq_str,lb1,Bool.and_self,↓s_box,Nat.zero_add,↓s_evD,↓s_dnil,↓s_dL,↓s_dR,↓s_dRj,↓s_dB,↓s_bindD,s_bindD,s_finDx,s_addP0,↓s_bump0,s_ok0,↓s_ok1,s_okR0,↓s_okR1,↓s_okE,s_okE,s_okE1,s_nth0,s_nthS,Bool.and_self,h_next_new,↓s_load,m_load,s_res0,↓s_ops,↓s_dops,↓s_seq,↓s_ret,↓s_nil,↓s_op,↓s_bindS,s_bindS,↓s_bindE,s_bindE,s_norm,↓s_getp,↓s_get,↓s_con,↓s_os0,↓s_os1,↓s_list0,↓s_list1,↓s_mov,↓s_bin,↓s_call,s_same,s_end,s_res0,s_res1,s_tup1,↓iteN_true,↓iteN_false,iteN_true,iteN_false,Nat.zero_add,Nat.reduceEqDiff,decide_true,decide_false]
  try rfl
end Go.Eng
