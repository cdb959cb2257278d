/- What functions of the program come to: own work. -/
import Derived.Test.YtfopajklnakmpaaBxJ
namespace Go.Eng
open Go
variable {E : Nat → Option Fn} {X : Orc}
set_option linter.unusedSimpArgs false
set_option linter.unusedVariables false
/-! a hash the other way about -/
def rvK (s : List Nat) (k : Nat) : List Nat := (List.range 32).map (fun i => if i < k ∨ 32 - k ≤ i then s.getD (31 - i) 0 else s.getD i 0)
theorem rvK_len (s : List Nat) (k : Nat) : (rvK s k).length = 32 := by unfold rvK; rw [List.length_map,List.length_range]
theorem rvK_get (s : List Nat) (k i : Nat) (h : i < 32) : (rvK s k)[i]? = some (if i < k ∨ 32 - k ≤ i then s.getD (31 - i) 0 else s.getD i 0) := by
  unfold rvK
  rw [List.getElem?_map,List.getElem?_range h]; rfl
theorem rvK_0 (s : List Nat) (hs : s.length = 32) : rvK s 0 = s := by
  apply List.ext_getElem?
  intro i
  by_cases h : i < 32
  · rw [rvK_get s 0 i h,if_neg (by omega),List.getElem?_eq_getElem (by omega)]
    rw [List.getD_eq_getElem?_getD,List.getElem?_eq_getElem (by omega)]; rfl
  · rw [List.getElem?_eq_none (by rw [rvK_len]; omega),List.getElem?_eq_none (by omega)]
theorem rvK_16 (s : List Nat) (hs : s.length = 32) : rvK s 16 = s.reverse := by
  apply List.ext_getElem?
  intro i
  by_cases h : i < 32
  · rw [rvK_get s 16 i h,if_pos (by omega),List.getElem?_reverse (by omega),hs]
    rw [List.getD_eq_getElem?_getD]
    rw [show 32 - 1 - i = 31 - i by omega,List.getElem?_eq_getElem (by omega)]; rfl
  · rw [List.getElem?_eq_none (by rw [rvK_len]; omega),List.getElem?_eq_none (by rw [List.length_reverse]; omega)]
theorem rvK_step (s : List Nat) (k : Nat) (hk : k < 16) : ((rvK s k).set k (s.getD (31 - k) 0)).set (31 - k) (s.getD k 0) = rvK s (k + 1) := by
  apply List.ext_getElem?
  intro i
  by_cases h : i < 32
  · rw [List.getElem?_set,List.length_set,rvK_len,List.getElem?_set,rvK_len,rvK_get s (k + 1) i h,rvK_get s k i h]
    by_cases h1 : 31 - k = i
    · subst h1
      rw [if_pos rfl,if_pos (by omega),if_pos (by omega),show 31 - (31 - k) = k by omega]
    · rw [if_neg h1]
      by_cases h2 : k = i
      · subst h2
        rw [if_pos rfl,if_pos (by omega),if_pos (by omega)]
      · rw [if_neg h2]
        by_cases h3 : i < k ∨ 32 - k ≤ i
        · rw [if_pos h3,if_pos (by omega)]
        · rw [if_neg h3,if_neg (by omega)]
  · rw [List.getElem?_eq_none (by simp [rvK_len]; omega),List.getElem?_eq_none (by rw [rvK_len]; omega)]
structure RvI (p : Nat) (s : List Nat) (h0 : H) (k : Nat) (T : Tr V) (h : H) : Prop where
  t0 : evO T (.t 0) = .slice (some (p,0)) 32 (some 32) 1
  t2 : evO T (.t 2) = .int .i64 (k : Int)
  t3 : evO T (.t 3) = .int .i64 (31 - (k : Int))
  g : h.get p = some (.cells (ofI .u8 (rvK s k)) .rw)
  nx : h.next = h0.next
  fr : ∀ i,i ≠ p → h.get i = h0.get i
structure EnBs (E : Nat → Option Fn) : Prop where
  rv : E k_slices_Reverse_byte_byte = some f_slices_Reverse_byte_byte
  re : E k_block_reversed = some f_block_reversed
  vo : E k_block_valueOf = some f_block_valueOf
  sh : E k_block_Show = some f_block_Show
  rd : E k_block_Read = some f_block_Read
structure NoBs (X : Orc) : Prop where
  rv : ∀ a h,X (.fn k_slices_Reverse_byte_byte) a h = none
  re : ∀ a h,X (.fn k_block_reversed) a h = none
  vo : ∀ a h,X (.fn k_block_valueOf) a h = none
  sh : ∀ a h,X (.fn k_block_Show) a h = none
  rd : ∀ a h,X (.fn k_block_Read) a h = none
theorem rvs_step (Q : Orc) (m p : Nat) (s : List Nat) (h0 : H) : ∀ i T h,i < 16 → RvI p s h0 i T h → ∃ T' h',evC Q 28 m none L_slices_Reverse_byte_byte_0 ⟨T,[],h⟩ = some (.normal,⟨T',[],h'⟩) ∧ RvI p s h0 (i + 1) T' h' := by
  intro i T h hi ⟨t0,t2,t3,g,nx,fr⟩
  have c0 : decide ((i : Int) < 31 - (i : Int)) = true := decide_eq_true (by omega)
  have wi : wr .i64 ((i : Int) + 1) = ((i + 1 : Nat) : Int) := by rw [wr_i64 (by omega)]; omega
  have wj : wr .i64 (31 - (i : Int) - 1) = 31 - ((i + 1 : Nat) : Int) := by rw [wr_i64 (by omega)]; omega
  have ix : idx (i : Int) 32 = some i := idxn (by omega)
  obtain ⟨j,ej⟩ : ∃ j : Nat,31 - i = j := ⟨_,rfl⟩
  have ij : (31 - (i : Int)) = (j : Int) := by omega
  have jx : idx (j : Int) 32 = some j := idxn (by omega)
  have l1 : (ofI .u8 (rvK s i))[i]? = some (.int .u8 ((s.getD i 0 : Nat) : Int)) := by
    rw [ofI_get _ _ _ (by rw [rvK_len]; omega),List.getD_eq_getElem?_getD (l := rvK s i),rvK_get s i i (by omega),if_neg (by omega)]; rfl
  have l2 : (ofI .u8 (rvK s i))[j]? = some (.int .u8 ((s.getD (31 - i) 0 : Nat) : Int)) := by
    rw [ofI_get _ _ _ (by rw [rvK_len]; omega),List.getD_eq_getElem?_getD (l := rvK s i),rvK_get s i j (by omega),if_neg (by omega),← ej]; rfl
  have lz : (ofI .u8 (rvK s i)).length = 32 := by rw [ofI_len,rvK_len]
  have w1 : ∀ (h : H) q,storeE (some (.cells (ofI .u8 (rvK s i)) .rw)) h q i [.int .u8 ((s.getD (31 - i) 0 : Nat) : Int)] = some (h.put q (.cells (ofI .u8 ((rvK s i).set i (s.getD (31 - i) 0))) .rw)) := fun h q => by
    rw [m_storeE _ _ _ _ _ (by rw [lz]; show i + 1 ≤ 32; omega),writeN_set _ _ _ (by rw [lz]; omega),ofI_set]
  have w2 : ∀ (h : H) q,storeE (some (.cells (ofI .u8 ((rvK s i).set i (s.getD (31 - i) 0))) .rw)) h q j [.int .u8 ((s.getD i 0 : Nat) : Int)] = some (h.put q (.cells (ofI .u8 (rvK s (i + 1))) .rw)) := fun h q => by
    have lz2 : (ofI .u8 ((rvK s i).set i (s.getD (31 - i) 0))).length = 32 := by rw [ofI_len,List.length_set,rvK_len]
    rw [m_storeE _ _ _ _ _ (by rw [lz2]; show j + 1 ≤ 32; omega),writeN_set _ _ _ (by rw [lz2]; omega),ofI_set,← ej,rvK_step s i hi]
  obtain ⟨h1,eh1⟩ : ∃ h1,h.put p (.cells (ofI .u8 ((rvK s i).set i (s.getD (31 - i) 0))) .rw) = h1 := ⟨_,rfl⟩
  have g1 : h1.get p = some (.cells (ofI .u8 ((rvK s i).set i (s.getD (31 - i) 0))) .rw) := by rw [← eh1]; exact h_put_same _ _ _
  have n1 : h1.next = h.next := by rw [← eh1]; rfl
  rw [ij] at t3 c0 wj
  have nF : ((h1.put p (.cells (ofI .u8 (rvK s (i + 1))) .rw))).next = h0.next := by show h1.next = _; omega
  have fF : ∀ q,q ≠ p → (h1.put p (.cells (ofI .u8 (rvK s (i + 1))) .rw)).get q = h0.get q := fun q hq => by rw [h_put_ne _ _ hq.symm,← eh1,h_put_ne _ _ hq.symm,fr q hq]
  have gF : (h1.put p (.cells (ofI .u8 (rvK s (i + 1))) .rw)).get p = some (.cells (ofI .u8 (rvK s (i + 1))) .rw) := h_put_same _ _ _
  generalize ofI .u8 ((rvK s i).set i (s.getD (31 - i) 0)) = C1 at *
  obtain ⟨C2,eC2⟩ : ∃ C,ofI .u8 (rvK s (i + 1)) = C := ⟨_,rfl⟩
  rw [eC2] at w2 nF fF gF
  generalize ofI .u8 (rvK s i) = C0 at *
  generalize s.getD (31 - i) 0 = x1 at *
  generalize s.getD i 0 = x2 at *
  obtain ⟨T',r,u0,u2,u3⟩ : ∃ T',evC Q 28 m none L_slices_Reverse_byte_byte_0 ⟨T,[],h⟩ = some (.normal,⟨T',[],h1.put p (.cells C2 .rw)⟩) ∧ evO T' (.t 0) = .slice (some (p,0)) 32 (some 32) 1 ∧ evO T' (.t 2) = .int .i64 ((i + 1 : Nat) : Int) ∧ evO T' (.t 3) = .int .i64 (31 - ((i + 1 : Nat) : Int)) := by
    clear lz
    exact ⟨_,by
      simp (config := {maxSteps := 2000000}) (disch := first | omega | (simp only [List.length_cons,List.length_nil,List.length_append,List.length_drop]; omega)) only [L_slices_Reverse_byte_byte_0,t0,t2,t3,c0,ix,jx,g,l1,l2,w1,eh1,g1,w2,wi,wj,Nat.zero_add,Nat.mul_one,↓s_evD,↓s_dnil,↓s_dL,↓s_dR,↓s_dB,↓s_bindD,s_bindD,s_finD,s_addP0,↓s_bump0,↓s_load,m_load,↓m_load1,m_load1,↓m_st,m_stE,m_storeI,↓x_idxS,x_idxSE,x_addrE,↓s_skip,↓s_ops,↓s_dops,↓s_seq,↓s_cond,↓s_block,↓s_nil,↓s_op,↓s_bindS,s_bindS,↓s_bindE,s_bindE,s_norm,↓s_condV,s_condV,s_block_normal,↓s_getp,↓s_getp0,↓s_con,↓s_mov,↓s_bin,s_same,b_lss,b_add,b_sub,↓iteN_true,↓iteN_false,iteN_true,iteN_false,Nat.zero_add,Nat.reduceEqDiff,decide_true,decide_false]
      exact rfl,(by (simp only [s_getp,s_getp0,Nat.reduceEqDiff,decide_false,iteN_false,t0]; try rfl)),(by (simp only [s_getp,Nat.reduceEqDiff,decide_false,decide_true,iteN_false,iteN_true]; try rfl)),(by (simp only [s_getp,decide_true,iteN_true]; try rfl))⟩
  exact ⟨T',_,r,u0,u2,u3,by rw [eC2]; exact gF,nF,fF⟩
end Go.Eng
namespace Go.Eng
open Go
variable {E : Nat → Option Fn} {X : Orc}
set_option linter.unusedSimpArgs false
set_option linter.unusedVariables false
theorem reverse_go (e : EnBs E) (x : NoBs X) (N : Nat) (hN : 30 < N) (p : Nat) (s : List Nat) (hs : s.length = 32) (h : H) (g : h.get p = some (.cells (ofI .u8 s) .rw)) :
    ∃ h',callX E X (N + 1) (.fn k_slices_Reverse_byte_byte) [.slice (some (p,0)) 32 (some 32) 1] h = some (.tup [],h') ∧ h'.get p = some (.cells (ofI .u8 s.reverse) .rw) ∧ h'.next = h.next ∧ ∀ i,i ≠ p → h'.get i = h.get i := by
  rw [x_cfn e.rv _ _ (Nat.le_of_ble_eq_true rfl) (x.rv _ _)]
  have fin : ∀ T,RvI p s h 0 T h → ∃ h',fnEnd [] (blockE 0 (loopN (evC (callX E X N) 28 N none L_slices_Reverse_byte_byte_0) N ⟨T,[],h⟩)) = some (.tup [],h') ∧ h'.get p = some (.cells (ofI .u8 s.reverse) .rw) ∧ h'.next = h.next ∧ ∀ i,i ≠ p → h'.get i = h.get i := by
    intro T I
    obtain ⟨T',h',rr,g',n',f'⟩ := loop_go (f := evC (callX E X N) 28 N none L_slices_Reverse_byte_byte_0) (RvI p s h) 16 (.exit 0) (by intro h; cases h) (fun _ h' => h'.get p = some (.cells (ofI .u8 s.reverse) .rw) ∧ h'.next = h.next ∧ ∀ i,i ≠ p → h'.get i = h.get i) (fun i T h' hi I => rvs_step (callX E X N) N p s h i T h' hi I) (fun T h' I => by
      obtain ⟨t0,t2,t3,g,nx,fr⟩ := I
      have c0 : decide (((16 : Nat) : Int) < 31 - ((16 : Nat) : Int)) = false := rfl
      rw [rvK_16 s hs] at g
      exact ⟨_,h',by
        simp (config := {maxSteps := 2000000}) (disch := first | omega | (simp only [List.length_cons,List.length_nil,List.length_append,List.length_drop]; omega)) only [L_slices_Reverse_byte_byte_0,t2,t3,Int.reduceLT,Int.reduceSub,Int.cast_ofNat_Int,↓s_ops,↓s_seq,↓s_cond,↓s_exit,↓s_nil,↓s_op,↓s_bindS,s_bindS,↓s_bindE,s_bindE,s_bindE_exit,s_norm,↓s_condV,s_condV,↓s_getp,↓s_mov,↓s_bin,s_same,b_lss,↓iteN_true,↓iteN_false,iteN_true,iteN_false,Nat.reduceEqDiff,decide_true,decide_false]
        exact rfl,g,nx,fr⟩) 16 0 (by omega) N (by omega) T h I
    exact ⟨h',by rw [rr]; rfl,g',n',f'⟩
  obtain ⟨Lo,eL⟩ : ∃ R,L_slices_Reverse_byte_byte_0 = R := ⟨_,rfl⟩
  rw [eL] at fin ⊢
  have fin' := fun T q0 q2 q3 => fin T ⟨q0,q2,q3,by rw [rvK_0 s hs]; exact g,rfl,fun _ _ => rfl⟩
  clear fin
  have w : wr .i64 ((32 : Int) - 1) = 31 := rfl
  simp (config := {maxSteps := 2000000}) (disch := first | omega | (simp only [List.length_cons,List.length_nil,List.length_append,List.length_drop]; omega)) only [↓s_len,x_lenS,↓l_loop,x_lenS,↓s_len,Int.reduceSub,Int.cast_ofNat_Int,↓s_ops,↓s_seq,↓s_block,↓s_nil,↓s_op,↓s_bindS,s_bindS,↓s_bindE,s_bindE,s_norm,↓s_getp,↓s_get,↓s_con,↓s_list0,↓s_list1,↓s_mov,↓s_bin,s_same,b_sub,↓iteN_true,↓iteN_false,iteN_true,iteN_false,Nat.reduceEqDiff,decide_true,decide_false]
  exact fin' _ rfl rfl rfl
theorem reversed_go (e : EnBs E) (x : NoBs X) (N : Nat) (hN : 30 < N) (s : List Nat) (hs : s.length = 32) (h : H) :
    ∃ h',callX E X (N + 2) (.fn k_block_reversed) [.agg (ofI .u8 s)] h = some (.agg (ofI .u8 s.reverse),h') ∧ Kp h h' := by
  rw [x_cfn e.re _ _ (Nat.le_of_ble_eq_true rfl) (x.re _ _)]
  rw [← z32e]
  obtain ⟨Z,eZ⟩ : ∃ Z,ofI .u8 (List.replicate 32 0) = Z := ⟨_,rfl⟩
  rw [eZ]
  have ca' : ∀ l : List V,(V.agg l).cells = l := fun _ => rfl
  obtain ⟨h2,eh2⟩ : ∃ h2,(h.new (.cells (ofI .u8 s) .rw)).new (.cells Z .rw) = h2 := ⟨_,rfl⟩
  have k2 : Kp h h2 := by rw [← eh2]; (repeat (first | exact Kp.refl _ | refine Kp.put ?_ _ (by first | omega | (simp only [h_next_put,h_next_new,h_next_del]; omega)) | refine Kp.del ?_ (by first | omega | (simp only [h_next_put,h_next_new,h_next_del]; omega)) | refine Kp.trans ?_ (Kp.new _ _)))
  have n2 : h2.next = h.next + 2 := by rw [← eh2]; rfl
  have g21 : h2.get h.next = some (.cells (ofI .u8 s) .rw) := by rw [← eh2]; (simp (disch := omega) only [h_new_get,h_next_new,Nat.add_eq_left,decide_true,decide_false,iteN_true,iteN_false,reduceCtorEq,]; try rfl)
  have g22 : h2.get (h.next + 1) = some (.cells Z .rw) := by rw [← eh2]; (simp (disch := omega) only [h_new_get,h_next_new,decide_true,iteN_true,]; try rfl)
  obtain ⟨h3,c3,g3,n3,f3⟩ := reverse_go e x N hN h.next s hs h2 g21
  have g32 : h3.get (h.next + 1) = some (.cells Z .rw) := by rw [f3 _ (by omega),g22]
  have lr : s.reverse.length = 32 := by rw [List.length_reverse,hs]
  have sl : ∀ i (h : H),slcB (some (.cells (ofI .u8 s) .rw)) 32 1 i 0 none none h = some (.slice (some (i,0)) 32 (some 32) 1,h) := fun i h => slcB_nn _ .rw 32 i 0 h (by rw [ofI_len]; omega)
  have ld : ∀ m,loadE (some (.cells (ofI .u8 s.reverse) m)) (some 32) 0 = some (.agg (ofI .u8 s.reverse)) := fun m => by rw [m_loadN,x_readAll _ 32 (by rw [ofI_len,lr])]
  have st : ∀ h i,storeV h 32 (.ptr (some (i,0))) (.agg (ofI .u8 s.reverse)) = storeE (h.get i) h i 0 (ofI .u8 s.reverse) := fun h i => st32 h i 0 _ lr
  have pu : ∀ h i,storeE (some (.cells Z .rw)) h i 0 (ofI .u8 s.reverse) = some (h.put i (.cells (ofI .u8 s.reverse) .rw)) := fun h i => by
    rw [m_storeE _ _ _ _ _ (by rw [← eZ,ofI_len,ofI_len,lr,List.length_replicate]; omega),← eZ,wrAll _ _ _ (by rw [List.length_replicate,lr])]
  refine ⟨h3.put (h.next + 1) (.cells (ofI .u8 s.reverse) .rw),?_,⟨by show h.next ≤ h3.next; omega,fun j hj => by rw [h_put_ne _ _ (by omega),f3 _ (by omega),k2.2 _ hj]⟩⟩
  generalize ofI .u8 s.reverse = R at *
  generalize ofI .u8 s = S0 at *
  simp (config := {maxSteps := 2000000}) (disch := first | omega | (simp only [List.length_cons,List.length_nil,List.length_append,List.length_drop]; omega)) only [ca',eh2,g21,↓x_slcA,x_slcAE,x_M0,sl,c3,g3,ld,g32,st,pu,↓s_box,↓h_put_get,h_next_new,↓s_load,m_load,↓m_st,m_stE,↓s_alloc,s_resc,s_consR,s_res0,↓s_ops,↓s_seq,↓s_ret,↓s_nil,↓s_op,↓s_bindS,s_bindS,↓s_bindE,s_bindE,s_norm,↓s_getp,↓s_getp0,↓s_get,↓s_os0,↓s_os1,↓s_list0,↓s_list1,↓s_call,s_same,s_end,s_res0,s_tup1,↓iteN_true,↓iteN_false,iteN_true,iteN_false,Nat.reduceEqDiff,decide_true,decide_false]
  try rfl
/-! digits -/
def dg (n : Nat) : Nat := if n < 10 then 48 + n else 87 + n
theorem dg_lt (n : Nat) (h : n < 16) : dg n < 256 := by unfold dg; split <;> omega
def isE (x i : V) (h : H) : Option (V × H) := match x,i with
  | .str s,.int _ (.ofNat j) => match s[j]? with | some c => some (.int .u8 (.ofNat c),h) | none => none
  | _,_ => none
theorem x_idxStr (Q : Orc) (T : Tr V) (h : H) (x i : O) : Eng.step (.idxStr x i) Q T h = isE (evO T x) (evO T i) h := by
  show o_idxStr x i Q T h = _
  unfold o_idxStr isE
  cases evO T x <;> cases evO T i <;> rfl
theorem isE_dg (n : Nat) (hn : n < 16) (k : IntKind) (h : H) : isE (.str [48,49,50,51,52,53,54,55,56,57,97,98,99,100,101,102]) (.int k (n : Int)) h = some (.int .u8 (dg n : Nat),h) := by
  have : n = 0 ∨ n = 1 ∨ n = 2 ∨ n = 3 ∨ n = 4 ∨ n = 5 ∨ n = 6 ∨ n = 7 ∨ n = 8 ∨ n = 9 ∨ n = 10 ∨ n = 11 ∨ n = 12 ∨ n = 13 ∨ n = 14 ∨ n = 15 := by omega
  rcases this with rfl | rfl | rfl | rfl | rfl | rfl | rfl | rfl | rfl | rfl | rfl | rfl | rfl | rfl | rfl | rfl <;> rfl
theorem shr8 (b : Nat) (e : EqK) (h : H) : binV .shr e h (.int .u8 (b : Int)) (.int .u64 4) = some (.int .u8 ((b / 16 : Nat) : Int)) := rfl
theorem and8 (b : Nat) (hb : b < 256) (e : EqK) (h : H) : binV .and e h (.int .u8 (b : Int)) (.int .u8 15) = some (.int .u8 ((b % 16 : Nat) : Int)) := by
  have e1 : binV .and e h (.int .u8 (b : Int)) (.int .u8 15) = some (.int .u8 (asK .u8 (Nat.land (b % 256) 15))) := rfl
  have e2 : Nat.land b 15 = b % 16 := Nat.and_two_pow_sub_one_eq_mod b 4
  rw [e1,Nat.mod_eq_of_lt hb,e2]
  have : asK .u8 (b % 16) = ((b % 16 : Nat) : Int) := by
    unfold asK
    rw [cond_blt,if_pos (by simp [half]; omega)]
    rfl
  rw [this]
theorem valueOf_go (e : EnBs E) (x : NoBs X) (N : Nat) (n : Nat) (hn : n < 16) (h : H) : callX E X (N + 1) (.fn k_block_valueOf) [.int .u8 (dg n : Nat)] h = some (.int .i64 (n : Int),h) := by
  rw [x_cfn e.vo _ _ (Nat.le_of_ble_eq_true rfl) (x.vo _ _)]
  by_cases h10 : n < 10
  · have ed : dg n = 48 + n := by unfold dg; rw [if_pos h10]
    rw [ed]
    have c1 : decide ((48 : Int) ≤ ((48 + n : Nat) : Int)) = true := decide_eq_true (by omega)
    have c2 : decide (((48 + n : Nat) : Int) ≤ 57) = true := decide_eq_true (by omega)
    have w1 : wr .u8 (((48 + n : Nat) : Int) - 48) = (n : Int) := by rw [wr_eq]; simp [IntKind.wrap,IntKind.bits,IntKind.signed]; omega
    have w2 : wr .i64 (n : Int) = (n : Int) := wr_i64 (by omega)
    generalize ((48 + n : Nat) : Int) = v at *
    simp (config := {maxSteps := 2000000}) (disch := first | omega | (simp only [List.length_cons,List.length_nil,List.length_append,List.length_drop]; omega)) only [c1,c2,w1,w2,↓x_conv,x_convV,↓x_conv,x_convV,s_res0,↓s_ops,↓s_seq,↓s_cond,↓s_block,↓s_ret,↓s_nil,↓s_op,↓s_opg,↓s_wanted',↓s_wantV,s_wantV,↓s_bindS,s_bindS,↓s_bindE,s_bindE,s_bindE_ret,s_norm,↓s_condV,s_condV,s_block_ret,↓s_getp,↓s_get,↓s_con,↓s_list0,↓s_list1,↓s_mov,↓s_pick,↓s_pickE,s_pickE,↓s_bin,s_same,b_leq,b_geq,b_sub,s_end,s_res0,s_res1,s_tup1,↓iteN_true,↓iteN_false,iteN_true,iteN_false,Nat.reduceEqDiff,decide_true,decide_false,beq_self_eq_true]
    try rfl
  · have ed : dg n = 87 + n := by unfold dg; rw [if_neg h10]
    rw [ed]
    have c1 : decide ((48 : Int) ≤ ((87 + n : Nat) : Int)) = true := decide_eq_true (by omega)
    have c2 : decide (((87 + n : Nat) : Int) ≤ 57) = false := decide_eq_false (by omega)
    have c3 : decide ((97 : Int) ≤ ((87 + n : Nat) : Int)) = true := decide_eq_true (by omega)
    have c4 : decide (((87 + n : Nat) : Int) ≤ 102) = true := decide_eq_true (by omega)
    have w1 : wr .u8 (((87 + n : Nat) : Int) - 97) = ((n - 10 : Nat) : Int) := by rw [wr_eq]; simp [IntKind.wrap,IntKind.bits,IntKind.signed]; omega
    have w2 : wr .i64 ((n - 10 : Nat) : Int) = ((n - 10 : Nat) : Int) := wr_i64 (by omega)
    have w3 : wr .i64 (((n - 10 : Nat) : Int) + 10) = (n : Int) := by rw [wr_i64 (by omega)]; omega
    generalize ((87 + n : Nat) : Int) = v at *
    generalize ((n - 10 : Nat) : Int) = u at *
    simp (config := {maxSteps := 2000000}) (disch := first | omega | (simp only [List.length_cons,List.length_nil,List.length_append,List.length_drop]; omega)) only [c1,c2,c3,c4,w1,w2,w3,↓x_conv,x_convV,↓x_conv,x_convV,s_res0,↓s_ops,↓s_seq,↓s_cond,↓s_block,↓s_ret,↓s_nil,↓s_op,↓s_opg,↓s_wanted',↓s_wantV,s_wantV,↓s_bindS,s_bindS,↓s_bindE,s_bindE,s_bindE_ret,s_norm,↓s_condV,s_condV,s_block_ret,↓s_getp,↓s_get,↓s_con,↓s_list0,↓s_list1,↓s_mov,↓s_pick,↓s_pickE,s_pickE,↓s_bin,s_same,b_leq,b_geq,b_add,b_sub,s_end,s_res0,s_res1,s_tup1,↓iteN_true,↓iteN_false,iteN_true,iteN_false,Nat.reduceEqDiff,decide_true,decide_false,beq_self_eq_true]
    try rfl
end Go.Eng
namespace Go.Eng
open Go
variable {E : Nat → Option Fn} {X : Orc}
set_option linter.unusedSimpArgs false
set_option linter.unusedVariables false
/-! a hash,shown -/
def hx (s : List Nat) : List Nat := (s.map fun b => [dg (b / 16),dg (b % 16)]).flatten
theorem hx_len (s : List Nat) : (hx s).length = 2 * s.length := by
  unfold hx
  induction s with
  | nil => rfl
  | cons a r ih => rw [List.map_cons,List.flatten_cons,List.length_append,ih,List.length_cons]; simp; omega
theorem hx_take (s : List Nat) (i : Nat) (b : Nat) (h : s[i]? = some b) : hx (s.take (i + 1)) = hx (s.take i) ++ [dg (b / 16),dg (b % 16)] := by
  unfold hx
  rw [List.take_add_one,h,List.map_append,List.flatten_append]; simp
theorem hx_byt (s : List Nat) (hs : byt s = true) : byt (hx s) = true := by
  unfold hx
  induction s with
  | nil => rfl
  | cons a r ih =>
    rw [List.map_cons,List.flatten_cons]
    have ha := byt_iff.1 hs a (List.mem_cons_self ..)
    refine byt_app (byt_iff.2 (fun x hx => ?_)) (ih (byt_tail hs))
    rcases List.mem_cons.1 hx with rfl | hx
    · exact dg_lt _ (by omega)
    · rcases List.mem_singleton.1 hx with rfl
      exact dg_lt _ (Nat.mod_lt _ (by omega))
/-- bytes that may grow: nobody else's,or none yet,with room -/
def ShS (h : H) (w : List Nat) (a : Option (Nat × Nat)) (c : Option Nat) (e : Nat) : Prop := ∃ q vs md,a = some (q,0) ∧ e = 1 ∧ fullC c (w.length + 2) = false ∧ (∀ n,w.length + n < 1 → c = c) ∧ h.get q = some (.cells vs md) ∧ isRo md = false ∧ q < h.next ∧ w.length ≤ vs.length ∧ vs.take w.length = ofI .u8 w ∧ (w = [] ∨ c = none)
theorem sh_ap (h : H) (w : List Nat) (hw : w.length ≤ 62) (a : Option (Nat × Nat)) (c : Option Nat) (e : Nat) (s : ShS h w a c e) (x y : Nat) :
    ∃ h',appendC h 1 1 (.slice a w.length c e) (some (2,[.int .u8 (x : Int),.int .u8 (y : Int)])) = some (.slice (some (h.next,0)) (w.length + 2) none 1,h') ∧ ShS h' (w ++ [x,y]) (some (h.next,0)) none 1 ∧ h'.next = h.next + 1 ∧ ∀ i,i < h.next → a ≠ some (i,0) → h'.get i = h.get i := by
  obtain ⟨q,vs,md,rfl,rfl,fc,_,g,hm,hq,lv,tv,_⟩ := s
  have nx : ((h.del q).new (.cells (vs.take w.length ++ [.int .u8 (x : Int),.int .u8 (y : Int)]) .sh)).next = h.next + 1 := by simp only [h_next_new,h_next_del]
  refine ⟨(h.del q).new (.cells (vs.take w.length ++ [.int .u8 (x : Int),.int .u8 (y : Int)]) .sh),?_,⟨h.next,vs.take w.length ++ [.int .u8 (x : Int),.int .u8 (y : Int)],.sh,rfl,rfl,rfl,fun _ _ => rfl,by rw [h_new_same' _ _ (by rw [h_next_del])],rfl,by rw [nx]; omega,by simp [List.length_append,List.length_take]; omega,?_,.inr rfl⟩,nx,fun i hi hne => by rw [h_new_ne _ _ (by rw [h_next_del]; omega),h_del_ne _ (fun e => hne (by rw [e]))]⟩
  · unfold appendC
    simp only
    have r : (roomy (w.length + 2) 1 && (Nat.beq 1 1 || (some (q,0) : Option (Nat × Nat)).isNone) && ([V.int .u8 (x : Int),.int .u8 (y : Int)]).all plainV) = true := by
      have : roomy (w.length + 2) 1 = true := by simp [roomy]; omega
      rw [this]; rfl
    have rd := readN_of vs 0 (w.length * 1) (by omega)
    rw [List.drop_zero,Nat.mul_one] at rd
    rw [r]
    simp only [_root_.cond_true,g,fc,Nat.mul_one]
    cases md with
    | ro => cases hm
    | rw => simp only [rd]
    | sh => simp only [rd]
  · rw [List.take_of_length_le (by simp [List.length_append,List.length_take]; exact Nat.min_le_left _ _)]
    rw [tv,ofI_app]; rfl
structure ShI (s : List Nat) (h0 : H) (i : Nat) (T : Tr V) (h : H) : Prop where
  t8 : evO T (.t 8) = .agg (ofI .u8 s)
  t9 : evO T (.t 9) = .int .i64 (i : Int)
  st : ∃ a c e,evO T (.t 3) = .slice a (hx (s.take i)).length c e ∧ ShS h (hx (s.take i)) a c e ∧ ∀ q o,a = some (q,o) → h0.next ≤ q
  kp : Kp h0 h
theorem sh_step (Q : Orc) (m : Nat) (s : List Nat) (hs : s.length = 32) (bs : byt s = true) (h0 : H) : ∀ i T h,i < 32 → ShI s h0 i T h → ∃ T' h',evC Q 24 m none L_block_Show_0 ⟨T,[],h⟩ = some (.normal,⟨T',[],h'⟩) ∧ ShI s h0 (i + 1) T' h' := by
  intro i T h hi ⟨t8,t9,⟨a,c,e,t3,sh,ge⟩,kp⟩
  have lt : (hx (s.take i)).length = 2 * i := by rw [hx_len,List.length_take]; omega
  obtain ⟨b,hb⟩ : ∃ b,s[i]? = some b := ⟨_,List.getElem?_eq_getElem (by omega)⟩
  have b256 : b < 256 := byt_iff.1 bs b (List.mem_of_getElem? hb)
  have gd : s.getD i 0 = b := by rw [List.getD_eq_getElem?_getD,hb]; rfl
  have c0 : decide ((i : Int) < 32) = true := decide_eq_true (by omega)
  have wi : wr .i64 ((i : Int) + 1) = ((i + 1 : Nat) : Int) := by rw [wr_i64 (by omega)]; omega
  have ix : idx (i : Int) 32 = some i := idxn hi
  have pv : partV (ofI .u8 s) i (agSz false 1) = some (.int .u8 (b : Int)) := by
    have : partV (ofI .u8 s) i (agSz false 1) = (ofI .u8 s)[i]? := rfl
    rw [this,ofI_get _ _ _ (by omega),gd]
  have i1 := fun k h => isE_dg (b / 16) (by omega) k h
  have i2 := fun k h => isE_dg (b % 16) (Nat.mod_lt _ (by omega)) k h
  obtain ⟨hr,ehr⟩ : ∃ hr,(bump 1 h).put h.next (.cells [.int .u8 (dg (b / 16) : Nat),.int .u8 (dg (b % 16) : Nat)] .rw) = hr := ⟨_,rfl⟩
  have nr : hr.next = h.next + 1 := by rw [← ehr]; rfl
  have kr : Kp h hr := ⟨by omega,fun j hj => by rw [← ehr,h_put_ne _ _ (by omega),s_bump_get]⟩
  have gr : hr.get h.next = some (.cells [.int .u8 (dg (b / 16) : Nat),.int .u8 (dg (b % 16) : Nat)] .rw) := by rw [← ehr]; exact h_put_same _ _ _
  have sc : srcCells hr 1 (.slice (some (h.next,0)) 2 (some 2) 1) = some (2,[.int .u8 (dg (b / 16) : Nat),.int .u8 (dg (b % 16) : Nat)]) := by
    rw [m_src,gr]; rfl
  have shr : ShS hr (hx (s.take i)) a c e := by
    obtain ⟨q,vs,md,s1,s2,s3,s4,s5,s6,s7,s8⟩ := sh
    exact ⟨q,vs,md,s1,s2,s3,s4,by rw [kr.2 _ s7,s5],s6,by omega,s8⟩
  obtain ⟨h',ap,sh',n',f'⟩ := sh_ap hr (hx (s.take i)) (by omega) a c e shr (dg (b / 16)) (dg (b % 16))
  rw [← hx_take s i b hb] at sh'
  have lt' : (hx (s.take (i + 1))).length = (hx (s.take i)).length + 2 := by rw [hx_len,hx_len,List.length_take,List.length_take]; omega
  have kn := kp.1
  have kF : Kp h0 h' := ⟨by omega,fun j hj => by rw [f' _ (by omega) (fun eq => by have := ge _ _ eq; omega),kr.2 _ (by omega),kp.2 _ hj]⟩
  have an := and8 b b256
  have sr := shr8 b
  obtain ⟨T',r,u8,u9,u3⟩ : ∃ T',evC Q 24 m none L_block_Show_0 ⟨T,[],h⟩ = some (.normal,⟨T',[],h'⟩) ∧ evO T' (.t 8) = .agg (ofI .u8 s) ∧ evO T' (.t 9) = .int .i64 ((i + 1 : Nat) : Int) ∧ evO T' (.t 3) = .slice (some (hr.next,0)) ((hx (s.take i)).length + 2) none 1 := by
    generalize (hx (s.take i)).length = wl at *
    generalize ofI .u8 s = SV at *
    exact ⟨_,by
      simp (config := {maxSteps := 2000000}) (disch := first | omega | (simp only [List.length_cons,List.length_nil,List.length_append,List.length_drop]; omega)) only [L_block_Show_0,t3,t8,t9,c0,ix,x_idxArr,pv,sr,an,↓x_idxStr,i1,i2,ehr,sc,ap,wi,↓s_dBuildS,s_dbE,↓s_append,Nat.zero_add,Nat.add_zero,Nat.mul_one,↓s_evD,↓s_dnil,↓s_dL,↓s_dB,↓s_bindD,s_bindD,s_finD,s_addP0,s_addP1,s_addB,s_lookP,Nat.add_zero,w_zero,w_succ,↓x_P0,↓x_P1,x_fill0,x_filli,List.length_cons,List.length_nil,List.cons_append,List.drop_succ_cons,List.drop_zero,List.drop_nil,List.nil_append,↓s_skip,↓s_ops,↓s_dops,↓s_seq,↓s_cond,↓s_block,↓s_nil,↓s_op,↓s_bindS,s_bindS,↓s_bindE,s_bindE,s_norm,↓s_condV,s_condV,s_block_normal,↓s_getp,↓s_con,↓s_mov,↓s_bin,s_same,b_lss,b_add,↓iteN_true,↓iteN_false,iteN_true,iteN_false,Nat.zero_add,List.nil_append,List.append_nil,Nat.reduceEqDiff,decide_true,decide_false]
      exact rfl,(by (simp only [s_getp,Nat.reduceEqDiff,decide_false,iteN_false,t8]; try rfl)),(by (simp only [s_getp,decide_true,iteN_true]; try rfl)),(by (simp only [s_getp,Nat.reduceEqDiff,decide_false,decide_true,iteN_false,iteN_true]; try rfl))⟩
  exact ⟨T',h',r,u8,u9,⟨some (hr.next,0),none,1,by rw [lt']; exact u3,sh',fun q o eq => by cases eq; omega⟩,kF⟩
theorem show_go (e : EnBs E) (x : NoBs X) (N : Nat) (hN : 50 < N) (s : List Nat) (hs : s.length = 32) (bs : byt s = true) (h : H) :
    ∃ h',callX E X (N + 3) (.fn k_block_Show) [.agg (ofI .u8 s)] h = some (.str (hx s.reverse),h') ∧ Kp h h' := by
  rw [x_cfn e.sh _ _ (Nat.le_of_ble_eq_true rfl) (x.sh _ _)]
  have ca' : ∀ l : List V,(V.agg l).cells = l := fun _ => rfl
  obtain ⟨Z,eZ⟩ : ∃ Z : List V,(List.replicate 64 [V.int .u8 0]).flatten = Z := ⟨_,rfl⟩
  have lZ : Z.length = 64 := by rw [← eZ]; rfl
  have mk : ∀ h : H,mksE [.int .u8 0] 1 (.int .i64 0) (.int .i64 64) h = some (.slice (some (h.next,0)) 0 (some 64) 1,h.new (.cells Z .rw)) := fun h => by
    rw [← eZ]; rfl
  obtain ⟨h2,eh2⟩ : ∃ h2,(h.new (.cells (ofI .u8 s) .rw)).new (.cells Z .rw) = h2 := ⟨_,rfl⟩
  have k2 : Kp h h2 := by rw [← eh2]; (repeat (first | exact Kp.refl _ | refine Kp.put ?_ _ (by first | omega | (simp only [h_next_put,h_next_new,h_next_del]; omega)) | refine Kp.del ?_ (by first | omega | (simp only [h_next_put,h_next_new,h_next_del]; omega)) | refine Kp.trans ?_ (Kp.new _ _)))
  have n2 : h2.next = h.next + 2 := by rw [← eh2]; rfl
  have g21 : h2.get h.next = some (.cells (ofI .u8 s) .rw) := by rw [← eh2]; (simp (disch := omega) only [h_new_get,h_next_new,Nat.add_eq_left,decide_true,decide_false,iteN_true,iteN_false,reduceCtorEq,]; try rfl)
  have g22 : h2.get (h.next + 1) = some (.cells Z .rw) := by rw [← eh2]; (simp (disch := omega) only [h_new_get,h_next_new,decide_true,iteN_true,]; try rfl)
  have ld : ∀ m,loadE (some (.cells (ofI .u8 s) m)) (some 32) 0 = some (.agg (ofI .u8 s)) := fun m => by rw [m_loadN,x_readAll _ 32 (by rw [ofI_len,hs])]
  obtain ⟨h3,c3,k3⟩ := reversed_go e x N (by omega) s hs h2
  have kn := k3.1
  have lr : s.reverse.length = 32 := by rw [List.length_reverse,hs]
  have br : byt s.reverse = true := byt_iff.2 (fun x hx => byt_iff.1 bs x (List.mem_reverse.1 hx))
  have k03 : Kp h h3 := k2.trans k3
  have fin : ∀ T,ShI s.reverse h 0 T h3 → ∃ h',fnEnd [.tmp 2] (bindE (blockE 0 (loopN (evC (callX E X (N + 2)) 24 (N + 2) none L_block_Show_0) (N + 2) ⟨T,[],h3⟩)) (evC (callX E X (N + 2)) 24 (N + 2) none R_block_Show_0)) = some (.str (hx s.reverse),h') ∧ Kp h h' := by
    intro T I
    obtain ⟨T',h',rr,J⟩ := loop_go (f := evC (callX E X (N + 2)) 24 (N + 2) none L_block_Show_0) (ShI s.reverse h) 32 (.exit 0) (by intro h; cases h) (ShI s.reverse h 32) (fun i T h' hi I => sh_step (callX E X (N + 2)) (N + 2) s.reverse lr br h i T h' hi I) (fun T h' I => by
      obtain ⟨t8,t9,⟨a,c,e,t3,sh,ge⟩,kp⟩ := I
      have c0 : decide (((32 : Nat) : Int) < 32) = false := rfl
      obtain ⟨L,eL⟩ : ∃ L,(hx (s.reverse.take 32)).length = L := ⟨_,rfl⟩
      rw [eL] at t3
      exact ⟨_,h',by
        simp (config := {maxSteps := 2000000}) (disch := first | omega | (simp only [List.length_cons,List.length_nil,List.length_append,List.length_drop]; omega)) only [L_block_Show_0,t9,Int.reduceLT,Int.cast_ofNat_Int,↓s_ops,↓s_seq,↓s_cond,↓s_exit,↓s_nil,↓s_op,↓s_bindS,s_bindS,↓s_bindE,s_bindE,s_bindE_exit,s_norm,↓s_condV,s_condV,↓s_getp,↓s_con,↓s_bin,s_same,b_lss,↓iteN_true,↓iteN_false,iteN_true,iteN_false,decide_true,decide_false]
        exact rfl,⟨(by (simp only [s_getp,Nat.reduceEqDiff,decide_false,iteN_false,t8]; try rfl)),(by (simp only [s_getp,Nat.reduceEqDiff,decide_false,iteN_false,t9]; try rfl)),⟨a,c,e,by rw [eL]; exact (by (simp only [s_getp,Nat.reduceEqDiff,decide_false,iteN_false,t3]; try rfl)),sh,ge⟩,kp⟩⟩) 32 0 (by omega) (N + 2) (by omega) T h3 I
    rw [rr]
    obtain ⟨t8,t9,⟨a,c,e,t3,sh,ge⟩,kp⟩ := J
    rw [List.take_of_length_le (by omega)] at t3 sh
    have src : SrcH h' a e (hx s.reverse) := by
      obtain ⟨q,vs,md,s1,s2,s3,s4,s5,s6,s7,s8,s9,_⟩ := sh
      exact .inr ⟨q,0,vs,md,s1,s2,s7,s5,by omega,by rw [List.drop_zero]; exact s9⟩
    have s1 := str_src src (hx_byt _ br) c
    refine ⟨h',?_,kp⟩
    generalize (hx s.reverse).length = L at *
    simp (config := {maxSteps := 2000000}) (disch := first | omega | (simp only [List.length_cons,List.length_nil,List.length_append,List.length_drop]; omega)) only [R_block_Show_0,t3,s1,↓ns_b2s,s_res0,↓s_ops,↓s_seq,↓s_ret,↓s_nil,↓s_op,↓s_bindS,s_bindS,↓s_bindE,s_bindE,s_norm,s_block_exit,↓s_getp,↓s_mov,s_same,s_end,s_res0,s_res1,s_tup1,↓iteN_true,iteN_true,decide_true,if_true]
    try rfl
  obtain ⟨R,eR⟩ : ∃ R,R_block_Show_0 = R := ⟨_,rfl⟩
  obtain ⟨Lo,eLo⟩ : ∃ R,L_block_Show_0 = R := ⟨_,rfl⟩
  rw [eR,eLo] at fin ⊢
  have g32 : h3.get (h.next + 1) = some (.cells Z .rw) := by rw [k3.2 _ (by omega),g22]
  have l0 : (hx (s.reverse.take 0)).length = 0 := rfl
  have fin' := fun T q8 q9 q3 => fin T ⟨q8,q9,⟨some (h.next + 1,0),some 64,1,q3,⟨h.next + 1,Z,.rw,rfl,rfl,rfl,fun _ _ => rfl,g32,rfl,by omega,by rw [l0]; omega,rfl,.inl rfl⟩,fun q o eq => by cases eq; omega⟩,k03⟩
  rw [l0] at fin'
  clear fin
  generalize ofI .u8 s.reverse = RV_ at *
  generalize ofI .u8 s = SV at *
  simp (config := {maxSteps := 2000000}) (disch := first | omega | (simp only [List.length_cons,List.length_nil,List.length_append,List.length_drop]; omega)) only [ca',↓x_mkslice,mk,eh2,g21,ld,c3,↓s_box,↓l_loop,↓l_succ,h_next_new,↓s_load,m_load,↓s_ops,↓s_seq,↓s_block,↓s_nil,↓s_op,↓s_bindS,s_bindS,↓s_bindE,s_bindE,s_norm,↓s_getp,↓s_get,↓s_con,↓s_os0,↓s_os1,↓s_list0,↓s_list1,↓s_mov,↓s_call,s_same,↓iteN_true,↓iteN_false,iteN_true,iteN_false,Nat.reduceEqDiff,decide_true,decide_false]
  exact fin' _ (by (simp only [s_getp,Nat.reduceEqDiff,decide_false,decide_true,iteN_false,iteN_true]; try rfl)) (by (simp only [s_getp,decide_true,iteN_true]; try rfl)) (by (simp only [s_getp,Nat.reduceEqDiff,decide_false,decide_true,iteN_false,iteN_true]; try rfl))
end Go.Eng
namespace Go.Eng
open Go
variable {E : Nat → Option Fn} {X : Orc}
set_option linter.unusedSimpArgs false
set_option linter.unusedVariables false
theorem hx_get (r : List Nat) (i b : Nat) (h : r[i]? = some b) : (hx r)[2 * i]? = some (dg (b / 16)) ∧ (hx r)[2 * i + 1]? = some (dg (b % 16)) := by
  have hi := (List.getElem?_eq_some_iff.1 h).1
  have eb : r[i] = b := (List.getElem?_eq_some_iff.1 h).2
  have sp : hx r = hx (r.take i) ++ ([dg (b / 16),dg (b % 16)] ++ hx (r.drop (i + 1))) := by
    conv => lhs; rw [← List.take_append_drop i r,List.drop_eq_getElem_cons hi]
    unfold hx
    rw [List.map_append,List.flatten_append,List.map_cons,List.flatten_cons,eb]
  have l : (hx (r.take i)).length = 2 * i := by rw [hx_len,List.length_take]; omega
  rw [sp]
  constructor
  · rw [List.getElem?_append_right (by omega),l,Nat.sub_self]; rfl
  · rw [List.getElem?_append_right (by omega),l,show 2 * i + 1 - 2 * i = 1 by omega]; rfl
theorem shl_i (n : Nat) (hn : n < 16) (e : EqK) (h : H) : binV .shl e h (.int .i64 (n : Int)) (.int .u64 4) = some (.int .i64 ((n * 16 : Nat) : Int)) := by
  have e1 : binV .shl e h (.int .i64 (n : Int)) (.int .u64 4) = some (.int .i64 (wr .i64 ((n * 16 : Nat) : Int))) := rfl
  rw [e1,wr_i64 (by omega)]
theorem or_i (n b : Nat) (hn : n < 16) (hb : b < 16) (e : EqK) (h : H) : binV .or e h (.int .i64 ((n * 16 : Nat) : Int)) (.int .i64 (b : Int)) = some (.int .i64 ((n * 16 + b : Nat) : Int)) := by
  have e1 : binV .or e h (.int .i64 ((n * 16 : Nat) : Int)) (.int .i64 (b : Int)) = some (.int .i64 (asK .i64 (Nat.lor (n * 16 % 18446744073709551616) (b % 18446744073709551616)))) := rfl
  rw [e1,Nat.mod_eq_of_lt (by omega),Nat.mod_eq_of_lt (a := b) (by omega)]
  have o : Nat.lor (n * 16) b = n * 16 + b := by
    have := Nat.two_pow_add_eq_or_of_lt (i := 4) (b := b) hb n
    show (n * 16) ||| b = n * 16 + b
    rw [show n * 16 = 2 ^ 4 * n by omega,← this]
  rw [o]
  have : asK .i64 (n * 16 + b) = ((n * 16 + b : Nat) : Int) := by
    unfold asK
    rw [cond_blt,if_pos (by simp [half]; omega)]
    rfl
  rw [this]
def flK (r : List Nat) (i : Nat) : List Nat := r.take i ++ List.replicate (32 - i) 0
theorem flK_len (r : List Nat) (hr : r.length = 32) (i : Nat) (hi : i ≤ 32) : (flK r i).length = 32 := by unfold flK; rw [List.length_append,List.length_take,List.length_replicate]; omega
theorem flK_set (r : List Nat) (hr : r.length = 32) (i b : Nat) (hi : i < 32) (h : r[i]? = some b) : (flK r i).set i b = flK r (i + 1) := by
  unfold flK
  have l : (r.take i).length = i := by rw [List.length_take]; omega
  rw [List.set_append_right _ _ (by omega),l,Nat.sub_self,show 32 - i = (32 - (i + 1)) + 1 by omega,List.replicate_succ,List.set_cons_zero,List.take_add_one,h,List.append_assoc]
  rfl
structure BrI (q q4 : Nat) (r : List Nat) (h0 : H) (i : Nat) (T : Tr V) (h : H) : Prop where
  t0 : evO T (.t 0) = .str (hx r)
  t2 : evO T (.t 2) = .ptr (some (q,0))
  t4 : evO T (.t 4) = .ptr (some (q4,0))
  ti : evO T (.t 12) = .int .i64 (i : Int)
  g : h.get q4 = some (.cells (ofI .u8 (flK r i)) .rw)
  nx : h.next = h0.next
  fr : ∀ j,j ≠ q4 → h.get j = h0.get j
theorem br_step (e : EnBs E) (x : NoBs X) (N m : Nat) (q q4 : Nat) (r : List Nat) (hr : r.length = 32) (br : byt r = true) (h0 : H) : ∀ i T h,i < 32 → BrI q q4 r h0 i T h → ∃ T' h',evC (callX E X (N + 1)) 43 m none L_block_Read_0 ⟨T,[],h⟩ = some (.normal,⟨T',[],h'⟩) ∧ BrI q q4 r h0 (i + 1) T' h' := by
  intro i T h hi ⟨t0,t2,t4,ti,g,nx,fr⟩
  obtain ⟨b,hb⟩ : ∃ b,r[i]? = some b := ⟨_,List.getElem?_eq_getElem (by omega)⟩
  have b256 : b < 256 := byt_iff.1 br b (List.mem_of_getElem? hb)
  obtain ⟨x1,x2⟩ := hx_get r i b hb
  have hh : b / 16 < 16 := by omega
  have hl : b % 16 < 16 := Nat.mod_lt _ (by omega)
  have v1 := valueOf_go e x N (b / 16) hh h
  have v2 := valueOf_go e x N (b % 16) hl h
  have c0 : decide ((i : Int) < 32) = true := decide_eq_true (by omega)
  have wi : wr .i64 ((i : Int) + 1) = ((i + 1 : Nat) : Int) := by rw [wr_i64 (by omega)]; omega
  have wm : wr .i64 (2 * (i : Int)) = ((2 * i : Nat) : Int) := by rw [wr_i64 (by omega)]; omega
  have wm1 : wr .i64 (((2 * i : Nat) : Int) + 1) = ((2 * i + 1 : Nat) : Int) := by rw [wr_i64 (by omega)]; omega
  have y1 : ∀ h,isE (.str (hx r)) (.int .i64 ((2 * i : Nat) : Int)) h = some (.int .u8 (dg (b / 16) : Nat),h) := fun h => by
    show (match (hx r)[2 * i]? with | some c => some (V.int .u8 (.ofNat c),h) | none => none) = _
    rw [x1]; rfl
  have y2 : ∀ h,isE (.str (hx r)) (.int .i64 ((2 * i + 1 : Nat) : Int)) h = some (.int .u8 (dg (b % 16) : Nat),h) := fun h => by
    show (match (hx r)[2 * i + 1]? with | some c => some (V.int .u8 (.ofNat c),h) | none => none) = _
    rw [x2]; rfl
  have n1 : decide (((b / 16 : Nat) : Int) < 0) = false := decide_eq_false (by omega)
  have n2 : decide (((b % 16 : Nat) : Int) < 0) = false := decide_eq_false (by omega)
  have s1 := shl_i (b / 16) hh
  have o1 := or_i (b / 16) (b % 16) hh hl
  have eb : b / 16 * 16 + b % 16 = b := by omega
  rw [eb] at o1
  have wc : wr .u8 (b : Int) = (b : Int) := by rw [wr_eq]; simp [IntKind.wrap,IntKind.bits,IntKind.signed]; omega
  have ix : idx (i : Int) 32 = some i := idxn hi
  have lz := flK_len r hr i (by omega)
  have w1 : ∀ (h : H) q,storeE (some (.cells (ofI .u8 (flK r i)) .rw)) h q i [.int .u8 (b : Int)] = some (h.put q (.cells (ofI .u8 (flK r (i + 1))) .rw)) := fun h q => by
    rw [m_storeE _ _ _ _ _ (by rw [ofI_len,lz]; show i + 1 ≤ 32; omega),writeN_set _ _ _ (by rw [ofI_len,lz]; omega),ofI_set,flK_set r hr i b hi hb]
  have F : BrI q q4 r h0 (i + 1) T h → True := fun _ => trivial
  obtain ⟨C2,eC2⟩ : ∃ C,ofI .u8 (flK r (i + 1)) = C := ⟨_,rfl⟩
  rw [eC2] at w1
  generalize ofI .u8 (flK r i) = C1 at *
  obtain ⟨T',rr,u0,u2,u4,ui⟩ : ∃ T',evC (callX E X (N + 1)) 43 m none L_block_Read_0 ⟨T,[],h⟩ = some (.normal,⟨T',[],h.put q4 (.cells C2 .rw)⟩) ∧ evO T' (.t 0) = .str (hx r) ∧ evO T' (.t 2) = .ptr (some (q,0)) ∧ evO T' (.t 4) = .ptr (some (q4,0)) ∧ evO T' (.t 12) = .int .i64 ((i + 1 : Nat) : Int) := by
    generalize ((2 * i + 1 : Nat) : Int) = M2 at *
    generalize ((2 * i : Nat) : Int) = M1 at *
    generalize ((b / 16 * 16 : Nat) : Int) = B16 at *
    generalize ((b / 16 : Nat) : Int) = BH at *
    generalize ((b % 16 : Nat) : Int) = BL at *
    generalize ((dg (b / 16) : Nat) : Int) = DH at *
    generalize ((dg (b % 16) : Nat) : Int) = DL at *
    generalize hx r = HX at *
    exact ⟨_,by
      simp (config := {maxSteps := 2000000}) (disch := first | omega | (simp only [List.length_cons,List.length_nil,List.length_append,List.length_drop]; omega)) only [L_block_Read_0,t0,t4,ti,c0,wm,wm1,↓x_idxStr,y1,y2,v1,v2,n1,n2,s1,o1,wc,ix,g,w1,wi,↓x_conv,x_convV,↓x_conv,x_convV,Nat.zero_add,Nat.mul_one,↓s_evD,↓s_dnil,↓s_dL,↓s_dB,↓s_bindD,s_bindD,s_finD,s_addP0,↓s_bump0,↓m_st,m_stE,m_storeI,↓x_idxA,x_idxAE,x_addrE,↓s_skip,↓s_ops,↓s_dops,↓s_seq,↓s_cond,↓s_block,↓s_nil,↓s_op,↓s_opg,↓s_wanted',↓s_wantV,s_wantV,↓s_bindS,s_bindS,↓s_bindE,s_bindE,s_norm,↓s_condV,s_condV,s_block_normal,↓s_getp,↓s_getp0,↓s_con,↓s_os0,↓s_os1,↓s_mov,↓s_pick,↓s_pickE,s_pickE,↓s_bin,↓s_call,s_same,b_lss,b_add,b_mul,↓iteN_true,↓iteN_false,iteN_true,iteN_false,Nat.zero_add,Nat.reduceEqDiff,decide_true,decide_false,beq_self_eq_true]
      exact rfl,(by (simp only [s_getp,s_getp0,Nat.reduceEqDiff,decide_false,iteN_false,t0]; try rfl)),(by (simp only [s_getp,s_getp0,Nat.reduceEqDiff,decide_false,iteN_false,t2]; try rfl)),(by (simp only [s_getp,s_getp0,Nat.reduceEqDiff,decide_false,iteN_false,t4]; try rfl)),(by (simp only [s_getp,decide_true,iteN_true]; try rfl))⟩
  exact ⟨T',_,rr,u0,u2,u4,ui,by rw [eC2]; exact h_put_same _ _ _,nx,fun j hj => by rw [h_put_ne _ _ hj.symm,fr j hj]⟩
theorem read_go (e : EnBs E) (x : NoBs X) (N : Nat) (hN : 50 < N) (r : List Nat) (hr : r.length = 32) (br : byt r = true) (h : H) :
    ∃ h',callX E X (N + 3) (.fn k_block_Read) [.str (hx r)] h = some (.tup [.agg (ofI .u8 r.reverse),.int .i64 0],h') ∧ Kp h h' := by
  rw [x_cfn e.rd _ _ (Nat.le_of_ble_eq_true rfl) (x.rd _ _)]
  rw [← z32e]
  obtain ⟨Z,eZ⟩ : ∃ Z,ofI .u8 (List.replicate 32 0) = Z := ⟨_,rfl⟩
  rw [eZ]
  have l64 : (hx r).length = 64 := by rw [hx_len,hr]
  obtain ⟨h2,eh2⟩ : ∃ h2,(h.new (.cells Z .rw)).new (.cells Z .rw) = h2 := ⟨_,rfl⟩
  have k2 : Kp h h2 := by rw [← eh2]; (repeat (first | exact Kp.refl _ | refine Kp.put ?_ _ (by first | omega | (simp only [h_next_put,h_next_new,h_next_del]; omega)) | refine Kp.del ?_ (by first | omega | (simp only [h_next_put,h_next_new,h_next_del]; omega)) | refine Kp.trans ?_ (Kp.new _ _)))
  have n2 : h2.next = h.next + 2 := by rw [← eh2]; rfl
  have g21 : h2.get h.next = some (.cells Z .rw) := by rw [← eh2]; (simp (disch := omega) only [h_new_get,h_next_new,Nat.add_eq_left,decide_true,decide_false,iteN_true,iteN_false,reduceCtorEq,]; try rfl)
  have g22 : h2.get (h.next + 1) = some (.cells Z .rw) := by rw [← eh2]; (simp (disch := omega) only [h_new_get,h_next_new,decide_true,iteN_true,]; try rfl)
  have fin : ∀ T,BrI h.next (h.next + 1) r h2 0 T h2 → ∃ h',fnEnd [.cell 2 (some 32),.tmp 3] (bindE (blockE 0 (loopN (evC (callX E X (N + 2)) 43 (N + 2) none L_block_Read_0) (N + 2) ⟨T,[],h2⟩)) (evC (callX E X (N + 2)) 43 (N + 2) none R_block_Read_0)) = some (.tup [.agg (ofI .u8 r.reverse),.int .i64 0],h') ∧ Kp h h' := by
    intro T I
    obtain ⟨T',h3,rr,J⟩ := loop_go (f := evC (callX E X (N + 2)) 43 (N + 2) none L_block_Read_0) (BrI h.next (h.next + 1) r h2) 32 (.exit 0) (by intro h; cases h) (BrI h.next (h.next + 1) r h2 32) (fun i T h' hi I => br_step e x (N + 1) (N + 2) h.next (h.next + 1) r hr br h2 i T h' hi I) (fun T h' I => by
      obtain ⟨t0,t2,t4,ti,g,nx,fr⟩ := I
      have c0 : decide (((32 : Nat) : Int) < 32) = false := rfl
      exact ⟨_,h',by
        simp (config := {maxSteps := 2000000}) (disch := first | omega | (simp only [List.length_cons,List.length_nil,List.length_append,List.length_drop]; omega)) only [L_block_Read_0,ti,Int.reduceLT,Int.cast_ofNat_Int,↓s_ops,↓s_seq,↓s_cond,↓s_exit,↓s_nil,↓s_op,↓s_bindS,s_bindS,↓s_bindE,s_bindE,s_bindE_exit,s_norm,↓s_condV,s_condV,↓s_getp,↓s_con,↓s_bin,s_same,b_lss,↓iteN_true,↓iteN_false,iteN_true,iteN_false,decide_true,decide_false]
        exact rfl,⟨(by (simp only [s_getp,Nat.reduceEqDiff,decide_false,iteN_false,t0]; try rfl)),(by (simp only [s_getp,Nat.reduceEqDiff,decide_false,iteN_false,t2]; try rfl)),(by (simp only [s_getp,Nat.reduceEqDiff,decide_false,iteN_false,t4]; try rfl)),(by (simp only [s_getp,Nat.reduceEqDiff,decide_false,iteN_false,ti]; try rfl)),g,nx,fr⟩⟩) 32 0 (by omega) (N + 2) (by omega) T h2 I
    rw [rr]
    obtain ⟨t0,t2,t4,ti,g,nx,fr⟩ := J
    have ef : flK r 32 = r := by unfold flK; rw [List.take_of_length_le (by omega)]; simp
    rw [ef] at g
    have ld : ∀ m,loadE (some (.cells (ofI .u8 r) m)) (some 32) 0 = some (.agg (ofI .u8 r)) := fun m => by rw [m_loadN,x_readAll _ 32 (by rw [ofI_len,hr])]
    obtain ⟨h4,c4,k4⟩ := reversed_go e x N (by omega) r hr h3
    have kn := k4.1
    have lr : r.reverse.length = 32 := by rw [List.length_reverse,hr]
    have g4 : h4.get h.next = some (.cells Z .rw) := by rw [k4.2 _ (by omega),fr _ (by omega),g21]
    have ldr : ∀ m,loadE (some (.cells (ofI .u8 r.reverse) m)) (some 32) 0 = some (.agg (ofI .u8 r.reverse)) := fun m => by rw [m_loadN,x_readAll _ 32 (by rw [ofI_len,lr])]
    have st : ∀ h i,storeV h 32 (.ptr (some (i,0))) (.agg (ofI .u8 r.reverse)) = storeE (h.get i) h i 0 (ofI .u8 r.reverse) := fun h i => st32 h i 0 _ lr
    have pu : ∀ h i,storeE (some (.cells Z .rw)) h i 0 (ofI .u8 r.reverse) = some (h.put i (.cells (ofI .u8 r.reverse) .rw)) := fun h i => by
      rw [m_storeE _ _ _ _ _ (by rw [← eZ,ofI_len,ofI_len,lr,List.length_replicate]; omega),← eZ,wrAll _ _ _ (by rw [List.length_replicate,lr])]
    refine ⟨h4.put h.next (.cells (ofI .u8 r.reverse) .rw),?_,⟨by show h.next ≤ h4.next; omega,fun j hj => by rw [h_put_ne _ _ (by omega),k4.2 _ (by omega),fr _ (by omega),k2.2 _ hj]⟩⟩
    generalize ofI .u8 r.reverse = RV_ at *
    generalize ofI .u8 r = R0 at *
    simp (config := {maxSteps := 2000000}) (disch := first | omega | (simp only [List.length_cons,List.length_nil,List.length_append,List.length_drop]; omega)) only [R_block_Read_0,t2,t4,g,ld,c4,g4,st,pu,ldr,↓h_put_get,↓s_load,m_load,↓m_st,m_stE,s_resc,s_consR,s_res0,↓s_ops,↓s_seq,↓s_ret,↓s_nil,↓s_op,↓s_bindS,s_bindS,↓s_bindE,s_bindE,s_norm,s_block_exit,↓s_getp,↓s_getp0,↓s_con,↓s_os0,↓s_os1,↓s_mov,↓s_call,s_same,s_end,s_res0,s_res1,s_tup2,↓iteN_true,↓iteN_false,iteN_true,iteN_false,Nat.reduceEqDiff,decide_true,decide_false,if_true]
    try rfl
  obtain ⟨R,eR⟩ : ∃ R,R_block_Read_0 = R := ⟨_,rfl⟩
  obtain ⟨Lo,eLo⟩ : ∃ R,L_block_Read_0 = R := ⟨_,rfl⟩
  rw [eR,eLo] at fin ⊢
  have f0 : flK r 0 = List.replicate 32 0 := rfl
  have fin' := fun T q0 q2 q4 qi => fin T ⟨q0,q2,q4,qi,by rw [f0,eZ]; exact g22,rfl,fun _ _ => rfl⟩
  clear fin
  have c1 : decide (((hx r).length : Int) = 64) = true := decide_eq_true (by omega)
  obtain ⟨S0,eS0⟩ : ∃ S0,hx r = S0 := ⟨_,rfl⟩
  rw [eS0] at fin' c1 ⊢
  have ll : (((S0.length : Nat) : Int)) = 64 := by rw [← eS0,l64]; rfl
  have lq : lenV true (.str S0) = some (.int .i64 (S0.length : Int)) := rfl
  have c64 : decide ((64 : Int) = 64) = true := rfl
  simp (config := {maxSteps := 2000000}) (disch := first | omega | (simp only [List.length_cons,List.length_nil,List.length_append,List.length_drop]; omega)) only [eh2,lq,ll,Bool.not_true,↓s_len,↓l_loop,↓l_succ,h_next_new,↓s_alloc,↓s_len,↓s_skip,↓s_ops,↓s_seq,↓s_cond,↓s_block,↓s_nil,↓s_op,↓s_bindS,s_bindS,↓s_bindE,s_bindE,s_norm,↓s_condV,s_condV,↓s_getp,↓s_get,↓s_con,↓s_list0,↓s_list1,↓s_mov,↓s_bin,s_same,b_neq,↓iteN_true,↓iteN_false,iteN_true,iteN_false,Nat.reduceEqDiff,decide_true,decide_false,Bool.not_true]
  exact fin' _ (by (simp only [s_getp,Nat.reduceEqDiff,decide_false,iteN_false]; try rfl)) (by (simp only [s_getp,Nat.reduceEqDiff,decide_false,decide_true,iteN_false,iteN_true]; try rfl)) (by (simp only [s_getp,Nat.reduceEqDiff,decide_false,decide_true,iteN_false,iteN_true]; try rfl)) (by (simp only [s_getp,decide_true,iteN_true]; try rfl))
end Go.Eng
