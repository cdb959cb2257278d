/- What functions of the program come to: own work. -/
import Derived.Test.YtfopajklnakmpaaBxHc
namespace Go.Eng
open Go
variable {E : Nat → Option Fn} {X : Orc}
set_option linter.unusedSimpArgs false
set_option linter.unusedVariables false
structure RdI (q q4 : Nat) (s : List Nat) (h0 : H) (i : Nat) (T : Tr V) (h : H) : Prop where
  t0 : evO T (.t 0) = .str s
  t2 : evO T (.t 2) = .ptr (some (q,0))
  t4 : evO T (.t 4) = .ptr (some (q4,0))
  t5 : evO T (.t 5) = .int .i64 (i : Int)
  g : h.get q4 = some (.cells (ofI .u8 (rcN s i)) .rw)
  nx : h.next = h0.next
  fr : ∀ j,j ≠ q4 → h.get j = h0.get j
theorem rd_step (e : EnHd E) (x : NoHd X) (N m : Nat) (hm : 16 < m) (q q4 : Nat) (s : List Nat) (h0 : H) (i b : Nat) (hi : i < 64) (hb : s[i]? = some b) (db : isDg b) (T : Tr V) (h : H) (I : RdI q q4 s h0 i T h) : ∃ T' h',evC (callX E X (N + 1)) 46 m none L_purserref07_Read_1 ⟨T,[],h⟩ = some (.normal,⟨T',[],h'⟩) ∧ RdI q q4 s h0 (i + 1) T' h' := by
  obtain ⟨t0,t2,t4,t5,g,nx,fr⟩ := I
  have lz := rcN_len s i
  have c0 : decide ((i : Int) < 64) = true := decide_eq_true (by omega)
  have fin : ∀ T,RiI s i b q q4 h 0 T h → ∃ T' h',bindE (blockE 1 (bindE (blockE 2 (loopN (evC (callX E X (N + 1)) 46 m none L_purserref07_Read_0) m ⟨T,[],h⟩)) (evC (callX E X (N + 1)) 46 m none R_purserref07_Read_0))) (evC (callX E X (N + 1)) 46 m none R_purserref07_Read_1) = some (.normal,⟨T',[],h'⟩) ∧ RdI q q4 s h0 (i + 1) T' h' := by
    intro T1 I1
    obtain ⟨T2,h2,rr,J⟩ := ri_loop e x N m hm s i b q q4 hb h T1 h I1
    rw [rr]
    obtain ⟨t0,t2,t4,t5,t6,t7,hh⟩ := J
    subst hh
    obtain ⟨n,hn,rfl⟩ := db
    rw [fd_dg n hn 16 (by omega) (by omega)] at t6
    have wi : wr .i64 ((i : Int) + 1) = ((i + 1 : Nat) : Int) := by rw [wr_i64 (by omega)]; omega
    have c15 : decide ((15 : Int) < (n : Int)) = false := decide_eq_false (by omega)
    have q2 : ∀ e h,binV .quo e h (.int .i64 (i : Int)) (.int .i64 2) = some (.int .i64 ((i / 2 : Nat) : Int)) := fun e h => b_quo64 e h i 2 (by omega) (by omega)
    obtain ⟨p,ep⟩ : ∃ p,31 - i / 2 = p := ⟨_,rfl⟩
    have w31 : wr .i64 (31 - ((i / 2 : Nat) : Int)) = (p : Int) := by rw [wr_i64 (by omega)]; omega
    have ix : idx (p : Int) 32 = some p := idxn (by omega)
    obtain ⟨v,ev⟩ : ∃ v,(rcN s i).getD p 0 = v := ⟨_,rfl⟩
    have l1 : (ofI .u8 (rcN s i))[p]? = some (.int .u8 (v : Int)) := by rw [ofI_get _ _ _ (by omega),ev]
    have w1 : wr .u8 (16 * (v : Int)) = ((16 * v % 256 : Nat) : Int) := by rw [wr_eq]; simp [IntKind.wrap,IntKind.bits,IntKind.signed]
    have w2 : wr .u8 (n : Int) = (n : Int) := by rw [wr_eq]; simp [IntKind.wrap,IntKind.bits,IntKind.signed]; omega
    have w3 : wr .u8 (((16 * v % 256 : Nat) : Int) + (n : Int)) = (((16 * v + n) % 256 : Nat) : Int) := by rw [wr_eq]; simp [IntKind.wrap,IntKind.bits,IntKind.signed]
    have en : fd (s.getD i 0) 16 = n := by
      rw [List.getD_eq_getElem?_getD,hb]; exact fd_dg n hn 16 (by omega) (by omega)
    have rc : (rcN s i).set p ((16 * v + n) % 256) = rcN s (i + 1) := by
      show _ = (rcN s i).set (31 - i / 2) ((16 * (rcN s i).getD (31 - i / 2) 0 + fd (s.getD i 0) 16) % 256)
      rw [ep,ev,en]
    have st : ∀ (h : H) q,storeE (some (.cells (ofI .u8 (rcN s i)) .rw)) h q p [.int .u8 (((16 * v + n) % 256 : Nat) : Int)] = some (h.put q (.cells (ofI .u8 (rcN s (i + 1))) .rw)) := fun h q => by
      rw [m_storeE _ _ _ _ _ (by rw [ofI_len,lz]; show p + 1 ≤ 32; omega),writeN_set _ _ _ (by rw [ofI_len,lz]; omega),ofI_set,rc]
    obtain ⟨C2,eC2⟩ : ∃ Z,ofI .u8 (rcN s (i + 1)) = Z := ⟨_,rfl⟩
    rw [eC2] at st
    obtain ⟨T',r,u0,u2,u4,u5⟩ : ∃ T',bindE (blockE 1 (bindE (blockE 2 (some (.exit 2,⟨T2,[],h2⟩))) (evC (callX E X (N + 1)) 46 m none R_purserref07_Read_0))) (evC (callX E X (N + 1)) 46 m none R_purserref07_Read_1) = some (.normal,⟨T',[],h2.put q4 (.cells C2 .rw)⟩) ∧ evO T' (.t 0) = .str s ∧ evO T' (.t 2) = .ptr (some (q,0)) ∧ evO T' (.t 4) = .ptr (some (q4,0)) ∧ evO T' (.t 5) = .int .i64 ((i + 1 : Nat) : Int) := by
      generalize ofI .u8 (rcN s i) = C1 at *
      generalize ((i / 2 : Nat) : Int) = I2 at *
      generalize ((16 * v % 256 : Nat) : Int) = M1 at *
      generalize (((16 * v + n) % 256 : Nat) : Int) = M2 at *
      exact ⟨_,by
        simp (config := {maxSteps := 2000000}) (disch := first | omega | (simp only [List.length_cons,List.length_nil,List.length_append,List.length_drop]; omega)) only [R_purserref07_Read_0,R_purserref07_Read_1,t4,t5,t6,c15,q2,w31,ix,g,l1,w1,w2,w3,st,wi,↓x_conv,x_convV,↓x_conv,x_convV,Nat.zero_add,Nat.mul_one,↓s_load,m_load,↓m_load1,m_load1,↓m_st,m_stE,m_storeI,↓x_idxA,x_idxAE,x_addrE,↓s_skip,↓s_ops,↓s_seq,↓s_cond,↓s_nil,↓s_op,↓s_bindS,s_bindS,↓s_bindE,s_bindE,s_norm,↓s_condV,s_condV,s_block_normal,s_block_exit,↓s_getp,↓s_getp0,↓s_con,↓s_mov,↓s_bin,s_same,b_gtr,b_add,b_sub,b_mul,↓iteN_true,↓iteN_false,iteN_true,iteN_false,Nat.zero_add,Nat.reduceEqDiff,decide_true,decide_false,if_true]
        exact rfl,(by (simp only [s_getp,s_getp0,Nat.reduceEqDiff,decide_false,iteN_false,t0]; try rfl)),(by (simp only [s_getp,s_getp0,Nat.reduceEqDiff,decide_false,iteN_false,t2]; try rfl)),(by (simp only [s_getp,s_getp0,Nat.reduceEqDiff,decide_false,iteN_false,t4]; try rfl)),(by (simp only [s_getp,decide_true,iteN_true]; try rfl))⟩
    exact ⟨T',_,r,u0,u2,u4,u5,by rw [eC2]; exact h_put_same _ _ _,nx,fun j hj => by rw [h_put_ne _ _ hj.symm,fr j hj]⟩
  obtain ⟨R,eR⟩ : ∃ R,R_purserref07_Read_0 = R := ⟨_,rfl⟩
  obtain ⟨R1,eR1⟩ : ∃ R,R_purserref07_Read_1 = R := ⟨_,rfl⟩
  obtain ⟨Lo,eLo⟩ : ∃ R,L_purserref07_Read_0 = R := ⟨_,rfl⟩
  rw [eR,eR1,eLo] at fin
  have fin' := fun T q0 q2 q4 q5 q6 q7 => fin T ⟨q0,q2,q4,q5,q6,q7,rfl⟩
  clear fin
  have f0 : fd b 0 = 16 := rfl
  rw [f0] at fin'
  unfold L_purserref07_Read_1
  rw [eR,eR1,eLo]
  simp (config := {maxSteps := 2000000}) (disch := first | omega | (simp only [List.length_cons,List.length_nil,List.length_append,List.length_drop]; omega)) only [t5,c0,↓l_loop,↓s_skip,↓s_ops,↓s_seq,↓s_cond,↓s_block,↓s_nil,↓s_op,↓s_bindS,s_bindS,↓s_bindE,s_bindE,s_norm,↓s_condV,s_condV,↓s_getp,↓s_con,↓s_mov,↓s_bin,s_same,b_lss,↓iteN_true,iteN_true,decide_true]
  exact fin' _ (by (simp only [s_getp,Nat.reduceEqDiff,decide_false,iteN_false,t0]; try rfl)) (by (simp only [s_getp,Nat.reduceEqDiff,decide_false,iteN_false,t2]; try rfl)) (by (simp only [s_getp,Nat.reduceEqDiff,decide_false,iteN_false,t4]; try rfl)) (by (simp only [s_getp,Nat.reduceEqDiff,decide_false,iteN_false,t5]; try rfl)) (by (simp only [s_getp,Nat.reduceEqDiff,decide_false,decide_true,iteN_false,iteN_true]; try rfl)) (by (simp only [s_getp,decide_true,iteN_true]; try rfl))
theorem rd_stop (e : EnHd E) (x : NoHd X) (N m : Nat) (hm : 16 < m) (q q4 : Nat) (hq : q ≠ q4) (s : List Nat) (Z : List V) (eZ : ofI .u8 (List.replicate 32 0) = Z) (h0 : H) (gq : h0.get q = some (.cells Z .rw)) (i b : Nat) (hi : i < 64) (hb : s[i]? = some b) (db : ¬ isDg b) (T : Tr V) (h : H) (I : RdI q q4 s h0 i T h) : ∃ T' h',evC (callX E X (N + 1)) 46 m none L_purserref07_Read_1 ⟨T,[],h⟩ = some (.ret,⟨T',[],h'⟩) ∧ (evO T' (.t 2) = .ptr (some (q,0)) ∧ evO T' (.t 3) = .int .i64 70 ∧ h'.get q = some (.cells Z .rw) ∧ h'.next = h0.next ∧ ∀ i,i ≠ q → i ≠ q4 → h'.get i = h0.get i) := by
  obtain ⟨t0,t2,t4,t5,g,nx,fr⟩ := I
  have c0 : decide ((i : Int) < 64) = true := decide_eq_true (by omega)
  have gq' : h.get q = some (.cells Z .rw) := by rw [fr _ hq,gq]
  have nZ : (h.put q (.cells Z .rw)).next = h0.next := nx
  have fZ : ∀ i,i ≠ q → i ≠ q4 → (h.put q (.cells Z .rw)).get i = h0.get i := fun i h1 h2 => by rw [h_put_ne _ _ h1.symm,fr i h2]
  have gZ : (h.put q (.cells Z .rw)).get q = some (.cells Z .rw) := h_put_same _ _ _
  have fin : ∀ T,RiI s i b q q4 h 0 T h → ∃ T' h',bindE (blockE 1 (bindE (blockE 2 (loopN (evC (callX E X (N + 1)) 46 m none L_purserref07_Read_0) m ⟨T,[],h⟩)) (evC (callX E X (N + 1)) 46 m none R_purserref07_Read_0))) (evC (callX E X (N + 1)) 46 m none R_purserref07_Read_1) = some (.ret,⟨T',[],h'⟩) ∧ (evO T' (.t 2) = .ptr (some (q,0)) ∧ evO T' (.t 3) = .int .i64 70 ∧ h'.get q = some (.cells Z .rw) ∧ h'.next = h0.next ∧ ∀ i,i ≠ q → i ≠ q4 → h'.get i = h0.get i) := by
    intro T1 I1
    obtain ⟨T2,h2,rr,J⟩ := ri_loop e x N m hm s i b q q4 hb h T1 h I1
    rw [rr]
    obtain ⟨t0,t2,t4,t5,t6,t7,hh⟩ := J
    subst hh
    rw [fd_no b db 16 (by omega)] at t6
    have c15 : decide ((15 : Int) < ((16 : Nat) : Int)) = true := rfl
    obtain ⟨st,pu,ld⟩ := z32_st (List.replicate 32 0) (List.length_replicate) Z eZ
    rw [eZ] at st pu ld
    have fz : fillV Z [] = some Z := rfl
    exact ⟨_,h2.put q (.cells Z .rw),by
      rw [R_purserref07_Read_0,show ([.int .u8 0,.int .u8 0,.int .u8 0,.int .u8 0,.int .u8 0,.int .u8 0,.int .u8 0,.int .u8 0,.int .u8 0,.int .u8 0,.int .u8 0,.int .u8 0,.int .u8 0,.int .u8 0,.int .u8 0,.int .u8 0,.int .u8 0,.int .u8 0,.int .u8 0,.int .u8 0,.int .u8 0,.int .u8 0,.int .u8 0,.int .u8 0,.int .u8 0,.int .u8 0,.int .u8 0,.int .u8 0,.int .u8 0,.int .u8 0,.int .u8 0,.int .u8 0] : List V) = ofI .u8 (List.replicate 32 0) from rfl,eZ]
      simp (config := {maxSteps := 2000000}) (disch := first | omega | (simp only [List.length_cons,List.length_nil,List.length_append,List.length_drop]; omega)) only [t2,t6,gq',st,pu,fz,↓x_build,x_aggO,↓m_st,m_stE,↓x_P0,Int.reduceLT,Int.cast_ofNat_Int,↓s_ops,↓s_seq,↓s_cond,↓s_ret,↓s_nil,↓s_op,↓s_bindS,s_bindS,↓s_bindE,s_bindE,s_bindE_ret,s_norm,↓s_condV,s_condV,s_block_ret,s_block_exit,↓s_getp,↓s_con,↓s_mov,↓s_bin,s_same,b_gtr,↓iteN_true,↓iteN_false,iteN_true,iteN_false,Nat.reduceEqDiff,decide_true,decide_false,if_true]
      exact rfl,(by (simp only [s_getp,s_getp0,Nat.reduceEqDiff,decide_false,iteN_false,t2]; try rfl)),(by (simp only [s_getp,decide_true,iteN_true]; try rfl)),gZ,nZ,fZ⟩
  obtain ⟨R,eR⟩ : ∃ R,R_purserref07_Read_0 = R := ⟨_,rfl⟩
  obtain ⟨R1,eR1⟩ : ∃ R,R_purserref07_Read_1 = R := ⟨_,rfl⟩
  obtain ⟨Lo,eLo⟩ : ∃ R,L_purserref07_Read_0 = R := ⟨_,rfl⟩
  rw [eR,eR1,eLo] at fin
  have fin' := fun T q0 q2 q4 q5 q6 q7 => fin T ⟨q0,q2,q4,q5,q6,q7,rfl⟩
  clear fin
  have f0 : fd b 0 = 16 := rfl
  rw [f0] at fin'
  unfold L_purserref07_Read_1
  rw [eR,eR1,eLo]
  simp (config := {maxSteps := 2000000}) (disch := first | omega | (simp only [List.length_cons,List.length_nil,List.length_append,List.length_drop]; omega)) only [t5,c0,↓l_loop,↓s_skip,↓s_ops,↓s_seq,↓s_cond,↓s_block,↓s_nil,↓s_op,↓s_bindS,s_bindS,↓s_bindE,s_bindE,s_norm,↓s_condV,s_condV,↓s_getp,↓s_con,↓s_mov,↓s_bin,s_same,b_lss,↓iteN_true,iteN_true,decide_true]
  exact fin' _ (by (simp only [s_getp,Nat.reduceEqDiff,decide_false,iteN_false,t0]; try rfl)) (by (simp only [s_getp,Nat.reduceEqDiff,decide_false,iteN_false,t2]; try rfl)) (by (simp only [s_getp,Nat.reduceEqDiff,decide_false,iteN_false,t4]; try rfl)) (by (simp only [s_getp,Nat.reduceEqDiff,decide_false,iteN_false,t5]; try rfl)) (by (simp only [s_getp,Nat.reduceEqDiff,decide_false,decide_true,iteN_false,iteN_true]; try rfl)) (by (simp only [s_getp,decide_true,iteN_true]; try rfl))
end Go.Eng
namespace Go.Eng
open Go
variable {E : Nat → Option Fn} {X : Orc}
set_option linter.unusedSimpArgs false
set_option linter.unusedVariables false
theorem rread_go (e : EnHd E) (x : NoHd X) (N : Nat) (hN : 100 < N) (s : List Nat) (h : H) :
    (∀ r,r.length = 32 → byt r = true → s = hx r → ∃ h',callX E X (N + 3) (.fn k_purserref07_Read) [.str s] h = some (.tup [.agg (ofI .u8 r.reverse),.int .i64 0],h') ∧ Kp h h') ∧
    ((s.length ≠ 64 ∨ (s.length = 64 ∧ ∃ j b : Nat,j < 64 ∧ s[j]? = some b ∧ ¬ isDg b ∧ ∀ i b : Nat,i < j → s[i]? = some b → isDg b)) → ∃ h',callX E X (N + 3) (.fn k_purserref07_Read) [.str s] h = some (.tup [.agg (ofI .u8 (List.replicate 32 0)),.int .i64 70],h') ∧ Kp h h') := by
  rw [x_cfn e.rd _ _ (Nat.le_of_ble_eq_true rfl) (x.rd _ _)]
  rw [← z32e]
  obtain ⟨Z,eZ⟩ : ∃ Z,ofI .u8 (List.replicate 32 0) = Z := ⟨_,rfl⟩
  rw [eZ]
  obtain ⟨stZ,puZ,ldZ⟩ := z32_st (List.replicate 32 0) (List.length_replicate) Z eZ
  rw [eZ] at stZ puZ ldZ
  have fz : fillV Z [] = some Z := rfl
  have lq : lenV true (.str s) = some (.int .i64 (s.length : Int)) := rfl
  obtain ⟨h1,eh1⟩ : ∃ h1,(h.new (.cells Z .rw)).new (.cells Z .rw) = h1 := ⟨_,rfl⟩
  have k1 : Kp h h1 := by rw [← eh1]; (repeat (first | exact Kp.refl _ | refine Kp.put ?_ _ (by first | omega | (simp only [h_next_put,h_next_new,h_next_del]; omega)) | refine Kp.del ?_ (by first | omega | (simp only [h_next_put,h_next_new,h_next_del]; omega)) | refine Kp.trans ?_ (Kp.new _ _)))
  have n1 : h1.next = h.next + 2 := by rw [← eh1]; rfl
  have g11 : h1.get h.next = some (.cells Z .rw) := by rw [← eh1]; (simp (disch := omega) only [h_new_get,h_next_new,Nat.add_eq_left,decide_true,decide_false,iteN_true,iteN_false,reduceCtorEq,]; try rfl)
  have g12 : h1.get (h.next + 1) = some (.cells Z .rw) := by rw [← eh1]; (simp (disch := omega) only [h_new_get,h_next_new,decide_true,iteN_true,]; try rfl)
  obtain ⟨h2,eh2⟩ : ∃ h2,h1.put (h.next + 1) (.cells Z .rw) = h2 := ⟨_,rfl⟩
  have n2 : h2.next = h.next + 2 := by rw [← eh2]; exact n1
  have k2 : Kp h h2 := ⟨by omega,fun j hj => by rw [← eh2,h_put_ne _ _ (by omega),k1.2 _ hj]⟩
  have g21 : h2.get h.next = some (.cells Z .rw) := by rw [← eh2,h_put_ne _ _ (by omega),g11]
  have g22 : h2.get (h.next + 1) = some (.cells Z .rw) := by rw [← eh2]; exact h_put_same _ _ _
  obtain ⟨R,eR⟩ : ∃ R,R_purserref07_Read_2 = R := ⟨_,rfl⟩
  obtain ⟨Lo,eLo⟩ : ∃ R,L_purserref07_Read_1 = R := ⟨_,rfl⟩
  have c64 : decide ((64 : Int) = 64) = true := rfl
  constructor
  · intro r hr br es
    subst es
    have ls : (hx r).length = 64 := by rw [hx_len,hr]
    have dgs : ∀ i b : Nat,(hx r)[i]? = some b → isDg b := fun i b hb => by
      have hi := (List.getElem?_eq_some_iff.1 hb).1
      obtain ⟨m,em⟩ : ∃ m,i / 2 = m := ⟨_,rfl⟩
      obtain ⟨c,hc⟩ : ∃ c,r[m]? = some c := ⟨_,List.getElem?_eq_getElem (by omega)⟩
      have c256 := byt_iff.1 br c (List.mem_of_getElem? hc)
      obtain ⟨x1,x2⟩ := hx_get r m c hc
      rcases Nat.lt_or_ge (2 * m) i with hlt | hge
      · rw [show i = 2 * m + 1 by omega,x2] at hb; cases hb; exact ⟨_,Nat.mod_lt _ (by omega),rfl⟩
      · rw [show i = 2 * m by omega,x1] at hb; cases hb; exact ⟨_,by omega,rfl⟩
    have fin : ∀ T,RdI h.next (h.next + 1) (hx r) h2 0 T h2 → ∃ h',fnEnd [.cell 2 (some 32),.tmp 3] (bindE (blockE 0 (loopN (evC (callX E X (N + 2)) 46 (N + 2) none L_purserref07_Read_1) (N + 2) ⟨T,[],h2⟩)) (evC (callX E X (N + 2)) 46 (N + 2) none R_purserref07_Read_2)) = some (.tup [.agg (ofI .u8 r.reverse),.int .i64 0],h') ∧ Kp h h' := by
      intro T I
      obtain ⟨T',h3,rr,J⟩ := loop_go (f := evC (callX E X (N + 2)) 46 (N + 2) none L_purserref07_Read_1) (RdI h.next (h.next + 1) (hx r) h2) 64 (.exit 0) (by intro h; cases h) (RdI h.next (h.next + 1) (hx r) h2 64) (fun i T h' hi I => by
        obtain ⟨b,hb⟩ : ∃ b,(hx r)[i]? = some b := ⟨_,List.getElem?_eq_getElem (by omega)⟩
        exact rd_step e x (N + 1) (N + 2) (by omega) h.next (h.next + 1) (hx r) h2 i b hi hb (dgs i b hb) T h' I) (fun T h' I => by
        obtain ⟨t0,t2,t4,t5,g,nx,fr⟩ := I
        have c0 : decide (((64 : Nat) : Int) < 64) = false := rfl
        exact ⟨_,h',by
          simp (config := {maxSteps := 2000000}) (disch := first | omega | (simp only [List.length_cons,List.length_nil,List.length_append,List.length_drop]; omega)) only [L_purserref07_Read_1,t5,Int.reduceLT,Int.cast_ofNat_Int,↓s_ops,↓s_seq,↓s_cond,↓s_exit,↓s_nil,↓s_op,↓s_bindS,s_bindS,↓s_bindE,s_bindE,s_bindE_exit,s_norm,↓s_condV,s_condV,↓s_getp,↓s_con,↓s_mov,↓s_bin,s_same,b_lss,↓iteN_true,↓iteN_false,iteN_true,iteN_false,decide_true,decide_false]
          exact rfl,⟨(by (simp only [s_getp,Nat.reduceEqDiff,decide_false,iteN_false,t0]; try rfl)),(by (simp only [s_getp,Nat.reduceEqDiff,decide_false,iteN_false,t2]; try rfl)),(by (simp only [s_getp,Nat.reduceEqDiff,decide_false,iteN_false,t4]; try rfl)),(by (simp only [s_getp,Nat.reduceEqDiff,decide_false,iteN_false,t5]; try rfl)),g,nx,fr⟩⟩) 64 0 (by omega) (N + 2) (by omega) T h2 I
      rw [rr]
      obtain ⟨t0,t2,t4,t5,g,nx,fr⟩ := J
      have ef : rcN (hx r) 64 = r.reverse := by
        have := rcN_hx r hr br 32 (by omega)
        rw [List.take_of_length_le (by omega)] at this
        exact this
      rw [ef] at g
      have lr : r.reverse.length = 32 := by rw [List.length_reverse,hr]
      obtain ⟨st,pu,ld⟩ := z32_st r.reverse lr Z eZ
      have g3 : h3.get h.next = some (.cells Z .rw) := by rw [fr _ (by omega),g21]
      refine ⟨h3.put h.next (.cells (ofI .u8 r.reverse) .rw),?_,⟨by show h.next ≤ h3.next; omega,fun j hj => by rw [h_put_ne _ _ (by omega),fr _ (by omega),k2.2 _ hj]⟩⟩
      generalize ofI .u8 r.reverse = RV_ at *
      simp (config := {maxSteps := 2000000}) (disch := first | omega | (simp only [List.length_cons,List.length_nil,List.length_append,List.length_drop]; omega)) only [R_purserref07_Read_2,t2,t4,g,ld,g3,st,pu,↓h_put_get,↓s_load,m_load,↓m_st,m_stE,s_resc,s_consR,s_res0,↓s_ops,↓s_seq,↓s_ret,↓s_nil,↓s_op,↓s_bindS,s_bindS,↓s_bindE,s_bindE,s_norm,s_block_exit,↓s_getp,↓s_getp0,↓s_con,↓s_mov,s_same,s_end,s_res0,s_res1,s_tup2,↓iteN_true,↓iteN_false,iteN_true,iteN_false,Nat.reduceEqDiff,decide_true,decide_false,if_true]
      try rfl
    rw [eR,eLo] at fin ⊢
    have fin' := fun T q0 q2 q4 q5 => fin T ⟨q0,q2,q4,q5,by rw [show rcN (hx r) 0 = List.replicate 32 0 from rfl,eZ]; exact g22,rfl,fun _ _ => rfl⟩
    clear fin
    have ll : (((hx r).length : Nat) : Int) = 64 := by rw [ls]; rfl
    simp (config := {maxSteps := 2000000}) (disch := first | omega | (simp only [List.length_cons,List.length_nil,List.length_append,List.length_drop]; omega)) only [eh1,g12,eh2,lq,ll,fz,stZ,puZ,Bool.not_true,↓x_build,x_aggO,↓s_len,↓l_loop,↓l_succ,h_next_new,↓m_st,m_stE,↓s_alloc,↓s_len,↓x_P0,↓s_skip,↓s_ops,↓s_seq,↓s_cond,↓s_block,↓s_nil,↓s_op,↓s_bindS,s_bindS,↓s_bindE,s_bindE,s_norm,↓s_condV,s_condV,↓s_getp,↓s_getp0,↓s_get,↓s_con,↓s_list0,↓s_list1,↓s_mov,↓s_bin,s_same,b_neq,↓iteN_true,↓iteN_false,iteN_true,iteN_false,Nat.reduceEqDiff,decide_true,decide_false,Bool.not_true]
    exact fin' _ (by (simp only [s_getp,s_getp0,Nat.reduceEqDiff,decide_false,iteN_false]; try rfl)) (by (simp only [s_getp,s_getp0,Nat.reduceEqDiff,decide_false,decide_true,iteN_false,iteN_true]; try rfl)) (by (simp only [s_getp,s_getp0,Nat.reduceEqDiff,decide_false,decide_true,iteN_false,iteN_true]; try rfl)) (by (simp only [s_getp,decide_true,iteN_true]; try rfl))
  · rintro (bad | ⟨ls,j,b,hj,hb,nb,fb⟩)
    · have d1 : decide ((s.length : Int) = 64) = false := decide_eq_false (by omega)
      refine ⟨h2.put h.next (.cells Z .rw),?_,⟨by show h.next ≤ h2.next; omega,fun j hj => by rw [h_put_ne _ _ (by omega),k2.2 _ hj]⟩⟩
      rw [eR,eLo]
      simp (config := {maxSteps := 2000000}) (disch := first | omega | (simp only [List.length_cons,List.length_nil,List.length_append,List.length_drop]; omega)) only [eh1,g12,eh2,g21,g22,lq,d1,Bool.not_false,fz,stZ,puZ,ldZ,↓x_build,x_aggO,↓s_len,↓h_put_get,h_next_new,↓s_load,m_load,↓m_st,m_stE,↓s_alloc,↓s_len,↓x_P0,s_resc,s_consR,s_res0,↓s_ops,↓s_seq,↓s_cond,↓s_ret,↓s_nil,↓s_op,↓s_bindS,s_bindS,↓s_bindE,s_bindE,s_bindE_ret,s_norm,↓s_condV,s_condV,↓s_getp,↓s_getp0,↓s_get,↓s_con,↓s_list0,↓s_list1,↓s_mov,↓s_bin,s_same,b_neq,s_end,s_res0,s_res1,s_tup2,↓iteN_true,↓iteN_false,iteN_true,iteN_false,Nat.reduceEqDiff,decide_true,decide_false,Bool.not_false]
      try rfl
    have fin : ∀ T,RdI h.next (h.next + 1) s h2 0 T h2 → ∃ h',fnEnd [.cell 2 (some 32),.tmp 3] (bindE (blockE 0 (loopN (evC (callX E X (N + 2)) 46 (N + 2) none L_purserref07_Read_1) (N + 2) ⟨T,[],h2⟩)) (evC (callX E X (N + 2)) 46 (N + 2) none R_purserref07_Read_2)) = some (.tup [.agg Z,.int .i64 70],h') ∧ Kp h h' := by
      intro T I
      obtain ⟨T',h3,rr,t2,t3,g3,n3,f3⟩ := loop_go (f := evC (callX E X (N + 2)) 46 (N + 2) none L_purserref07_Read_1) (RdI h.next (h.next + 1) s h2) j .ret (by intro h; cases h) _ (fun i T h' hi I => by
        obtain ⟨c,hc⟩ : ∃ c,s[i]? = some c := ⟨_,List.getElem?_eq_getElem (by omega)⟩
        exact rd_step e x (N + 1) (N + 2) (by omega) h.next (h.next + 1) s h2 i c (by omega) hc (fb i c hi hc) T h' I) (fun T h' I => rd_stop e x (N + 1) (N + 2) (by omega) h.next (h.next + 1) (by omega) s Z eZ h2 g21 j b hj hb nb T h' I) j 0 (by omega) (N + 2) (by omega) T h2 I
      rw [rr]
      refine ⟨h3,?_,⟨by omega,fun j hj => by rw [f3 _ (by omega) (by omega),k2.2 _ hj]⟩⟩
      simp (config := {maxSteps := 2000000}) (disch := first | omega | (simp only [List.length_cons,List.length_nil,List.length_append,List.length_drop]; omega)) only [t2,t3,g3,ldZ,m_load,s_resc,s_consR,s_res0,s_bindE_ret,s_block_ret,s_end,s_res0,s_res1,s_tup2]
      try rfl
    rw [eR,eLo] at fin ⊢
    have fin' := fun T q0 q2 q4 q5 => fin T ⟨q0,q2,q4,q5,by rw [show rcN s 0 = List.replicate 32 0 from rfl,eZ]; exact g22,rfl,fun _ _ => rfl⟩
    clear fin
    have ll : ((s.length : Nat) : Int) = 64 := by rw [ls]; rfl
    simp (config := {maxSteps := 2000000}) (disch := first | omega | (simp only [List.length_cons,List.length_nil,List.length_append,List.length_drop]; omega)) only [eh1,g12,eh2,lq,ll,fz,stZ,puZ,Bool.not_true,↓x_build,x_aggO,↓s_len,↓l_loop,↓l_succ,h_next_new,↓m_st,m_stE,↓s_alloc,↓s_len,↓x_P0,↓s_skip,↓s_ops,↓s_seq,↓s_cond,↓s_block,↓s_nil,↓s_op,↓s_bindS,s_bindS,↓s_bindE,s_bindE,s_norm,↓s_condV,s_condV,↓s_getp,↓s_getp0,↓s_get,↓s_con,↓s_list0,↓s_list1,↓s_mov,↓s_bin,s_same,b_neq,↓iteN_true,↓iteN_false,iteN_true,iteN_false,Nat.reduceEqDiff,decide_true,decide_false,Bool.not_true]
    exact fin' _ (by (simp only [s_getp,s_getp0,Nat.reduceEqDiff,decide_false,iteN_false]; try rfl)) (by (simp only [s_getp,s_getp0,Nat.reduceEqDiff,decide_false,decide_true,iteN_false,iteN_true]; try rfl)) (by (simp only [s_getp,s_getp0,Nat.reduceEqDiff,decide_false,decide_true,iteN_false,iteN_true]; try rfl)) (by (simp only [s_getp,decide_true,iteN_true]; try rfl))
end Go.Eng
