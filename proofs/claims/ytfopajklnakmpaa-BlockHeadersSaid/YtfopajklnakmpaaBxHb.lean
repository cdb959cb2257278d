/- What functions of the program come to: own work. -/
import Derived.Test.YtfopajklnakmpaaBxHa
namespace Go.Eng
open Go
variable {E : Nat → Option Fn} {X : Orc}
set_option linter.unusedSimpArgs false
set_option linter.unusedVariables false
theorem numV_snoc (a : List Nat) (b : Nat) : numV (a ++ [b]) = numV a + b * 256 ^ a.length := by
  induction a with
  | nil => show 0 * 256 + b = 0 + b * 1; omega
  | cons x r ih =>
    show numV (r ++ [b]) * 256 + x = (numV r * 256 + x) + b * 256 ^ (r.length + 1)
    rw [ih,Nat.pow_succ,Nat.add_mul,← Nat.mul_assoc]; omega
theorem takeD (l : List Nat) (i : Nat) (h : i < l.length) : l.take (i + 1) = l.take i ++ [l.getD i 0] := by
  rw [List.take_add_one,List.getElem?_eq_getElem h,List.getD_eq_getElem?_getD,List.getElem?_eq_getElem h]; rfl
structure RNI (a : Option (Nat × Nat)) (c : Option Nat) (ez : Nat) (l : List Nat) (h0 : H) (i : Nat) (T : Tr V) (h : H) : Prop where
  il : i ≤ l.length
  t0 : evO T (.t 0) = .slice a l.length c ez
  t3 : evO T (.t 3) = .int .u64 (numV (l.take i) : Nat)
  t4 : evO T (.t 4) = .int .i64 (i : Int)
  hh : h = h0
theorem rnumber_go (e : EnHd E) (x : NoHd X) (N : Nat) (a : Option (Nat × Nat)) (c : Option Nat) (ez : Nat) (l : List Nat) (bl : byt l = true) (hl : l.length ≤ 8) (h : H) (src : SrcH h a ez l) :
    callX E X (N + 20) (.fn k_purserref01_Number) [.slice a l.length c ez] h = some (.int .u64 (numV l : Nat),h) := by
  rw [x_cfn e.nu _ _ (Nat.le_of_ble_eq_true rfl) (x.nu _ _)]
  have fin : ∀ T,RNI a c ez l h 0 T h → fnEnd [.tmp 2] (bindE (blockE 0 (loopN (evC (callX E X (N + 19)) 22 (N + 19) none L_purserref01_Number_0) (N + 19) ⟨T,[],h⟩)) (evC (callX E X (N + 19)) 22 (N + 19) none R_purserref01_Number_0)) = some (.int .u64 (numV l : Nat),h) := by
    intro T I
    obtain ⟨T',h',r,t3,hh⟩ := loop_go (f := evC (callX E X (N + 19)) 22 (N + 19) none L_purserref01_Number_0) (RNI a c ez l h) l.length (.exit 0) (by intro h; cases h) (fun T h' => evO T (.t 3) = .int .u64 (numV l : Nat) ∧ h' = h) (fun i T h' hi I => by
      obtain ⟨_,t0,t3,t4,hh⟩ := I
      subst hh
      obtain ⟨bi,off,vs,md,rfl,rfl,h3,h4,h5,h6⟩ := src.resolve_left (fun h => by rw [h] at hi; cases hi)
      have c0 : decide ((i : Int) < (l.length : Int)) = true := decide_eq_true (by omega)
      have wi : wr .i64 ((i : Int) + 1) = ((i + 1 : Nat) : Int) := by rw [wr_i64 (by omega)]; omega
      have ix : idx (i : Int) l.length = some i := idxn hi
      have cg : vs[off + i]? = some (.int .u8 (l.getD i 0 : Nat)) := by
        have : ((vs.drop off).take l.length)[i]? = (ofI .u8 l)[i]? := by rw [h6]
        rw [List.getElem?_take_of_lt hi,List.getElem?_drop,ofI_get _ _ _ hi] at this
        exact this
      have r1 := power_go e.rf.pw x.rf.pw (N + 9) i (by omega) h'
      have ns : numV (l.take (i + 1)) = numV (l.take i) + l.getD i 0 * 256 ^ i := by
        rw [takeD l i hi,numV_snoc,List.length_take,Nat.min_eq_left (by omega)]
      have nl := numV_lt8 (l.take (i + 1)) (byt_take bl _) (by rw [List.length_take]; omega)
      have i1 : i + 1 ≤ l.length := hi
      obtain ⟨n2,en2⟩ : ∃ n,numV (l.take (i + 1)) = n := ⟨_,rfl⟩
      rw [en2] at ns nl
      have yl : l.getD i 0 < 256 := by
        rw [List.getD_eq_getElem?_getD,List.getElem?_eq_getElem hi]; exact byt_iff.1 bl _ (List.getElem_mem hi)
      generalize numV (l.take i) = n at *
      generalize l.getD i 0 = y at *
      generalize 256 ^ i = p at *
      obtain ⟨yp,eyp⟩ : ∃ z,y * p = z := ⟨_,rfl⟩
      rw [eyp] at ns
      have wy : wr .u64 (y : Int) = (y : Int) := u64n _ (by omega)
      have w1 : wr .u64 ((y : Int) * (p : Int)) = (yp : Int) := by rw [← eyp,← Int.natCast_mul,u64n _ (by omega)]
      have w2 : wr .u64 ((n : Int) + (yp : Int)) = (n2 : Int) := by rw [show (n : Int) + (yp : Int) = ((n2 : Nat) : Int) by omega]; exact u64n _ nl
      refine ⟨_,h',by
        simp (config := {maxSteps := 2000000}) (disch := first | omega | (simp only [List.length_cons,List.length_nil,List.length_append,List.length_drop]; omega)) only [L_purserref01_Number_0,t0,t3,t4,h4,cg,c0,wi,ix,r1,wy,w1,w2,vbeq_int,↓s_len,x_lenS,↓x_conv,x_convV,Nat.mul_one,↓s_evD,↓s_dnil,↓s_dL,↓s_dRj,↓s_dB,↓s_bindD,s_bindD,s_finDx,s_addP0,↓s_bump0,s_ok0,↓s_ok1,s_okR0,↓s_okR1,↓s_okE,s_okE,s_okE1,s_nth0,Bool.and_self,↓s_load,m_load,↓m_load1,m_load1,↓x_idxS,x_idxSE,x_addrE,x_lenS,↓s_len,↓s_skip,↓s_ops,↓s_dops,↓s_seq,↓s_cond,↓s_block,↓s_nil,↓s_op,↓s_bindS,s_bindS,↓s_bindE,s_bindE,s_norm,↓s_condV,s_condV,s_block_normal,↓s_getp,↓s_con,↓s_os0,↓s_os1,↓s_mov,↓s_bin,↓s_call,s_same,b_lss,b_add,b_mul,↓iteN_true,↓iteN_false,iteN_true,iteN_false,Nat.reduceEqDiff,decide_true,decide_false]
        exact rfl,⟨i1,(by (simp only [s_getp,Nat.reduceEqDiff,decide_false,iteN_false,t0]; try rfl)),by rw [en2]; exact (by (simp only [s_getp,Nat.reduceEqDiff,decide_false,decide_true,iteN_false,iteN_true]; try rfl)),(by (simp only [s_getp,decide_true,iteN_true]; try rfl)),rfl⟩⟩) (fun T h' I => by
      obtain ⟨il,t0,t3,t4,hh⟩ := I
      rw [List.take_length] at t3
      have c0 : decide ((l.length : Int) < (l.length : Int)) = false := decide_eq_false (by omega)
      refine ⟨_,_,by
        simp (config := {maxSteps := 2000000}) (disch := first | omega | (simp only [List.length_cons,List.length_nil,List.length_append,List.length_drop]; omega)) only [L_purserref01_Number_0,t0,t4,c0,↓s_len,x_lenS,x_lenS,↓s_len,↓s_ops,↓s_seq,↓s_cond,↓s_exit,↓s_nil,↓s_op,↓s_bindS,s_bindS,↓s_bindE,s_bindE,s_bindE_exit,s_norm,↓s_condV,s_condV,↓s_getp,↓s_mov,↓s_bin,s_same,b_lss,↓iteN_true,↓iteN_false,iteN_true,iteN_false,Nat.reduceEqDiff,decide_true,decide_false]
        exact rfl,(by (simp only [s_getp,Nat.reduceEqDiff,decide_false,iteN_false,t3]; try rfl)),hh⟩) l.length 0 (by omega) (N + 19) (by omega) T h I
    rw [r,hh]
    simp (config := {maxSteps := 2000000}) (disch := first | omega | (simp only [List.length_cons,List.length_nil,List.length_append,List.length_drop]; omega)) only [R_purserref01_Number_0,t3,s_res0,↓s_ops,↓s_seq,↓s_ret,↓s_nil,↓s_op,↓s_bindS,s_bindS,↓s_bindE,s_bindE,s_norm,s_block_exit,↓s_getp,↓s_mov,s_end,s_res0,s_res1,s_tup1,↓iteN_true,iteN_true,decide_true,if_true]
  obtain ⟨R,eR⟩ : ∃ R,R_purserref01_Number_0 = R := ⟨_,rfl⟩
  obtain ⟨Lo,eL⟩ : ∃ R,L_purserref01_Number_0 = R := ⟨_,rfl⟩
  rw [eR,eL] at fin ⊢
  simp (config := {maxSteps := 2000000}) (disch := first | omega | (simp only [List.length_cons,List.length_nil,List.length_append,List.length_drop]; omega)) only [↓l_loop,↓l_succ,↓s_ops,↓s_seq,↓s_block,↓s_nil,↓s_op,↓s_bindS,s_bindS,↓s_bindE,s_bindE,s_norm,↓s_con,↓s_list0,↓s_list1,↓s_mov]
  exact fin _ ⟨by omega,(by (simp only [s_getp,Nat.reduceEqDiff,decide_false,iteN_false]; try rfl)),by rw [List.take_zero]; show _ = V.int .u64 ((0 : Nat) : Int); exact (by (simp only [s_getp,Nat.reduceEqDiff,decide_false,decide_true,iteN_false,iteN_true]; try rfl)),(by (simp only [s_getp,decide_true,iteN_true]; try rfl)),rfl⟩
end Go.Eng
namespace Go.Eng
open Go
variable {E : Nat → Option Fn} {X : Orc}
set_option linter.unusedSimpArgs false
set_option linter.unusedVariables false
def dK (d : HdQ) (i j : Nat) : HdQ := ⟨d.ver,flK d.prev i,flK d.root j,d.time,d.bits,d.nonce⟩
theorem hdV_len' (x : HdQ) (lp : x.prev.length = 32) (lr : x.root.length = 32) : (hdV x).length = 68 := by
  unfold hdV
  simp only [List.length_append,ofI_len,List.length_cons,List.length_nil]; omega
theorem hdV_setp (x : HdQ) (lp : x.prev.length = 32) (i b : Nat) (hi : i < 32) : (hdV x).set (1 + i) (.int .u8 (b : Int)) = hdV ⟨x.ver,x.prev.set i b,x.root,x.time,x.bits,x.nonce⟩ := by
  unfold hdV
  simp only
  rw [List.set_append_left _ _ (by simp only [List.length_append,ofI_len,List.length_cons,List.length_nil]; omega),List.set_append_left _ _ (by simp only [List.length_append,ofI_len,List.length_cons,List.length_nil]; omega),List.set_append_right _ _ (by simp only [List.length_cons,List.length_nil]; omega)]
  rw [show 1 + i - [V.int .u32 (x.ver : Int)].length = i by simp only [List.length_cons,List.length_nil]; omega,ofI_set]
theorem hdV_setr (x : HdQ) (lp : x.prev.length = 32) (lr : x.root.length = 32) (i b : Nat) (hi : i < 32) : (hdV x).set (33 + i) (.int .u8 (b : Int)) = hdV ⟨x.ver,x.prev,x.root.set i b,x.time,x.bits,x.nonce⟩ := by
  unfold hdV
  simp only
  have l1 : ([V.int .u32 (x.ver : Int)] ++ ofI .u8 x.prev).length = 33 := by simp only [List.length_append,ofI_len,List.length_cons,List.length_nil]; omega
  rw [List.set_append_left _ _ (by simp only [List.length_append,ofI_len,List.length_cons,List.length_nil]; omega),List.set_append_right _ _ (by rw [l1]; omega),l1,show 33 + i - 33 = i by omega,ofI_set]
theorem hdB_prev (d : HdQ) (ok : d.ok) (i : Nat) (hi : i < 32) : (hdB d)[4 + i]? = d.prev[i]? := by
  have lp := ok.lp
  have lr := ok.lr
  unfold hdB
  simp only [List.append_assoc]
  rw [List.getElem?_append_right (by rw [leN_len]; omega),leN_len,show 4 + i - 4 = i by omega,List.getElem?_append_left (by omega)]
theorem hdB_root (d : HdQ) (ok : d.ok) (i : Nat) (hi : i < 32) : (hdB d)[36 + i]? = d.root[i]? := by
  have lp := ok.lp
  have lr := ok.lr
  unfold hdB
  simp only [List.append_assoc]
  rw [List.getElem?_append_right (by rw [leN_len]; omega),leN_len,List.getElem?_append_right (by omega),lp,show 36 + i - 4 - 32 = i by omega,List.getElem?_append_left (by omega)]
structure HdI (q2 q : Nat) (d : HdQ) (v0 : V) (h0 : H) (i : Nat) (T : Tr V) (h : H) : Prop where
  t0 : evO T (.t 0) = v0
  t2 : evO T (.t 2) = .ptr (some (q2,0))
  t4 : evO T (.t 4) = .ptr (some (q,0))
  t5 : evO T (.t 5) = .int .i64 (i : Int)
  g : h.get q = some (.cells (hdV (dK d i i)) .rw)
  nx : h.next = h0.next
  fr : ∀ j,j ≠ q → h.get j = h0.get j
theorem hdI_step (Q : Orc) (m q2 q bi off : Nat) (vs : List V) (md : Md) (d : HdQ) (ok : d.ok) (h0 : H) (hb : bi ≠ q) (gb : h0.get bi = some (.cells vs md)) (cg : ∀ k b : Nat,(hdB d)[k]? = some b → vs[off + k]? = some (.int .u8 (b : Int))) : ∀ i T h,i < 32 → HdI q2 q d (.slice (some (bi,off)) 80 none 1) h0 i T h → ∃ T' h',evC Q 48 m none L_purserref07_DecodeHeader_0 ⟨T,[],h⟩ = some (.normal,⟨T',[],h'⟩) ∧ HdI q2 q d (.slice (some (bi,off)) 80 none 1) h0 (i + 1) T' h' := by
  intro i T h hi ⟨t0,t2,t4,t5,g,nx,fr⟩
  have lp := ok.lp
  have lr := ok.lr
  have fp := fun j (hj : j ≤ 32) => flK_len d.prev lp j hj
  have fq := fun j (hj : j ≤ 32) => flK_len d.root lr j hj
  obtain ⟨b,eb⟩ : ∃ b,d.prev[i]? = some b := ⟨_,List.getElem?_eq_getElem (by omega)⟩
  obtain ⟨r,er⟩ : ∃ r,d.root[i]? = some r := ⟨_,List.getElem?_eq_getElem (by omega)⟩
  have x1 := cg (4 + i) b (by rw [hdB_prev d ok i hi,eb])
  have x2 := cg (36 + i) r (by rw [hdB_root d ok i hi,er])
  have gv : h.get bi = some (.cells vs md) := by rw [fr _ hb,gb]
  have c0 : decide ((i : Int) < 32) = true := decide_eq_true (by omega)
  have wi : wr .i64 ((i : Int) + 1) = ((i + 1 : Nat) : Int) := by rw [wr_i64 (by omega)]; omega
  have w4 : wr .i64 (4 + (i : Int)) = ((4 + i : Nat) : Int) := by rw [wr_i64 (by omega)]; omega
  have w36 : wr .i64 (36 + (i : Int)) = ((36 + i : Nat) : Int) := by rw [wr_i64 (by omega)]; omega
  have ix : idx (i : Int) 32 = some i := idxn hi
  have i4 : idx ((4 + i : Nat) : Int) 80 = some (4 + i) := idxn (by omega)
  have i36 : idx ((36 + i : Nat) : Int) 80 = some (36 + i) := idxn (by omega)
  have l0 := hdV_len' (dK d i i) (fp i (by omega)) (fq i (by omega))
  have l1 := hdV_len' (dK d (i + 1) i) (fp (i + 1) (by omega)) (fq i (by omega))
  have s1 : (hdV (dK d i i)).set (1 + i) (.int .u8 (b : Int)) = hdV (dK d (i + 1) i) := by
    rw [hdV_setp _ (fp i (by omega)) i b hi]; unfold dK; simp only; rw [flK_set d.prev lp i b hi eb]
  have s2 : (hdV (dK d (i + 1) i)).set (33 + i) (.int .u8 (r : Int)) = hdV (dK d (i + 1) (i + 1)) := by
    rw [hdV_setr _ (fp (i + 1) (by omega)) (fq i (by omega)) i r hi]; unfold dK; simp only; rw [flK_set d.root lr i r hi er]
  have p1 : ∀ h p,storeE (some (.cells (hdV (dK d i i)) .rw)) h p (1 + i) [.int .u8 (b : Int)] = some (h.put p (.cells (hdV (dK d (i + 1) i)) .rw)) := fun h p => by
    rw [m_storeE _ _ _ _ _ (by rw [l0]; show 1 + i + 1 ≤ 68; omega),writeN_set _ _ _ (by rw [l0]; omega),s1]
  have p2 : ∀ h p,storeE (some (.cells (hdV (dK d (i + 1) i)) .rw)) h p (33 + i) [.int .u8 (r : Int)] = some (h.put p (.cells (hdV (dK d (i + 1) (i + 1))) .rw)) := fun h p => by
    rw [m_storeE _ _ _ _ _ (by rw [l1]; show 33 + i + 1 ≤ 68; omega),writeN_set _ _ _ (by rw [l1]; omega),s2]
  clear l0 l1 s1 s2
  generalize hdV (dK d i i) = C0 at *
  generalize hdV (dK d (i + 1) i) = C1 at *
  obtain ⟨C2,eC2⟩ : ∃ C,hdV (dK d (i + 1) (i + 1)) = C := ⟨_,rfl⟩
  rw [eC2] at p2
  obtain ⟨h1,eh1⟩ : ∃ h1,h.put q (.cells C1 .rw) = h1 := ⟨_,rfl⟩
  have g1 : h1.get q = some (.cells C1 .rw) := by rw [← eh1]; exact h_put_same _ _ _
  have gv1 : h1.get bi = some (.cells vs md) := by rw [← eh1,h_put_ne _ _ hb.symm,gv]
  have n1 : h1.next = h.next := by rw [← eh1]; rfl
  obtain ⟨T',rr,u0,u2,u4,u5⟩ : ∃ T',evC Q 48 m none L_purserref07_DecodeHeader_0 ⟨T,[],h⟩ = some (.normal,⟨T',[],h1.put q (.cells C2 .rw)⟩) ∧ evO T' (.t 0) = .slice (some (bi,off)) 80 none 1 ∧ evO T' (.t 2) = .ptr (some (q2,0)) ∧ evO T' (.t 4) = .ptr (some (q,0)) ∧ evO T' (.t 5) = .int .i64 ((i + 1 : Nat) : Int) := by
    generalize ((4 + i : Nat) : Int) = I4 at *
    generalize ((36 + i : Nat) : Int) = I36 at *
    exact ⟨_,by
      simp (config := {maxSteps := 2000000}) (disch := first | omega | (simp only [List.length_cons,List.length_nil,List.length_append,List.length_drop]; omega)) only [L_purserref07_DecodeHeader_0,t0,t4,t5,c0,w4,w36,i4,i36,ix,gv,gv1,x1,x2,g,p1,eh1,g1,p2,wi,↓x_fieldAddr,x_fieldV,Nat.zero_add,Nat.mul_one,↓s_load,m_load,↓m_load1,m_load1,↓m_st,m_stE,m_storeI,↓x_idxA,↓x_idxS,x_idxAE,x_idxSE,x_addrE,↓s_skip,↓s_ops,↓s_seq,↓s_cond,↓s_block,↓s_nil,↓s_op,↓s_bindS,s_bindS,↓s_bindE,s_bindE,s_norm,↓s_condV,s_condV,s_block_normal,↓s_getp,↓s_getp0,↓s_con,↓s_mov,↓s_bin,s_same,b_lss,b_add,↓iteN_true,↓iteN_false,iteN_true,iteN_false,Nat.zero_add,Nat.reduceEqDiff,decide_true,decide_false]
      exact rfl,(by (simp only [s_getp,s_getp0,Nat.reduceEqDiff,decide_false,iteN_false,t0]; try rfl)),(by (simp only [s_getp,s_getp0,Nat.reduceEqDiff,decide_false,iteN_false,t2]; try rfl)),(by (simp only [s_getp,s_getp0,Nat.reduceEqDiff,decide_false,iteN_false,t4]; try rfl)),(by (simp only [s_getp,decide_true,iteN_true]; try rfl))⟩
  exact ⟨T',_,rr,u0,u2,u4,u5,by rw [eC2]; exact h_put_same _ _ _,by show h1.next = _; omega,fun j hj => by rw [h_put_ne _ _ hj.symm,← eh1,h_put_ne _ _ hj.symm,fr j hj]⟩
end Go.Eng
namespace Go.Eng
open Go
variable {E : Nat → Option Fn} {X : Orc}
set_option linter.unusedSimpArgs false
set_option linter.unusedVariables false
theorem rdech_bad (e : EnHd E) (x : NoHd X) (N : Nat) (l : List Nat) (a0 : Option (Nat × Nat)) (c0 : Option Nat) (e0 : Nat) (h : H) (hn : l.length ≠ 80) :
    ∃ h',callX E X (N + 40) (.fn k_purserref07_DecodeHeader) [.slice a0 l.length c0 e0] h = some (.tup [.agg Z68,.int .i64 70],h') ∧ Kp h h' := by
  rw [x_cfn e.dh _ _ (Nat.le_of_ble_eq_true rfl) (x.dh _ _)]
  rw [show ([.int .u32 0,.int .u8 0,.int .u8 0,.int .u8 0,.int .u8 0,.int .u8 0,.int .u8 0,.int .u8 0,.int .u8 0,.int .u8 0,.int .u8 0,.int .u8 0,.int .u8 0,.int .u8 0,.int .u8 0,.int .u8 0,.int .u8 0,.int .u8 0,.int .u8 0,.int .u8 0,.int .u8 0,.int .u8 0,.int .u8 0,.int .u8 0,.int .u8 0,.int .u8 0,.int .u8 0,.int .u8 0,.int .u8 0,.int .u8 0,.int .u8 0,.int .u8 0,.int .u8 0,.int .u8 0,.int .u8 0,.int .u8 0,.int .u8 0,.int .u8 0,.int .u8 0,.int .u8 0,.int .u8 0,.int .u8 0,.int .u8 0,.int .u8 0,.int .u8 0,.int .u8 0,.int .u8 0,.int .u8 0,.int .u8 0,.int .u8 0,.int .u8 0,.int .u8 0,.int .u8 0,.int .u8 0,.int .u8 0,.int .u8 0,.int .u8 0,.int .u8 0,.int .u8 0,.int .u8 0,.int .u8 0,.int .u8 0,.int .u8 0,.int .u8 0,.int .u8 0,.int .u32 0,.int .u32 0,.int .u32 0] : List V) = Z68 from rfl]
  obtain ⟨hA,ehA⟩ : ∃ hA,h.new (.cells Z68 .rw) = hA := ⟨_,rfl⟩
  have kA : Kp h hA := by rw [← ehA]; exact Kp.new _ _
  have nA : hA.next = h.next + 1 := by rw [← ehA]; rfl
  have gA : hA.get h.next = some (.cells Z68 .rw) := by rw [← ehA]; exact h_new_same _ _
  have lz : Z68.length = 68 := rfl
  have fitZ : Fit 68 Z68 := by rw [← hdZ_V]; exact hdV_fit hdZ hdZ_ok
  have stZ := fun h i => fit_st fitZ h i
  have puZ := fun h i => fit_put fitZ h i Z68 lz
  have ldZ := fun m => fit_ld fitZ m
  have fz : fillV Z68 [] = some Z68 := rfl
  have d1 : decide ((l.length : Int) = 80) = false := decide_eq_false (by omega)
  refine ⟨hA.put h.next (.cells Z68 .rw),?_,⟨by show h.next ≤ hA.next; omega,fun j hj => by rw [h_put_ne _ _ (by omega),kA.2 _ hj]⟩⟩
  generalize Z68 = Z at *
  generalize l.length = n at *
  simp (config := {maxSteps := 2000000}) (disch := first | omega | (simp only [List.length_cons,List.length_nil,List.length_append,List.length_drop]; omega)) only [ehA,gA,d1,fz,stZ,puZ,ldZ,Bool.not_false,↓x_build,x_aggO,↓s_len,x_lenS,↓h_put_get,m_load,↓m_st,m_stE,↓s_alloc,x_lenS,↓s_len,↓x_P0,s_resc,s_consR,s_res0,↓s_ops,↓s_seq,↓s_cond,↓s_ret,↓s_nil,↓s_op,↓s_bindS,s_bindS,↓s_bindE,s_bindE,s_bindE_ret,s_norm,↓s_condV,s_condV,↓s_getp,↓s_getp0,↓s_get,↓s_con,↓s_list0,↓s_list1,↓s_mov,↓s_bin,s_same,b_neq,s_end,s_res0,s_res1,s_tup2,↓iteN_true,↓iteN_false,iteN_true,iteN_false,Nat.reduceEqDiff,decide_true,decide_false,Bool.not_false]
  try rfl
theorem fill4 (d : HdQ) : fillV Z68 [(0,1,.int .u32 (d.ver : Int)),(65,1,.int .u32 (d.time : Int)),(66,1,.int .u32 (d.bits : Int)),(67,1,.int .u32 (d.nonce : Int))] = some (hdV (dK d 0 0)) := by
  unfold dK hdV
  rfl
theorem rdech_ok (e : EnHd E) (x : NoHd X) (N : Nat) (hN : 50 < N) (d : HdQ) (ok : d.ok) (bi off : Nat) (h : H) (src : SrcH h (some (bi,off)) 1 (hdB d)) :
    ∃ h',callX E X (N + 40) (.fn k_purserref07_DecodeHeader) [.slice (some (bi,off)) 80 none 1] h = some (.tup [.agg (hdV d),.int .i64 0],h') ∧ Kp h h' := by
  rw [x_cfn e.dh _ _ (Nat.le_of_ble_eq_true rfl) (x.dh _ _)]
  rw [show ([.int .u32 0,.int .u8 0,.int .u8 0,.int .u8 0,.int .u8 0,.int .u8 0,.int .u8 0,.int .u8 0,.int .u8 0,.int .u8 0,.int .u8 0,.int .u8 0,.int .u8 0,.int .u8 0,.int .u8 0,.int .u8 0,.int .u8 0,.int .u8 0,.int .u8 0,.int .u8 0,.int .u8 0,.int .u8 0,.int .u8 0,.int .u8 0,.int .u8 0,.int .u8 0,.int .u8 0,.int .u8 0,.int .u8 0,.int .u8 0,.int .u8 0,.int .u8 0,.int .u8 0,.int .u8 0,.int .u8 0,.int .u8 0,.int .u8 0,.int .u8 0,.int .u8 0,.int .u8 0,.int .u8 0,.int .u8 0,.int .u8 0,.int .u8 0,.int .u8 0,.int .u8 0,.int .u8 0,.int .u8 0,.int .u8 0,.int .u8 0,.int .u8 0,.int .u8 0,.int .u8 0,.int .u8 0,.int .u8 0,.int .u8 0,.int .u8 0,.int .u8 0,.int .u8 0,.int .u8 0,.int .u8 0,.int .u8 0,.int .u8 0,.int .u8 0,.int .u8 0,.int .u32 0,.int .u32 0,.int .u32 0] : List V) = Z68 from rfl]
  have lB := hdB_len d ok
  have bB := hdB_byt d ok
  have lz : Z68.length = 68 := rfl
  obtain ⟨hA,ehA⟩ : ∃ hA,h.new (.cells Z68 .rw) = hA := ⟨_,rfl⟩
  have kA : Kp h hA := by rw [← ehA]; exact Kp.new _ _
  have nA : hA.next = h.next + 1 := by rw [← ehA]; rfl
  have gA : hA.get h.next = some (.cells Z68 .rw) := by rw [← ehA]; exact h_new_same _ _
  have sA := src.mono kA
  obtain ⟨bi',off',vs,md,ea,_,lt,gb,len,cs⟩ := src.resolve_left (fun h => by rw [h] at lB; cases lB)
  obtain ⟨rfl,rfl⟩ : bi = bi' ∧ off = off' := by cases ea; exact ⟨rfl,rfl⟩
  have kB : Kp hA (bump 1 hA) := ⟨by show hA.next ≤ hA.next + 1; omega,fun j hj => by rw [s_bump_get]⟩
  have sB := sA.mono kB
  -- the four numbers
  have dr : ∀ k w r,hdB d = w ++ (leN 4 r) ++ (hdB d).drop (k + 4) → w.length = k → r < 4294967296 → callX E X (N + 39) (.fn k_purserref01_Number) [.slice (some (bi,off + k)) 4 none 1] (bump 1 hA) = some (.int .u64 (r : Int),bump 1 hA) := fun k w r ew lw hr => by
    have ed : ((hdB d).drop k).take 4 = leN 4 r := by
      rw [ew,List.append_assoc,List.drop_left' lw,List.take_left' (leN_len _ _)]
    have s := (sB.drop k).take 4
    rw [ed] at s
    have := rnumber_go e x (N + 19) (some (bi,off + k)) none 1 (leN 4 r) (leN_byt _ _) (by rw [leN_len]; omega) (bump 1 hA) s
    rw [leN_len,numV_leN 4 r (by simpa using hr)] at this
    exact this
  have cut : ∀ k w u : List Nat,hdB d = w ++ u → ∀ n,w.length = n → u = (hdB d).drop n := fun k w u ew n lw => by rw [ew,List.drop_left' lw]
  have lp := ok.lp
  have lr := ok.lr
  have t4 : (hdB d).take 4 = leN 4 d.ver := by
    unfold hdB; simp only [List.append_assoc]; exact List.take_left' (leN_len _ _)
  have e0 : hdB d = [] ++ leN 4 d.ver ++ (hdB d).drop (0 + 4) := by
    rw [← t4,List.nil_append]; exact (List.take_append_drop 4 _).symm
  have n1 := dr 0 [] d.ver e0 rfl ok.v1
  replace n1 : callX E X (N + 39) (.fn k_purserref01_Number) [.slice (some (bi,off)) 4 none 1] (bump 1 hA) = some (.int .u64 (d.ver : Int),bump 1 hA) := n1
  have pt : hdB d = (leN 4 d.ver ++ (d.prev ++ d.root)) ++ (leN 4 d.time ++ (leN 4 d.bits ++ leN 4 d.nonce)) := by unfold hdB; simp only [List.append_assoc]
  have q68 : (leN 4 d.ver ++ (d.prev ++ d.root)).length = 68 := by simp only [List.length_append,leN_len]; omega
  have n2 := dr 68 (leN 4 d.ver ++ (d.prev ++ d.root)) d.time (by
    have : (hdB d).drop (68 + 4) = leN 4 d.bits ++ leN 4 d.nonce := by rw [pt,← List.append_assoc,List.drop_left' (by rw [List.length_append,q68,leN_len])]
    rw [this,List.append_assoc]; exact pt) q68 ok.t1
  have n3 := dr 72 (leN 4 d.ver ++ (d.prev ++ d.root) ++ leN 4 d.time) d.bits (by
    have : (hdB d).drop (72 + 4) = leN 4 d.nonce := by rw [pt,← List.append_assoc,← List.append_assoc,List.drop_left' (by simp only [List.length_append,leN_len]; omega)]
    rw [this]; simp only [List.append_assoc]; simpa only [List.append_assoc] using pt) (by rw [List.length_append,q68,leN_len]) ok.b1
  have n4 := dr 76 (leN 4 d.ver ++ (d.prev ++ d.root) ++ leN 4 d.time ++ leN 4 d.bits) d.nonce (by
    have : (hdB d).drop (76 + 4) = [] := List.drop_eq_nil_of_le (by omega)
    rw [this,List.append_nil]; simpa only [List.append_assoc] using pt) (by simp only [List.length_append,leN_len]; omega) ok.n1
  have v1 : slcV 1 none (some (.int .i64 4)) none (.slice (some (bi,off)) 80 none 1) = some (.slice (some (bi,off)) 4 none 1) := rfl
  have v2 : slcV 1 (some (.int .i64 68)) (some (.int .i64 72)) none (.slice (some (bi,off)) 80 none 1) = some (.slice (some (bi,off + 68)) 4 none 1) := rfl
  have v3 : slcV 1 (some (.int .i64 72)) (some (.int .i64 76)) none (.slice (some (bi,off)) 80 none 1) = some (.slice (some (bi,off + 72)) 4 none 1) := rfl
  have v4 : slcV 1 (some (.int .i64 76)) none none (.slice (some (bi,off)) 80 none 1) = some (.slice (some (bi,off + 76)) 4 none 1) := rfl
  have u1 : wr .u32 (d.ver : Int) = (d.ver : Int) := wr_u32 (by have := ok.v1; omega)
  have u2 : wr .u32 (d.time : Int) = (d.time : Int) := wr_u32 (by have := ok.t1; omega)
  have u3 : wr .u32 (d.bits : Int) = (d.bits : Int) := wr_u32 (by have := ok.b1; omega)
  have u4 : wr .u32 (d.nonce : Int) = (d.nonce : Int) := wr_u32 (by have := ok.n1; omega)
  have ff := fill4 d
  -- the header
  obtain ⟨hr,ehr⟩ : ∃ hr,(bump 1 hA).put hA.next (.cells Z68 .rw) = hr := ⟨_,rfl⟩
  have nr : hr.next = hA.next + 1 := by rw [← ehr]; rfl
  have kr : Kp hA hr := ⟨by omega,fun j hj => by rw [← ehr,h_put_ne _ _ (by omega),s_bump_get]⟩
  have gr : hr.get hA.next = some (.cells Z68 .rw) := by rw [← ehr]; exact h_put_same _ _ _
  have lk := hdV_len' (dK d 0 0) (flK_len d.prev lp 0 (by omega)) (flK_len d.root lr 0 (by omega))
  have fk : Fit 68 (hdV (dK d 0 0)) := by
    refine ⟨lk,?_⟩
    unfold hdV
    rw [List.all_append,List.all_append,List.all_append,plain_ofI,plain_ofI]; rfl
  have stK := fun h i => fit_st fk h i
  have puK := fun h i => fit_put fk h i Z68 lz
  obtain ⟨hC,ehC⟩ : ∃ hC,hr.put hA.next (.cells (hdV (dK d 0 0)) .rw) = hC := ⟨_,rfl⟩
  have nC : hC.next = hr.next := by rw [← ehC]; rfl
  have gC : hC.get hA.next = some (.cells (hdV (dK d 0 0)) .rw) := by rw [← ehC]; exact h_put_same _ _ _
  have fC : ∀ j,j < hA.next → hC.get j = hA.get j := fun j hj => by rw [← ehC,h_put_ne _ _ (by omega),kr.2 _ hj]
  have gbC : hC.get bi = some (.cells vs md) := by rw [fC _ (by omega),kA.2 _ lt,gb]
  have cg : ∀ k b : Nat,(hdB d)[k]? = some b → vs[off + k]? = some (.int .u8 (b : Int)) := fun k b hk => by
    have hi := (List.getElem?_eq_some_iff.1 hk).1
    have : ((vs.drop off).take (hdB d).length)[k]? = (ofI .u8 (hdB d))[k]? := by rw [cs]
    rw [List.getElem?_take_of_lt hi,List.getElem?_drop,ofI_get _ _ _ hi,List.getD_eq_getElem?_getD,hk] at this
    exact this
  have fin : ∀ T,HdI h.next hA.next d (.slice (some (bi,off)) 80 none 1) hC 0 T hC → ∃ h',fnEnd [.cell 2 (some 68),.tmp 3] (bindE (blockE 0 (loopN (evC (callX E X (N + 39)) 48 (N + 39) none L_purserref07_DecodeHeader_0) (N + 39) ⟨T,[],hC⟩)) (evC (callX E X (N + 39)) 48 (N + 39) none R_purserref07_DecodeHeader_0)) = some (.tup [.agg (hdV d),.int .i64 0],h') ∧ Kp h h' := by
    intro T I
    obtain ⟨T',h3,rr,J⟩ := loop_go (f := evC (callX E X (N + 39)) 48 (N + 39) none L_purserref07_DecodeHeader_0) (HdI h.next hA.next d (.slice (some (bi,off)) 80 none 1) hC) 32 (.exit 0) (by intro h; cases h) (HdI h.next hA.next d (.slice (some (bi,off)) 80 none 1) hC 32) (fun i T h' hi I => hdI_step _ (N + 39) h.next hA.next bi off vs md d ok hC (by omega) gbC cg i T h' hi I) (fun T h' I => by
      obtain ⟨t0,t2,t4,t5,g,nx,fr⟩ := I
      have c0 : decide (((32 : Nat) : Int) < 32) = false := rfl
      exact ⟨_,h',by
        simp (config := {maxSteps := 2000000}) (disch := first | omega | (simp only [List.length_cons,List.length_nil,List.length_append,List.length_drop]; omega)) only [L_purserref07_DecodeHeader_0,t5,Int.reduceLT,Int.cast_ofNat_Int,↓s_ops,↓s_seq,↓s_cond,↓s_exit,↓s_nil,↓s_op,↓s_bindS,s_bindS,↓s_bindE,s_bindE,s_bindE_exit,s_norm,↓s_condV,s_condV,↓s_getp,↓s_con,↓s_mov,↓s_bin,s_same,b_lss,↓iteN_true,↓iteN_false,iteN_true,iteN_false,decide_true,decide_false]
        exact rfl,⟨(by (simp only [s_getp,Nat.reduceEqDiff,decide_false,iteN_false,t0]; try rfl)),(by (simp only [s_getp,Nat.reduceEqDiff,decide_false,iteN_false,t2]; try rfl)),(by (simp only [s_getp,Nat.reduceEqDiff,decide_false,iteN_false,t4]; try rfl)),(by (simp only [s_getp,Nat.reduceEqDiff,decide_false,iteN_false,t5]; try rfl)),g,nx,fr⟩⟩) 32 0 (by omega) (N + 39) (by omega) T hC I
    rw [rr]
    obtain ⟨t0,t2,t4,t5,g,nx,fr⟩ := J
    have ef : ∀ r : List Nat,r.length = 32 → flK r 32 = r := fun r hr => by unfold flK; rw [List.take_of_length_le (by omega)]; simp
    have ed : dK d 32 32 = d := by unfold dK; rw [ef _ lp,ef _ lr]
    rw [ed] at g
    have fi := hdV_fit d ok
    have st := fun h i => fit_st fi h i
    have pu := fun h i => fit_put fi h i Z68 lz
    have ld := fun m => fit_ld fi m
    have g3 : h3.get h.next = some (.cells Z68 .rw) := by rw [fr _ (by omega),fC _ (by omega),gA]
    refine ⟨h3.put h.next (.cells (hdV d) .rw),?_,⟨by show h.next ≤ h3.next; omega,fun j hj => by rw [h_put_ne _ _ (by omega),fr _ (by omega),fC _ (by omega),kA.2 _ hj]⟩⟩
    generalize hdV d = D at *
    generalize Z68 = Z at *
    simp (config := {maxSteps := 2000000}) (disch := first | omega | (simp only [List.length_cons,List.length_nil,List.length_append,List.length_drop]; omega)) only [R_purserref07_DecodeHeader_0,t2,t4,g,ld,g3,st,pu,↓h_put_get,↓s_load,m_load,↓m_st,m_stE,s_resc,s_consR,s_res0,↓s_ops,↓s_seq,↓s_ret,↓s_nil,↓s_op,↓s_bindS,s_bindS,↓s_bindE,s_bindE,s_norm,s_block_exit,↓s_getp,↓s_getp0,↓s_con,↓s_mov,s_same,s_end,s_res0,s_res1,s_tup2,↓iteN_true,↓iteN_false,iteN_true,iteN_false,Nat.reduceEqDiff,decide_true,decide_false,if_true]
    try rfl
  obtain ⟨R,eR⟩ : ∃ R,R_purserref07_DecodeHeader_0 = R := ⟨_,rfl⟩
  obtain ⟨Lo,eLo⟩ : ∃ R,L_purserref07_DecodeHeader_0 = R := ⟨_,rfl⟩
  rw [eR,eLo] at fin ⊢
  have fin' := fun T q0 q2 q4 q5 => fin T ⟨q0,q2,q4,q5,gC,rfl,fun _ _ => rfl⟩
  clear fin
  have c80 : decide ((80 : Int) = 80) = true := rfl
  clear dr e0 pt cut t4
  generalize hdV (dK d 0 0) = D0 at *
  generalize Z68 = Z at *
  simp (config := {maxSteps := 2000000}) (disch := first | omega | (simp only [List.length_cons,List.length_nil,List.length_append,List.length_drop]; omega)) only [ehA,Bool.not_true,v1,v2,v3,v4,n1,n2,n3,n4,u1,u2,u3,u4,ff,ehr,gr,stK,puK,ehC,↓x_slcS,same,↓x_conv,x_convV,↓x_build,x_aggO,↓s_len,x_lenS,x_M0,x_M1,↓x_conv,x_convV,Nat.add_zero,↓s_evD,↓s_dnil,↓s_dL,↓s_dB,↓s_dAlloc,↓s_bindD,s_bindD,s_finD,s_addP0,s_addP1,s_addB,s_lookP,Nat.add_zero,↓l_loop,↓l_succ,↓m_st,m_stE,↓s_alloc,x_lenS,↓s_len,↓x_P0,↓x_P1,Int.cast_ofNat_Int,↓s_skip,↓s_ops,↓s_dops,↓s_seq,↓s_cond,↓s_block,↓s_nil,↓s_op,↓s_bindS,s_bindS,↓s_bindE,s_bindE,s_norm,↓s_condV,s_condV,↓s_getp,↓s_get,↓s_con,↓s_os0,↓s_os1,↓s_list0,↓s_list1,↓s_mov,↓s_bin,↓s_call,b_neq,↓iteN_true,↓iteN_false,iteN_true,iteN_false,Nat.reduceEqDiff,decide_true,decide_false,Bool.not_true]
  exact fin' _ (by (simp only [s_getp,s_getp0,Nat.reduceEqDiff,decide_false,iteN_false]; try rfl)) (by (simp only [s_getp,s_getp0,Nat.reduceEqDiff,decide_false,decide_true,iteN_false,iteN_true]; try rfl)) (by (simp only [s_getp,s_getp0,Nat.reduceEqDiff,decide_false,decide_true,iteN_false,iteN_true]; try rfl)) (by (simp only [s_getp,decide_true,iteN_true]; try rfl))
end Go.Eng
