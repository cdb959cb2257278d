/- What functions of the program come to: own work. -/
import Derived.Test.YtfopajklnakmpaaBxV
import Derived.Test.YtfopajklnakmpaaBxZ
namespace Go.Eng
open Go
variable {E : Nat → Option Fn} {X : Orc}
set_option linter.unusedSimpArgs false
set_option linter.unusedVariables false
/-! the document's headers and hashes,shown -/
structure EnHd (E : Nat → Option Fn) : Prop where
  rf : EnRf E
  nu : E k_purserref01_Number = some f_purserref01_Number
  di : E k_purserref07_digit = some f_purserref07_digit
  nm : E k_purserref07_num = some f_purserref07_num
  hd : E k_purserref07_Header = some f_purserref07_Header
  dh : E k_purserref07_DecodeHeader = some f_purserref07_DecodeHeader
  ha : E k_purserref07_Hash = some f_purserref07_Hash
  sh : E k_purserref07_Show = some f_purserref07_Show
  rd : E k_purserref07_Read = some f_purserref07_Read
  bh : E k_block_Hash = some f_block_Hash
structure NoHd (X : Orc) : Prop where
  rf : NoRf X
  nu : ∀ a h,X (.fn k_purserref01_Number) a h = none
  di : ∀ a h,X (.fn k_purserref07_digit) a h = none
  nm : ∀ a h,X (.fn k_purserref07_num) a h = none
  hd : ∀ a h,X (.fn k_purserref07_Header) a h = none
  dh : ∀ a h,X (.fn k_purserref07_DecodeHeader) a h = none
  ha : ∀ a h,X (.fn k_purserref07_Hash) a h = none
  sh : ∀ a h,X (.fn k_purserref07_Show) a h = none
  rd : ∀ a h,X (.fn k_purserref07_Read) a h = none
  bh : ∀ a h,X (.fn k_block_Hash) a h = none
theorem rdigit_go (e : EnHd E) (x : NoHd X) (N n : Nat) (hn : n < 16) (h : H) : callX E X (N + 1) (.fn k_purserref07_digit) [.int .u8 (n : Int)] h = some (.int .u8 (dg n : Nat),h) := by
  rw [x_cfn e.di _ _ (Nat.le_of_ble_eq_true rfl) (x.di _ _)]
  by_cases h10 : n < 10
  · have ed : dg n = 48 + n := by unfold dg; rw [if_pos h10]
    rw [ed]
    have c1 : decide ((n : Int) < 10) = true := decide_eq_true (by omega)
    have w1 : wr .u8 (48 + (n : Int)) = ((48 + n : Nat) : Int) := by rw [wr_eq]; simp [IntKind.wrap,IntKind.bits,IntKind.signed]; omega
    simp (config := {maxSteps := 2000000}) (disch := first | omega | (simp only [List.length_cons,List.length_nil,List.length_append,List.length_drop]; omega)) only [c1,w1,s_res0,↓s_ops,↓s_seq,↓s_cond,↓s_ret,↓s_nil,↓s_op,↓s_bindS,s_bindS,↓s_bindE,s_bindE,s_bindE_ret,s_norm,↓s_condV,s_condV,↓s_getp,↓s_get,↓s_con,↓s_list0,↓s_list1,↓s_mov,↓s_bin,s_same,b_lss,b_add,s_end,s_res0,s_res1,s_tup1,↓iteN_true,↓iteN_false,iteN_true,iteN_false,Nat.reduceEqDiff,decide_true,decide_false]
    try rfl
  · have ed : dg n = 87 + n := by unfold dg; rw [if_neg h10]
    rw [ed]
    have c1 : decide ((n : Int) < 10) = false := decide_eq_false (by omega)
    have w1 : wr .u8 (97 + (n : Int)) = ((97 + n : Nat) : Int) := by rw [wr_eq]; simp [IntKind.wrap,IntKind.bits,IntKind.signed]; omega
    have w2 : wr .u8 (((97 + n : Nat) : Int) - 10) = ((87 + n : Nat) : Int) := by rw [wr_eq]; simp [IntKind.wrap,IntKind.bits,IntKind.signed]; omega
    generalize ((97 + n : Nat) : Int) = u at *
    simp (config := {maxSteps := 2000000}) (disch := first | omega | (simp only [List.length_cons,List.length_nil,List.length_append,List.length_drop]; omega)) only [c1,w1,w2,s_res0,↓s_skip,↓s_ops,↓s_seq,↓s_cond,↓s_ret,↓s_nil,↓s_op,↓s_bindS,s_bindS,↓s_bindE,s_bindE,s_norm,↓s_condV,s_condV,↓s_getp,↓s_get,↓s_con,↓s_list0,↓s_list1,↓s_mov,↓s_bin,s_same,b_lss,b_add,b_sub,s_end,s_res0,s_res1,s_tup1,↓iteN_true,↓iteN_false,iteN_true,iteN_false,Nat.reduceEqDiff,decide_true,decide_false]
    try rfl
def voI (b : Nat) : Int := if 48 ≤ b ∧ b ≤ 57 then ((b - 48 : Nat) : Int) else if 97 ≤ b ∧ b ≤ 102 then ((b - 87 : Nat) : Int) else -1
theorem voAny_go (e : EnBs E) (x : NoBs X) (N b : Nat) (hb : b < 256) (h : H) : callX E X (N + 1) (.fn k_block_valueOf) [.int .u8 (b : Int)] h = some (.int .i64 (voI b),h) := by
  rw [x_cfn e.vo _ _ (Nat.le_of_ble_eq_true rfl) (x.vo _ _)]
  unfold voI
  by_cases h1 : 48 ≤ b ∧ b ≤ 57
  · have c1 : decide ((48 : Int) ≤ (b : Int)) = true := decide_eq_true (by omega)
    have c2 : decide ((b : Int) ≤ 57) = true := decide_eq_true (by omega)
    have w1 : wr .u8 ((b : Int) - 48) = ((b - 48 : Nat) : Int) := by rw [wr_eq]; simp [IntKind.wrap,IntKind.bits,IntKind.signed]; omega
    have w2 : wr .i64 ((b - 48 : Nat) : Int) = ((b - 48 : Nat) : Int) := wr_i64 (by omega)
    rw [if_pos h1]
    generalize ((b - 48 : Nat) : Int) = v at *
    simp (config := {maxSteps := 2000000}) (disch := first | omega | (simp only [List.length_cons,List.length_nil,List.length_append,List.length_drop]; omega)) only [c1,c2,w1,w2,↓x_conv,x_convV,↓x_conv,x_convV,s_res0,↓s_ops,↓s_seq,↓s_cond,↓s_block,↓s_ret,↓s_nil,↓s_op,↓s_opg,↓s_wanted',↓s_wantV,s_wantV,↓s_bindS,s_bindS,↓s_bindE,s_bindE,s_bindE_ret,s_norm,↓s_condV,s_condV,s_block_ret,↓s_getp,↓s_get,↓s_con,↓s_list0,↓s_list1,↓s_mov,↓s_pick,↓s_pickE,s_pickE,↓s_bin,s_same,b_leq,b_geq,b_sub,s_end,s_res0,s_res1,s_tup1,↓iteN_true,↓iteN_false,iteN_true,iteN_false,Nat.reduceEqDiff,decide_true,decide_false,beq_self_eq_true]
    try rfl
  rw [if_neg h1]
  by_cases h2 : 97 ≤ b ∧ b ≤ 102
  · have c1 : decide ((48 : Int) ≤ (b : Int)) = true := decide_eq_true (by omega)
    have c2 : decide ((b : Int) ≤ 57) = false := decide_eq_false (by omega)
    have c3 : decide ((97 : Int) ≤ (b : Int)) = true := decide_eq_true (by omega)
    have c4 : decide ((b : Int) ≤ 102) = true := decide_eq_true (by omega)
    have w1 : wr .u8 ((b : Int) - 97) = ((b - 97 : Nat) : Int) := by rw [wr_eq]; simp [IntKind.wrap,IntKind.bits,IntKind.signed]; omega
    have w2 : wr .i64 ((b - 97 : Nat) : Int) = ((b - 97 : Nat) : Int) := wr_i64 (by omega)
    have w3 : wr .i64 (((b - 97 : Nat) : Int) + 10) = ((b - 87 : Nat) : Int) := by rw [wr_i64 (by omega)]; omega
    rw [if_pos h2]
    generalize ((b - 97 : Nat) : Int) = v at *
    simp (config := {maxSteps := 2000000}) (disch := first | omega | (simp only [List.length_cons,List.length_nil,List.length_append,List.length_drop]; omega)) only [c1,c2,c3,c4,w1,w2,w3,↓x_conv,x_convV,↓x_conv,x_convV,s_res0,↓s_ops,↓s_seq,↓s_cond,↓s_block,↓s_ret,↓s_nil,↓s_op,↓s_opg,↓s_wanted',↓s_wantV,s_wantV,↓s_bindS,s_bindS,↓s_bindE,s_bindE,s_bindE_ret,s_norm,↓s_condV,s_condV,s_block_ret,↓s_getp,↓s_get,↓s_con,↓s_list0,↓s_list1,↓s_mov,↓s_pick,↓s_pickE,s_pickE,↓s_bin,s_same,b_leq,b_geq,b_add,b_sub,s_end,s_res0,s_res1,s_tup1,↓iteN_true,↓iteN_false,iteN_true,iteN_false,Nat.reduceEqDiff,decide_true,decide_false,beq_self_eq_true]
    try rfl
  rw [if_neg h2]
  by_cases c1 : 48 ≤ b
  · have d1 : decide ((48 : Int) ≤ (b : Int)) = true := decide_eq_true (by omega)
    have d2 : decide ((b : Int) ≤ 57) = false := decide_eq_false (by omega)
    by_cases c3 : 97 ≤ b
    · have d3 : decide ((97 : Int) ≤ (b : Int)) = true := decide_eq_true (by omega)
      have d4 : decide ((b : Int) ≤ 102) = false := decide_eq_false (by omega)
      simp (config := {maxSteps := 2000000}) (disch := first | omega | (simp only [List.length_cons,List.length_nil,List.length_append,List.length_drop]; omega)) only [d1,d2,d3,d4,s_res0,↓s_skip,↓s_ops,↓s_seq,↓s_cond,↓s_block,↓s_ret,↓s_nil,↓s_op,↓s_opg,↓s_wanted',↓s_wantV,s_wantV,↓s_bindS,s_bindS,↓s_bindE,s_bindE,s_norm,↓s_condV,s_condV,s_block_normal,↓s_getp,↓s_get,↓s_con,↓s_list0,↓s_list1,↓s_mov,↓s_pick,↓s_pickE,s_pickE,↓s_bin,s_same,b_leq,b_geq,s_end,s_res0,s_res1,s_tup1,↓iteN_true,↓iteN_false,iteN_true,iteN_false,Nat.reduceEqDiff,decide_true,decide_false,beq_self_eq_true]
      try rfl
    · have d3 : decide ((97 : Int) ≤ (b : Int)) = false := decide_eq_false (by omega)
      simp (config := {maxSteps := 2000000}) (disch := first | omega | (simp only [List.length_cons,List.length_nil,List.length_append,List.length_drop]; omega)) only [d1,d2,d3,s_res0,↓s_skip,↓s_ops,↓s_seq,↓s_cond,↓s_block,↓s_ret,↓s_nil,↓s_op,↓s_opg,↓s_wanted',↓s_wantV,s_wantV,beq_true,↓s_bindS,s_bindS,↓s_bindE,s_bindE,s_norm,↓s_condV,s_condV,s_block_normal,↓s_getp,↓s_get,↓s_con,↓s_list0,↓s_list1,↓s_mov,↓s_pick,↓s_pickE,s_pickE,↓s_bin,s_same,b_leq,b_geq,s_end,s_res0,s_res1,s_tup1,↓iteN_true,↓iteN_false,iteN_true,iteN_false,Nat.reduceEqDiff,decide_true,decide_false,beq_self_eq_true]
      try rfl
  · have d1 : decide ((48 : Int) ≤ (b : Int)) = false := decide_eq_false (by omega)
    have d3 : decide ((97 : Int) ≤ (b : Int)) = false := decide_eq_false (by omega)
    simp (config := {maxSteps := 2000000}) (disch := first | omega | (simp only [List.length_cons,List.length_nil,List.length_append,List.length_drop]; omega)) only [d1,d3,s_res0,↓s_skip,↓s_ops,↓s_seq,↓s_cond,↓s_block,↓s_ret,↓s_nil,↓s_op,↓s_opg,↓s_wanted',↓s_wantV,s_wantV,beq_true,↓s_bindS,s_bindS,↓s_bindE,s_bindE,s_norm,↓s_condV,s_condV,s_block_normal,↓s_getp,↓s_get,↓s_con,↓s_list0,↓s_list1,↓s_mov,↓s_pick,↓s_pickE,s_pickE,↓s_bin,s_same,b_geq,s_end,s_res0,s_res1,s_tup1,↓iteN_true,↓iteN_false,iteN_true,iteN_false,Nat.reduceEqDiff,decide_true,decide_false]
    try rfl
/-- a number's four bytes -/
theorem rnum_go (e : EnHd E) (x : NoHd X) (N n : Nat) (hn : n < 4294967296) (h : H) :
    ∃ a c ez h',callX E X (N + 42) (.fn k_purserref07_num) [.int .u32 (n : Int)] h = some (.slice a 4 c ez,h') ∧ Nw h h' (leN 4 n) a c ez := by
  rw [x_cfn e.nm _ _ (Nat.le_of_ble_eq_true rfl) (x.nm _ _)]
  obtain ⟨h',a,c,ez,r,nw⟩ := rfixed_go e.rf x.rf (N + 21) 4 n (by omega) h
  have e2 : fixE 4 n = 0 := by
    unfold fixE
    rw [if_pos (show sizedI 4 = true from rfl),if_pos (by have := (wid_pow' n 4 (by omega) (.inr (.inr (.inl rfl)))).2 (by omega); omega)]
  have e3 : fixB 4 n = leN 4 n := by unfold fixB; rw [e2,if_pos rfl]; rfl
  rw [e2,e3,leN_len] at r
  rw [e3] at nw
  refine ⟨a,c,ez,h',?_,nw⟩
  have w : wr .u64 (n : Int) = (n : Int) := wr_u64 (by omega)
  replace r : callX E X (N + 41) (.fn k_purserref01_Fixed) _ h = _ := r
  simp (config := {maxSteps := 2000000}) (disch := first | omega | (simp only [List.length_cons,List.length_nil,List.length_append,List.length_drop]; omega)) only [w,r,↓x_conv,x_convV,↓x_conv,x_convV,Int.cast_ofNat_Int,s_res0,↓s_ops,↓s_seq,↓s_ret,↓s_nil,↓s_op,↓s_bindS,s_bindS,↓s_bindE,s_bindE,s_norm,↓s_getp,↓s_get,↓s_con,↓s_os0,↓s_os1,↓s_list0,↓s_list1,↓s_mov,↓s_call,↓s_ext,s_same,s_end,s_res0,s_res1,s_tup1,↓iteN_true,↓iteN_false,iteN_true,iteN_false,Nat.reduceEqDiff,decide_true,decide_false,List.getElem?_cons_zero,List.getElem?_cons_succ]
  try rfl
end Go.Eng
namespace Go.Eng
open Go
variable {E : Nat → Option Fn} {X : Orc}
set_option linter.unusedSimpArgs false
set_option linter.unusedVariables false
theorem quo8 (b : Nat) (hb : b < 256) (e : EqK) (h : H) : binV .quo e h (.int .u8 (b : Int)) (.int .u8 16) = some (.int .u8 ((b / 16 : Nat) : Int)) := by
  have w : wr .u8 ((b / 16 : Nat) : Int) = ((b / 16 : Nat) : Int) := by rw [wr_eq]; simp [IntKind.wrap,IntKind.bits,IntKind.signed]; omega
  rw [b_quo _ _ _ _ _ (by omega),show Int.tdiv (b : Int) 16 = ((b / 16 : Nat) : Int) from rfl,w]
theorem rem8 (b : Nat) (e : EqK) (h : H) : binV .rem e h (.int .u8 (b : Int)) (.int .u8 16) = some (.int .u8 ((b % 16 : Nat) : Int)) := by
  rw [b_rem _ _ _ _ _ (by omega)]; rfl
structure RsI (p : Nat) (s : List Nat) (h0 : H) (i : Nat) (T : Tr V) (h : H) : Prop where
  t1 : evO T (.t 1) = .ptr (some (p,0))
  t4 : evO T (.t 4) = .int .i64 (31 - (i : Int))
  st : ∃ a c e,evO T (.t 3) = .slice a (hx (s.reverse.take i)).length c e ∧ Nw h0 h (hx (s.reverse.take i)) a c e
theorem rs_step (e : EnHd E) (x : NoHd X) (N m p : Nat) (s : List Nat) (hs : s.length = 32) (bs : byt s = true) (h0 : H) (hp : p < h0.next) (g0 : h0.get p = some (.cells (ofI .u8 s) .rw)) : ∀ i T h,i < 32 → RsI p s h0 i T h → ∃ T' h',evC (callX E X (N + 1)) 24 m none L_purserref07_Show_0 ⟨T,[],h⟩ = some (.normal,⟨T',[],h'⟩) ∧ RsI p s h0 (i + 1) T' h' := by
  intro i T h hi ⟨t1,t4,⟨a,c,ez,t3,nw⟩⟩
  have lr : s.reverse.length = 32 := by rw [List.length_reverse,hs]
  have br : byt s.reverse = true := byt_iff.2 (fun x hx => byt_iff.1 bs x (List.mem_reverse.1 hx))
  obtain ⟨b,hb⟩ : ∃ b,s.reverse[i]? = some b := ⟨_,List.getElem?_eq_getElem (by omega)⟩
  have b256 : b < 256 := byt_iff.1 br b (List.mem_of_getElem? hb)
  obtain ⟨j,ej⟩ : ∃ j : Nat,31 - i = j := ⟨_,rfl⟩
  have hj : s[j]? = some b := by
    rw [List.getElem?_reverse (by omega)] at hb
    rw [← hb,← ej,hs]
  have ij : (31 - (i : Int)) = (j : Int) := by omega
  have wi : wr .i64 (31 - (i : Int) - 1) = 31 - ((i + 1 : Nat) : Int) := by rw [wr_i64 (by omega)]; omega
  rw [ij] at t4 wi
  have c0 : decide ((0 : Int) ≤ (j : Int)) = true := decide_eq_true (by omega)
  have ix : idx (j : Int) 32 = some j := idxn (by omega)
  have gp : h.get p = some (.cells (ofI .u8 s) .rw) := by rw [nw.kp.2 _ hp,g0]
  have l1 : (ofI .u8 s)[j]? = some (.int .u8 (b : Int)) := by
    rw [ofI_get _ _ _ (by omega),List.getD_eq_getElem?_getD,hj]; rfl
  have d1 := rdigit_go e x N (b / 16) (by omega)
  have d2 := rdigit_go e x N (b % 16) (Nat.mod_lt _ (by omega))
  have lt : (hx (s.reverse.take i)).length = 2 * i := by rw [hx_len,List.length_take]; omega
  obtain ⟨hr,ehr⟩ : ∃ hr,(bump 1 h).put h.next (.cells [.int .u8 (dg (b / 16) : Nat),.int .u8 (dg (b % 16) : Nat)] .rw) = hr := ⟨_,rfl⟩
  have nr : hr.next = h.next + 1 := by rw [← ehr]; rfl
  have kr : Kp h hr := ⟨by omega,fun j hj => by rw [← ehr,h_put_ne _ _ (by omega),s_bump_get]⟩
  have gr : hr.get h.next = some (.cells [.int .u8 (dg (b / 16) : Nat),.int .u8 (dg (b % 16) : Nat)] .rw) := by rw [← ehr]; exact h_put_same _ _ _
  have sc : srcCells hr 1 (.slice (some (h.next,0)) 2 (some 2) 1) = some (2,[.int .u8 (dg (b / 16) : Nat),.int .u8 (dg (b % 16) : Nat)]) := by
    rw [m_src,gr]; rfl
  obtain ⟨a',c',e',h',ap,nw',n',f'⟩ := (nw.k kr).ap [dg (b / 16),dg (b % 16)] (by rw [lt]; simp; omega)
  rw [← hx_take s.reverse i b hb] at ap nw'
  replace ap : appendC hr 1 1 (.slice a (hx (s.reverse.take i)).length c ez) (some (2,[.int .u8 (dg (b / 16) : Nat),.int .u8 (dg (b % 16) : Nat)])) = _ := ap
  obtain ⟨T',r,u1,u4,u3⟩ : ∃ T',evC (callX E X (N + 1)) 24 m none L_purserref07_Show_0 ⟨T,[],h⟩ = some (.normal,⟨T',[],h'⟩) ∧ evO T' (.t 1) = .ptr (some (p,0)) ∧ evO T' (.t 4) = .int .i64 (31 - ((i + 1 : Nat) : Int)) ∧ evO T' (.t 3) = .slice a' (hx (s.reverse.take (i + 1))).length c' e' := by
    generalize (hx (s.reverse.take i)).length = wl at *
    generalize (hx (s.reverse.take (i + 1))).length = wl2 at *
    generalize ((dg (b / 16) : Nat) : Int) = D1 at *
    generalize ((dg (b % 16) : Nat) : Int) = D2 at *
    have q8 := quo8 b b256
    have m8 := rem8 b
    generalize ((b / 16 : Nat) : Int) = B1 at *
    generalize ((b % 16 : Nat) : Int) = B2 at *
    generalize ofI .u8 s = SV at *
    exact ⟨_,by
      simp (config := {maxSteps := 2000000}) (disch := first | omega | (simp only [List.length_cons,List.length_nil,List.length_append,List.length_drop]; omega)) only [L_purserref07_Show_0,vbeq_int,t1,t3,t4,c0,ix,gp,l1,q8,m8,d1,d2,ehr,sc,ap,wi,↓s_dBuildS,s_dbE,↓s_append,Nat.zero_add,Nat.add_zero,Nat.mul_one,↓s_evD,↓s_dnil,↓s_dL,↓s_dR,↓s_dRj,↓s_dB,↓s_bindD,s_bindD,s_finDx,s_addP0,s_addP1,s_addB,s_lookP,↓s_bump_get,s_ok0,↓s_ok1,s_okR0,↓s_okR1,↓s_okE,s_okE,s_okE1,s_nth0,s_nthS,Nat.add_zero,Bool.and_self,↓s_load,m_load,↓m_load1,m_load1,w_zero,w_succ,↓x_idxA,x_idxAE,x_addrE,↓x_P0,↓x_P1,x_fill0,x_filli,List.length_cons,List.length_nil,List.cons_append,List.drop_succ_cons,List.drop_zero,List.drop_nil,List.nil_append,↓s_skip,↓s_ops,↓s_dops,↓s_seq,↓s_cond,↓s_block,↓s_nil,↓s_op,↓s_bindS,s_bindS,↓s_bindE,s_bindE,s_norm,↓s_condV,s_condV,s_block_normal,↓s_getp,↓s_con,↓s_os0,↓s_os1,↓s_mov,↓s_bin,↓s_call,s_same,b_geq,b_sub,↓iteN_true,↓iteN_false,iteN_true,iteN_false,Nat.zero_add,List.nil_append,List.append_nil,Nat.reduceEqDiff,decide_true,decide_false]
      exact rfl,(by (simp only [s_getp,Nat.reduceEqDiff,decide_false,iteN_false,t1]; try rfl)),(by (simp only [s_getp,decide_true,iteN_true]; try rfl)),(by (simp only [s_getp,Nat.reduceEqDiff,decide_false,decide_true,iteN_false,iteN_true]; try rfl))⟩
  exact ⟨T',h',r,u1,u4,⟨a',c',e',u3,nw'⟩⟩
theorem rshow_go (e : EnHd E) (x : NoHd X) (N : Nat) (hN : 50 < N) (s : List Nat) (hs : s.length = 32) (bs : byt s = true) (h : H) :
    ∃ h',callX E X (N + 2) (.fn k_purserref07_Show) [.agg (ofI .u8 s)] h = some (.str (hx s.reverse),h') ∧ Kp h h' := by
  rw [x_cfn e.sh _ _ (Nat.le_of_ble_eq_true rfl) (x.sh _ _)]
  have ca' : ∀ l : List V,(V.agg l).cells = l := fun _ => rfl
  have lr : s.reverse.length = 32 := by rw [List.length_reverse,hs]
  have br : byt s.reverse = true := byt_iff.2 (fun x hx => byt_iff.1 bs x (List.mem_reverse.1 hx))
  obtain ⟨hb,ehb⟩ : ∃ hb,h.new (.cells (ofI .u8 s) .rw) = hb := ⟨_,rfl⟩
  have kb : Kp h hb := by rw [← ehb]; exact Kp.new _ _
  have nb : hb.next = h.next + 1 := by rw [← ehb]; rfl
  have gb : hb.get h.next = some (.cells (ofI .u8 s) .rw) := by rw [← ehb]; exact h_new_same _ _
  have fin : ∀ T,RsI h.next s hb 0 T hb → ∃ h',fnEnd [.tmp 2] (bindE (blockE 0 (loopN (evC (callX E X (N + 1)) 24 (N + 1) none L_purserref07_Show_0) (N + 1) ⟨T,[],hb⟩)) (evC (callX E X (N + 1)) 24 (N + 1) none R_purserref07_Show_0)) = some (.str (hx s.reverse),h') ∧ Kp h h' := by
    intro T I
    obtain ⟨T',h',rr,J⟩ := loop_go (f := evC (callX E X (N + 1)) 24 (N + 1) none L_purserref07_Show_0) (RsI h.next s hb) 32 (.exit 0) (by intro h; cases h) (RsI h.next s hb 32) (fun i T h' hi I => rs_step e x N (N + 1) h.next s hs bs hb (by omega) gb i T h' hi I) (fun T h' I => by
      obtain ⟨t1,t4,⟨a,c,ez,t3,nw⟩⟩ := I
      have c0 : decide ((0 : Int) ≤ 31 - ((32 : Nat) : Int)) = false := rfl
      obtain ⟨L,eL⟩ : ∃ L,(hx (s.reverse.take 32)).length = L := ⟨_,rfl⟩
      rw [eL] at t3
      exact ⟨_,h',by
        simp (config := {maxSteps := 2000000}) (disch := first | omega | (simp only [List.length_cons,List.length_nil,List.length_append,List.length_drop]; omega)) only [L_purserref07_Show_0,t4,Int.reduceLE,Int.reduceSub,Int.cast_ofNat_Int,↓s_ops,↓s_seq,↓s_cond,↓s_exit,↓s_nil,↓s_op,↓s_bindS,s_bindS,↓s_bindE,s_bindE,s_bindE_exit,s_norm,↓s_condV,s_condV,↓s_getp,↓s_con,↓s_mov,↓s_bin,s_same,b_geq,↓iteN_true,↓iteN_false,iteN_true,iteN_false,decide_true,decide_false]
        exact rfl,⟨(by (simp only [s_getp,Nat.reduceEqDiff,decide_false,iteN_false,t1]; try rfl)),(by (simp only [s_getp,Nat.reduceEqDiff,decide_false,iteN_false,t4]; try rfl)),⟨a,c,ez,by rw [eL]; exact (by (simp only [s_getp,Nat.reduceEqDiff,decide_false,iteN_false,t3]; try rfl)),nw⟩⟩⟩) 32 0 (by omega) (N + 1) (by omega) T hb I
    rw [rr]
    obtain ⟨t1,t4,⟨a,c,ez,t3,nw⟩⟩ := J
    rw [List.take_of_length_le (by omega)] at t3 nw
    have s1 := str_src nw.wb.src (hx_byt _ br) c
    refine ⟨h',?_,kb.trans nw.kp⟩
    generalize (hx s.reverse).length = L at *
    simp (config := {maxSteps := 2000000}) (disch := first | omega | (simp only [List.length_cons,List.length_nil,List.length_append,List.length_drop]; omega)) only [R_purserref07_Show_0,t3,s1,↓ns_b2s,s_res0,↓s_ops,↓s_seq,↓s_ret,↓s_nil,↓s_op,↓s_bindS,s_bindS,↓s_bindE,s_bindE,s_norm,s_block_exit,↓s_getp,↓s_mov,s_same,s_end,s_res0,s_res1,s_tup1,↓iteN_true,iteN_true,decide_true,if_true]
    try rfl
  obtain ⟨R,eR⟩ : ∃ R,R_purserref07_Show_0 = R := ⟨_,rfl⟩
  obtain ⟨Lo,eLo⟩ : ∃ R,L_purserref07_Show_0 = R := ⟨_,rfl⟩
  rw [eR,eLo] at fin ⊢
  have fin' := fun T q1 q4 q3 => fin T ⟨q1,q4,⟨none,some 0,0,q3,⟨Kp.refl _,.nil _,fun _ _ e => by cases e⟩⟩⟩
  have l0 : (hx (s.reverse.take 0)).length = 0 := rfl
  rw [l0] at fin'
  clear fin
  generalize ofI .u8 s = SV at *
  simp (config := {maxSteps := 2000000}) (disch := first | omega | (simp only [List.length_cons,List.length_nil,List.length_append,List.length_drop]; omega)) only [ca',ehb,↓s_box,↓l_loop,↓l_succ,↓s_ops,↓s_seq,↓s_block,↓s_nil,↓s_op,↓s_bindS,s_bindS,↓s_bindE,s_bindE,s_norm,↓s_get,↓s_con,↓s_list0,↓s_list1,↓s_mov,↓iteN_true,iteN_true,decide_true]
  exact fin' _ (by (simp only [s_getp,Nat.reduceEqDiff,decide_false,decide_true,iteN_false,iteN_true]; try rfl)) (by (simp only [s_getp,decide_true,iteN_true]; try rfl)) (by (simp only [s_getp,Nat.reduceEqDiff,decide_false,decide_true,iteN_false,iteN_true]; try rfl))
end Go.Eng
namespace Go.Eng
open Go
variable {E : Nat → Option Fn} {X : Orc}
set_option linter.unusedSimpArgs false
set_option linter.unusedVariables false
theorem rheader_go (e : EnHd E) (x : NoHd X) (N : Nat) (d : HdQ) (ok : d.ok) (h : H) :
    ∃ h' a c ez,callX E X (N + 43) (.fn k_purserref07_Header) [.agg (hdV d)] h = some (.slice a 80 c ez,h') ∧ Nw h h' (hdB d) a c ez := by
  rw [x_cfn e.hd _ _ (Nat.le_of_ble_eq_true rfl) (x.hd _ _)]
  have ca' : ∀ l : List V,(V.agg l).cells = l := fun _ => rfl
  obtain ⟨hb,ehb⟩ : ∃ hb,h.new (.cells (hdV d) .rw) = hb := ⟨_,rfl⟩
  have kb : Kp h hb := by rw [← ehb]; exact Kp.new _ _
  have nb : hb.next = h.next + 1 := by rw [← ehb]; rfl
  have g0 : hb.get h.next = some (.cells (hdV d) .rw) := by rw [← ehb]; exact h_new_same _ _
  obtain ⟨i0,i65,i66,i67⟩ := hdV_at d ok
  have lV := hdV_len d ok
  have lp := ok.lp
  have lr := ok.lr
  obtain ⟨a1,c1,e1,h1,r1,nw1⟩ := rnum_go e x N d.ver ok.v1 hb
  have g1 : h1.get h.next = some (.cells (hdV d) .rw) := by rw [nw1.kp.2 _ (by omega),g0]
  have q1 : (leN 4 d.ver).length = 4 := leN_len _ _
  have q2 : (leN 4 d.ver ++ d.prev).length = 36 := by rw [List.length_append,q1,lp]
  have q3 : (leN 4 d.ver ++ d.prev ++ d.root).length = 68 := by rw [List.length_append,q2,lr]
  obtain ⟨a2,c2,e2,h2,r2,nw2,_⟩ := nw1.ap d.prev (by rw [q1,lp]; omega)
  rw [q1,q2,lp] at r2
  have g2 : h2.get h.next = some (.cells (hdV d) .rw) := by rw [nw2.kp.2 _ (by omega),g0]
  obtain ⟨a3,c3,e3,h3,r3,nw3,_⟩ := nw2.ap d.root (by rw [q2,lr]; omega)
  rw [q2,q3,lr] at r3
  have g3 : h3.get h.next = some (.cells (hdV d) .rw) := by rw [nw3.kp.2 _ (by omega),g0]
  obtain ⟨b1,d1,f1,h4,r4,nw4⟩ := rnum_go e x N d.time ok.t1 h3
  have s4 : srcCells h4 1 (.slice b1 4 d1 f1) = some (4,ofI .u8 (leN 4 d.time)) := by have := nw4.wb.src.cellz d1; rw [leN_len] at this; exact this
  obtain ⟨a5,c5,e5,h5,r5,nw5,_⟩ := (nw3.k nw4.kp).ap (leN 4 d.time) (by rw [q3,leN_len]; omega)
  have q5 : (leN 4 d.ver ++ d.prev ++ d.root ++ leN 4 d.time).length = 72 := by rw [List.length_append,q3,leN_len]
  rw [q3,q5,leN_len] at r5
  have g5 : h5.get h.next = some (.cells (hdV d) .rw) := by rw [nw5.kp.2 _ (by omega),g0]
  obtain ⟨b2,d2,f2,h6,r6,nw6⟩ := rnum_go e x N d.bits ok.b1 h5
  have s6 : srcCells h6 1 (.slice b2 4 d2 f2) = some (4,ofI .u8 (leN 4 d.bits)) := by have := nw6.wb.src.cellz d2; rw [leN_len] at this; exact this
  obtain ⟨a7,c7,e7,h7,r7,nw7,_⟩ := (nw5.k nw6.kp).ap (leN 4 d.bits) (by rw [q5,leN_len]; omega)
  have q7 : (leN 4 d.ver ++ d.prev ++ d.root ++ leN 4 d.time ++ leN 4 d.bits).length = 76 := by rw [List.length_append,q5,leN_len]
  rw [q5,q7,leN_len] at r7
  have g7 : h7.get h.next = some (.cells (hdV d) .rw) := by rw [nw7.kp.2 _ (by omega),g0]
  obtain ⟨b3,d3,f3,h8,r8,nw8⟩ := rnum_go e x N d.nonce ok.n1 h7
  have s8 : srcCells h8 1 (.slice b3 4 d3 f3) = some (4,ofI .u8 (leN 4 d.nonce)) := by have := nw8.wb.src.cellz d3; rw [leN_len] at this; exact this
  obtain ⟨a9,c9,e9,h9,r9,nw9,_⟩ := (nw7.k nw8.kp).ap (leN 4 d.nonce) (by rw [q7,leN_len]; omega)
  have q9 : (leN 4 d.ver ++ d.prev ++ d.root ++ leN 4 d.time ++ leN 4 d.bits ++ leN 4 d.nonce).length = 80 := by rw [List.length_append,q7,leN_len]
  rw [q7,q9,leN_len] at r9
  have eB : leN 4 d.ver ++ d.prev ++ d.root ++ leN 4 d.time ++ leN 4 d.bits ++ leN 4 d.nonce = hdB d := by unfold hdB; simp only [List.append_assoc]
  rw [eB] at nw9
  have sp : ∀ h : H,hb.next ≤ h.next → h.get (hb.next - 1) = some (.cells (hdV d) .rw) → srcCells h 1 (.slice (some (hb.next - 1,1)) 32 (some 32) 1) = some (32,ofI .u8 d.prev) := fun h hn g => by
    have s : SrcH h (some (hb.next - 1,1)) 1 d.prev := .inr ⟨hb.next - 1,1,hdV d,.rw,rfl,rfl,by omega,g,by omega,by rw [lp]; exact hdV_prev d ok⟩
    have := s.cellz (some 32); rw [lp] at this; exact this
  have sr : ∀ h : H,hb.next ≤ h.next → h.get (hb.next - 1) = some (.cells (hdV d) .rw) → srcCells h 1 (.slice (some (hb.next - 1,33)) 32 (some 32) 1) = some (32,ofI .u8 d.root) := fun h hn g => by
    have s : SrcH h (some (hb.next - 1,33)) 1 d.root := .inr ⟨hb.next - 1,33,hdV d,.rw,rfl,rfl,by omega,g,by omega,by rw [lr]; exact hdV_root d ok⟩
    have := s.cellz (some 32); rw [lr] at this; exact this
  rw [show hb.next - 1 = h.next by omega] at sp sr
  have sp1 := sp h1 nw1.kp.1 g1
  have sr2 := sr h2 nw2.kp.1 g2
  have sl1 : ∀ (h : H) i,slcB (some (.cells (hdV d) .rw)) 32 1 i 1 none none h = some (.slice (some (i,1)) 32 (some 32) 1,h) := fun h i => slcB_nn (hdV d) .rw 32 i 1 h (by omega)
  have sl2 : ∀ (h : H) i,slcB (some (.cells (hdV d) .rw)) 32 1 i 33 none none h = some (.slice (some (i,33)) 32 (some 32) 1,h) := fun h i => slcB_nn (hdV d) .rw 32 i 33 h (by omega)
  have k9 := nw9.kp.1
  refine ⟨h9,a9,c9,e9,?_,⟨kb.trans nw9.kp,nw9.wb,fun q o e => by have := nw9.ge q o e; omega⟩⟩
  clear sp sr
  generalize hdV d = D at *
  generalize ofI .u8 d.prev = S1 at *
  generalize ofI .u8 d.root = S2 at *
  generalize ofI .u8 (leN 4 d.time) = S3 at *
  generalize ofI .u8 (leN 4 d.bits) = S4 at *
  generalize ofI .u8 (leN 4 d.nonce) = S5 at *
  simp (config := {maxSteps := 2000000}) (disch := first | omega | (simp only [List.length_cons,List.length_nil,List.length_append,List.length_drop]; omega)) only [ca',ehb,vbeq_slice,g0,g1,g2,g3,g5,g7,i0,i65,i66,i67,r1,r2,r3,r4,r5,r6,r7,r8,r9,s4,s6,s8,sp1,sr2,↓x_slcA,x_slcAE,x_M0,sl1,sl2,↓s_append,↓s_box,↓x_fieldAddr,x_fieldV,Nat.zero_add,Nat.add_zero,↓s_evD,↓s_dnil,↓s_dL,↓s_dR,↓s_dRj,↓s_dB,↓s_bindD,s_bindD,s_finDx,s_addP0,↓s_bump0,s_ok0,↓s_ok1,s_okR0,↓s_okR1,↓s_okE,s_okE,s_okE1,s_nth0,s_nthS,Nat.add_zero,Bool.and_self,↓s_load,m_load,↓m_load1,m_load1,s_res0,↓s_ops,↓s_dops,↓s_seq,↓s_ret,↓s_nil,↓s_op,↓s_bindS,s_bindS,↓s_bindE,s_bindE,s_norm,↓s_getp,↓s_get,↓s_con,↓s_os0,↓s_os1,↓s_list0,↓s_list1,↓s_mov,↓s_call,s_same,s_end,s_res0,s_res1,s_tup1,↓iteN_true,↓iteN_false,iteN_true,iteN_false,Nat.zero_add,Nat.reduceEqDiff,decide_true,decide_false]
  try rfl
end Go.Eng
namespace Go.Eng
open Go
variable {E : Nat → Option Fn} {X : Orc}
set_option linter.unusedSimpArgs false
set_option linter.unusedVariables false
theorem bhash7_go (eh : EnHd E) (xh : NoHd X) (e : EnTw E) (x : NoTw X) (eb : EnBh E) (xb : NoBh X) (al : E k_octet_Pen_All = some f_octet_Pen_All) (K : Nat) (hK : 1000 < K) (d : HdQ) (ok : d.ok) (h : H) :
    ∃ h',callX E X (K + 84) (.fn k_block_Hash) [.agg (hdV d)] h = some (.agg (ofI .u8 (shaV (shaV (hdB d)))),h') ∧ Kp h h' := by
  rw [x_cfn eh.bh _ _ (Nat.le_of_ble_eq_true rfl) (xh.bh _ _)]
  rw [← z32e]
  obtain ⟨Z,eZ⟩ : ∃ Z,ofI .u8 (List.replicate 32 0) = Z := ⟨_,rfl⟩
  rw [eZ]
  have ca' : ∀ l : List V,(V.agg l).cells = l := fun _ => rfl
  obtain ⟨hb,ehb⟩ : ∃ hb,(h.new (.cells (hdV d) .rw)).new (.cells Z .rw) = hb := ⟨_,rfl⟩
  have kb : Kp h hb := by rw [← ehb]; (repeat (first | exact Kp.refl _ | refine Kp.put ?_ _ (by first | omega | (simp only [h_next_put,h_next_new,h_next_del]; omega)) | refine Kp.del ?_ (by first | omega | (simp only [h_next_put,h_next_new,h_next_del]; omega)) | refine Kp.trans ?_ (Kp.new _ _)))
  have nb : hb.next = h.next + 2 := by rw [← ehb]; rfl
  have g0 : hb.get h.next = some (.cells (hdV d) .rw) := by rw [← ehb]; (simp (disch := omega) only [h_new_get,h_next_new,Nat.add_eq_left,decide_true,decide_false,iteN_true,iteN_false,reduceCtorEq,]; try rfl)
  have gz : hb.get (h.next + 1) = some (.cells Z .rw) := by rw [← ehb]; (simp (disch := omega) only [h_new_get,h_next_new,decide_true,iteN_true,]; try rfl)
  have lP := fun m => fit_ld (hdV_fit d ok) m
  obtain ⟨h1,a1,c1,e1,r1,nw1⟩ := enchead_go eb xb al (K + 76) (by omega) d ok hb
  replace r1 : callX E X (K + 83) (.fn k_block_EncodeHeader) _ hb = _ := r1
  have k1 := nw1.kp
  have kn1 := k1.1
  have lB := hdB_len d ok
  obtain ⟨h2,r2,k2⟩ := tw2_go e x K (by omega) (hdB d) (by omega) (by omega) a1 c1 e1 h1 nw1.wb.src
  rw [lB] at r2
  have kn2 := k2.1
  obtain ⟨s,es⟩ : ∃ s,shaV (shaV (hdB d)) = s := ⟨_,rfl⟩
  have hs : s.length = 32 := by rw [← es]; exact shaV_len _
  obtain ⟨st,pu,ld⟩ := z32_st s hs Z eZ
  rw [es] at r2 ⊢
  have g2 : h2.get (h.next + 1) = some (.cells Z .rw) := by rw [k2.2 _ (by omega),k1.2 _ (by omega),gz]
  refine ⟨h2.put (h.next + 1) (.cells (ofI .u8 s) .rw),?_,⟨by show h.next ≤ h2.next; omega,fun j hj => by rw [h_put_ne _ _ (by omega),k2.2 _ (by omega),k1.2 _ (by omega),kb.2 _ hj]⟩⟩
  generalize ofI .u8 s = S1 at *
  generalize hdV d = D at *
  simp (config := {maxSteps := 2000000}) (disch := first | omega | (simp only [List.length_cons,List.length_nil,List.length_append,List.length_drop]; omega)) only [ca',ehb,g0,lP,r1,r2,g2,st,pu,ld,↓s_box,↓h_put_get,h_next_new,↓s_load,m_load,↓m_st,m_stE,↓s_alloc,s_resc,s_consR,s_res0,↓s_ops,↓s_seq,↓s_ret,↓s_nil,↓s_op,↓s_bindS,s_bindS,↓s_bindE,s_bindE,s_norm,↓s_getp,↓s_getp0,↓s_get,↓s_os0,↓s_os1,↓s_list0,↓s_list1,↓s_call,s_same,s_end,s_res0,s_tup1,↓iteN_true,↓iteN_false,iteN_true,iteN_false,Nat.reduceEqDiff,decide_true,decide_false]
  try rfl
theorem rhash7_go (eh : EnHd E) (xh : NoHd X) (e : EnRo E) (x : NoRo X) (et : E k_purserref04_Twice = some f_purserref04_Twice) (xt : ∀ a h,X (.fn k_purserref04_Twice) a h = none) (K : Nat) (hK : 10000 < K) (d : HdQ) (ok : d.ok) (h : H) :
    ∃ h',callX E X (K + 302) (.fn k_purserref07_Hash) [.agg (hdV d)] h = some (.agg (ofI .u8 (shaV (shaV (hdB d)))),h') ∧ Kp h h' := by
  rw [x_cfn eh.ha _ _ (Nat.le_of_ble_eq_true rfl) (xh.ha _ _)]
  rw [← z32e]
  obtain ⟨Z,eZ⟩ : ∃ Z,ofI .u8 (List.replicate 32 0) = Z := ⟨_,rfl⟩
  rw [eZ]
  have ca' : ∀ l : List V,(V.agg l).cells = l := fun _ => rfl
  obtain ⟨hb,ehb⟩ : ∃ hb,(h.new (.cells (hdV d) .rw)).new (.cells Z .rw) = hb := ⟨_,rfl⟩
  have kb : Kp h hb := by rw [← ehb]; (repeat (first | exact Kp.refl _ | refine Kp.put ?_ _ (by first | omega | (simp only [h_next_put,h_next_new,h_next_del]; omega)) | refine Kp.del ?_ (by first | omega | (simp only [h_next_put,h_next_new,h_next_del]; omega)) | refine Kp.trans ?_ (Kp.new _ _)))
  have nb : hb.next = h.next + 2 := by rw [← ehb]; rfl
  have g0 : hb.get h.next = some (.cells (hdV d) .rw) := by rw [← ehb]; (simp (disch := omega) only [h_new_get,h_next_new,Nat.add_eq_left,decide_true,decide_false,iteN_true,iteN_false,reduceCtorEq,]; try rfl)
  have gz : hb.get (h.next + 1) = some (.cells Z .rw) := by rw [← ehb]; (simp (disch := omega) only [h_new_get,h_next_new,decide_true,iteN_true,]; try rfl)
  have lP := fun m => fit_ld (hdV_fit d ok) m
  obtain ⟨h1,a1,c1,e1,r1,nw1⟩ := rheader_go eh xh (K + 258) d ok hb
  replace r1 : callX E X (K + 301) (.fn k_purserref07_Header) _ hb = _ := r1
  have k1 := nw1.kp
  have kn1 := k1.1
  have lB := hdB_len d ok
  obtain ⟨h2,r2,k2⟩ := rtw2_go e x et xt K (by omega) (hdB d) (hdB_byt d ok) (by omega) a1 c1 e1 h1 nw1.wb.src
  rw [lB] at r2
  have kn2 := k2.1
  obtain ⟨s,es⟩ : ∃ s,shaV (shaV (hdB d)) = s := ⟨_,rfl⟩
  have hs : s.length = 32 := by rw [← es]; exact shaV_len _
  obtain ⟨st,pu,ld⟩ := z32_st s hs Z eZ
  rw [es] at r2 ⊢
  have g2 : h2.get (h.next + 1) = some (.cells Z .rw) := by rw [k2.2 _ (by omega),k1.2 _ (by omega),gz]
  refine ⟨h2.put (h.next + 1) (.cells (ofI .u8 s) .rw),?_,⟨by show h.next ≤ h2.next; omega,fun j hj => by rw [h_put_ne _ _ (by omega),k2.2 _ (by omega),k1.2 _ (by omega),kb.2 _ hj]⟩⟩
  generalize ofI .u8 s = S1 at *
  generalize hdV d = D at *
  simp (config := {maxSteps := 2000000}) (disch := first | omega | (simp only [List.length_cons,List.length_nil,List.length_append,List.length_drop]; omega)) only [ca',ehb,g0,lP,r1,r2,g2,st,pu,ld,↓s_box,↓h_put_get,h_next_new,↓s_load,m_load,↓m_st,m_stE,↓s_alloc,s_resc,s_consR,s_res0,↓s_ops,↓s_seq,↓s_ret,↓s_nil,↓s_op,↓s_bindS,s_bindS,↓s_bindE,s_bindE,s_norm,↓s_getp,↓s_getp0,↓s_get,↓s_os0,↓s_os1,↓s_list0,↓s_list1,↓s_call,s_same,s_end,s_res0,s_tup1,↓iteN_true,↓iteN_false,iteN_true,iteN_false,Nat.reduceEqDiff,decide_true,decide_false]
  try rfl
end Go.Eng
