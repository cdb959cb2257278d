/- What functions of the program come to: own work. -/
import Derived.Test.YtfopajklnakmpaaBxHb
namespace Go.Eng
open Go
variable {E : Nat → Option Fn} {X : Orc}
set_option linter.unusedSimpArgs false
set_option linter.unusedVariables false
/-! strings that are no shown hash -/
theorem dg_inj : ∀ m n,m < 16 → n < 16 → dg m = dg n → m = n := by
  intro m n hm hn h
  unfold dg at h
  split at h <;> split at h <;> omega
def isDg (b : Nat) : Prop := ∃ n,n < 16 ∧ b = dg n
theorem isDg_dec (b : Nat) : isDg b ∨ ¬ isDg b := Classical.em _
theorem voI_dg (n : Nat) (hn : n < 16) : voI (dg n) = (n : Int) := by
  unfold voI dg
  split <;> split <;> (try split) <;> omega
theorem voI_no (b : Nat) (h : ¬ isDg b) : voI b = -1 := by
  unfold voI
  split
  · exact absurd ⟨b - 48,by omega,by unfold dg; split <;> omega⟩ h
  · split
    · exact absurd ⟨b - 87,by omega,by unfold dg; split <;> omega⟩ h
    · rfl
/-- a string of 64 bytes is a hash,shown,or has a first byte that is no digit -/
theorem firstDg (s : List Nat) : ∀ n : Nat,n ≤ s.length → (∀ i b : Nat,i < n → s[i]? = some b → isDg b) ∨ ∃ j b : Nat,j < n ∧ s[j]? = some b ∧ ¬ isDg b ∧ ∀ i b : Nat,i < j → s[i]? = some b → isDg b := by
  intro n
  induction n with
  | zero => intro _; exact .inl (fun i b h => by omega)
  | succ n ih =>
    intro hn
    rcases ih (by omega) with ih | ⟨j,b,h1,h2,h3,h4⟩
    · obtain ⟨b,hb⟩ : ∃ b,s[n]? = some b := ⟨_,List.getElem?_eq_getElem (by omega)⟩
      rcases isDg_dec b with h | h
      · refine .inl (fun i c hi hc => ?_)
        by_cases e : i = n
        · subst e; rw [hb] at hc; cases hc; exact h
        · exact ih i c (by omega) hc
      · exact .inr ⟨n,b,by omega,hb,h,ih⟩
    · exact .inr ⟨j,b,by omega,h2,h3,h4⟩
theorem hx_of (s : List Nat) : ∀ m : Nat,s.length = 2 * m → (∀ i b : Nat,s[i]? = some b → isDg b) → ∃ r,r.length = m ∧ byt r = true ∧ s = hx r := by
  intro m
  induction m generalizing s with
  | zero => intro hs _; refine ⟨[],rfl,rfl,?_⟩; cases s with
    | nil => rfl
    | cons a t => simp at hs
  | succ m ih =>
    intro hs hd
    match s,hs with
    | a :: b :: t,hs =>
      obtain ⟨x,hx1,ex⟩ := hd 0 a rfl
      obtain ⟨y,hy1,ey⟩ := hd 1 b rfl
      obtain ⟨r,lr,br,er⟩ := ih t (by simp only [List.length_cons] at hs; omega) (fun i c hc => hd (i + 2) c hc)
      refine ⟨(x * 16 + y) :: r,by simp [lr],by
        refine byt_iff.2 (fun z hz => ?_)
        rcases List.mem_cons.1 hz with rfl | hz
        · omega
        · exact byt_iff.1 br z hz,?_⟩
      unfold hx at er ⊢
      rw [List.map_cons,List.flatten_cons,← er,show (x * 16 + y) / 16 = x by omega,show (x * 16 + y) % 16 = y by omega,ex,ey]
      rfl
structure BxI (q q4 : Nat) (s : List Nat) (h0 : H) (i : Nat) (T : Tr V) (h : H) : Prop where
  t0 : evO T (.t 0) = .str s
  t2 : evO T (.t 2) = .ptr (some (q,0))
  t4 : evO T (.t 4) = .ptr (some (q4,0))
  ti : evO T (.t 12) = .int .i64 (i : Int)
  g : ∃ C : List Nat,C.length = 32 ∧ h.get q4 = some (.cells (ofI .u8 C) .rw)
  nx : h.next = h0.next
  fr : ∀ j,j ≠ q4 → h.get j = h0.get j
theorem bx_step (e : EnBs E) (x : NoBs X) (N m : Nat) (q q4 : Nat) (s : List Nat) (ls : s.length = 64) (h0 : H) (j : Nat) (hj : 2 * j ≤ 64) (dgs : ∀ i b : Nat,i < 2 * j → s[i]? = some b → isDg b) : ∀ i T h,i < j → BxI q q4 s h0 i T h → ∃ T' h',evC (callX E X (N + 1)) 43 m none L_block_Read_0 ⟨T,[],h⟩ = some (.normal,⟨T',[],h'⟩) ∧ BxI q q4 s h0 (i + 1) T' h' := by
  intro i T h hi ⟨t0,t2,t4,ti,⟨C,lz,g⟩,nx,fr⟩
  obtain ⟨b1,x1⟩ : ∃ b,s[2 * i]? = some b := ⟨_,List.getElem?_eq_getElem (by omega)⟩
  obtain ⟨b2,x2⟩ : ∃ b,s[2 * i + 1]? = some b := ⟨_,List.getElem?_eq_getElem (by omega)⟩
  obtain ⟨d1,hh,rfl⟩ := dgs _ _ (by omega) x1
  obtain ⟨d2,hl,rfl⟩ := dgs _ _ (by omega) x2
  have v1 := valueOf_go e x N d1 hh h
  have v2 := valueOf_go e x N d2 hl h
  have c0 : decide ((i : Int) < 32) = true := decide_eq_true (by omega)
  have wi : wr .i64 ((i : Int) + 1) = ((i + 1 : Nat) : Int) := by rw [wr_i64 (by omega)]; omega
  have wm : wr .i64 (2 * (i : Int)) = ((2 * i : Nat) : Int) := by rw [wr_i64 (by omega)]; omega
  have wm1 : wr .i64 (((2 * i : Nat) : Int) + 1) = ((2 * i + 1 : Nat) : Int) := by rw [wr_i64 (by omega)]; omega
  have y1 : ∀ h,isE (.str s) (.int .i64 ((2 * i : Nat) : Int)) h = some (.int .u8 (dg d1 : Nat),h) := fun h => by
    show (match s[2 * i]? with | some c => some (V.int .u8 (.ofNat c),h) | none => none) = _
    rw [x1]; rfl
  have y2 : ∀ h,isE (.str s) (.int .i64 ((2 * i + 1 : Nat) : Int)) h = some (.int .u8 (dg d2 : Nat),h) := fun h => by
    show (match s[2 * i + 1]? with | some c => some (V.int .u8 (.ofNat c),h) | none => none) = _
    rw [x2]; rfl
  have n1 : decide ((d1 : Int) < 0) = false := decide_eq_false (by omega)
  have n2 : decide ((d2 : Int) < 0) = false := decide_eq_false (by omega)
  have s1 := shl_i d1 hh
  have o1 := or_i d1 d2 hh hl
  obtain ⟨b,eb⟩ : ∃ b,d1 * 16 + d2 = b := ⟨_,rfl⟩
  rw [eb] at o1
  have wc : wr .u8 (b : Int) = (b : Int) := by rw [wr_eq]; simp [IntKind.wrap,IntKind.bits,IntKind.signed]; omega
  have ix : idx (i : Int) 32 = some i := idxn (by omega)
  have w1 : ∀ (h : H) q,storeE (some (.cells (ofI .u8 C) .rw)) h q i [.int .u8 (b : Int)] = some (h.put q (.cells (ofI .u8 (C.set i b)) .rw)) := fun h q => by
    rw [m_storeE _ _ _ _ _ (by rw [ofI_len,lz]; show i + 1 ≤ 32; omega),writeN_set _ _ _ (by rw [ofI_len,lz]; omega),ofI_set]
  obtain ⟨C2,eC2⟩ : ∃ Z,ofI .u8 (C.set i b) = Z := ⟨_,rfl⟩
  rw [eC2] at w1
  generalize ofI .u8 C = C1 at *
  obtain ⟨T',rr,u0,u2,u4,ui⟩ : ∃ T',evC (callX E X (N + 1)) 43 m none L_block_Read_0 ⟨T,[],h⟩ = some (.normal,⟨T',[],h.put q4 (.cells C2 .rw)⟩) ∧ evO T' (.t 0) = .str s ∧ evO T' (.t 2) = .ptr (some (q,0)) ∧ evO T' (.t 4) = .ptr (some (q4,0)) ∧ evO T' (.t 12) = .int .i64 ((i + 1 : Nat) : Int) := by
    generalize ((2 * i + 1 : Nat) : Int) = M2 at *
    generalize ((2 * i : Nat) : Int) = M1 at *
    generalize ((d1 * 16 : Nat) : Int) = B16 at *
    generalize ((dg d1 : Nat) : Int) = DH at *
    generalize ((dg d2 : Nat) : Int) = DL at *
    exact ⟨_,by
      simp (config := {maxSteps := 2000000}) (disch := first | omega | (simp only [List.length_cons,List.length_nil,List.length_append,List.length_drop]; omega)) only [L_block_Read_0,t0,t4,ti,c0,wm,wm1,↓x_idxStr,y1,y2,v1,v2,n1,n2,s1,o1,wc,ix,g,w1,wi,↓x_conv,x_convV,↓x_conv,x_convV,Nat.zero_add,Nat.mul_one,↓s_evD,↓s_dnil,↓s_dL,↓s_dB,↓s_bindD,s_bindD,s_finD,s_addP0,↓s_bump0,↓m_st,m_stE,m_storeI,↓x_idxA,x_idxAE,x_addrE,↓s_skip,↓s_ops,↓s_dops,↓s_seq,↓s_cond,↓s_block,↓s_nil,↓s_op,↓s_opg,↓s_wanted',↓s_wantV,s_wantV,↓s_bindS,s_bindS,↓s_bindE,s_bindE,s_norm,↓s_condV,s_condV,s_block_normal,↓s_getp,↓s_getp0,↓s_con,↓s_os0,↓s_os1,↓s_mov,↓s_pick,↓s_pickE,s_pickE,↓s_bin,↓s_call,s_same,b_lss,b_add,b_mul,↓iteN_true,↓iteN_false,iteN_true,iteN_false,Nat.zero_add,Nat.reduceEqDiff,decide_true,decide_false,beq_self_eq_true]
      exact rfl,(by (simp only [s_getp,s_getp0,Nat.reduceEqDiff,decide_false,iteN_false,t0]; try rfl)),(by (simp only [s_getp,s_getp0,Nat.reduceEqDiff,decide_false,iteN_false,t2]; try rfl)),(by (simp only [s_getp,s_getp0,Nat.reduceEqDiff,decide_false,iteN_false,t4]; try rfl)),(by (simp only [s_getp,decide_true,iteN_true]; try rfl))⟩
  exact ⟨T',_,rr,u0,u2,u4,ui,⟨C.set i b,by rw [List.length_set,lz],by rw [eC2]; exact h_put_same _ _ _⟩,nx,fun j hj => by rw [h_put_ne _ _ hj.symm,fr j hj]⟩
end Go.Eng
namespace Go.Eng
open Go
variable {E : Nat → Option Fn} {X : Orc}
set_option linter.unusedSimpArgs false
set_option linter.unusedVariables false
theorem isE_at (s : List Nat) (k b : Nat) (hk : s[k]? = some b) (h : H) : isE (.str s) (.int .i64 (k : Int)) h = some (.int .u8 (b : Int),h) := by
  show (match s[k]? with | some c => some (V.int .u8 (.ofNat c),h) | none => none) = _
  rw [hk]; rfl
theorem bx_stop (e : EnBs E) (x : NoBs X) (N m : Nat) (q q4 : Nat) (hq : q ≠ q4) (s : List Nat) (bs : byt s = true) (ls : s.length = 64) (Z : List V) (eZ : ofI .u8 (List.replicate 32 0) = Z) (h0 : H) (gq : h0.get q = some (.cells Z .rw)) (j : Nat) (hj : 2 * j + 2 ≤ 64) (b1 b2 : Nat) (x1 : s[2 * j]? = some b1) (x2 : s[2 * j + 1]? = some b2) (no : ¬ isDg b1 ∨ (isDg b1 ∧ ¬ isDg b2)) : ∀ T h,BxI q q4 s h0 j T h → ∃ T' h',evC (callX E X (N + 1)) 43 m none L_block_Read_0 ⟨T,[],h⟩ = some (.ret,⟨T',[],h'⟩) ∧ (evO T' (.t 2) = .ptr (some (q,0)) ∧ evO T' (.t 3) = .int .i64 70 ∧ h'.get q = some (.cells Z .rw) ∧ h'.next = h0.next ∧ ∀ i,i ≠ q → i ≠ q4 → h'.get i = h0.get i) := by
  intro T h ⟨t0,t2,t4,ti,⟨C,lz,g⟩,nx,fr⟩
  have by1 := byt_iff.1 bs b1 (List.mem_of_getElem? x1)
  have by2 := byt_iff.1 bs b2 (List.mem_of_getElem? x2)
  have v1 := voAny_go e x N b1 by1 h
  have v2 := voAny_go e x N b2 by2 h
  have c0 : decide ((j : Int) < 32) = true := decide_eq_true (by omega)
  have wm : wr .i64 (2 * (j : Int)) = ((2 * j : Nat) : Int) := by rw [wr_i64 (by omega)]; omega
  have wm1 : wr .i64 (((2 * j : Nat) : Int) + 1) = ((2 * j + 1 : Nat) : Int) := by rw [wr_i64 (by omega)]; omega
  have y1 := fun h => isE_at s (2 * j) b1 x1 h
  have y2 := fun h => isE_at s (2 * j + 1) b2 x2 h
  have gq' : h.get q = some (.cells Z .rw) := by rw [fr _ hq,gq]
  have nZ : (h.put q (.cells Z .rw)).next = h0.next := nx
  have fZ : ∀ i,i ≠ q → i ≠ q4 → (h.put q (.cells Z .rw)).get i = h0.get i := fun i h1 h2 => by rw [h_put_ne _ _ h1.symm,fr i h2]
  have gZ : (h.put q (.cells Z .rw)).get q = some (.cells Z .rw) := h_put_same _ _ _
  obtain ⟨st,pu,ld⟩ := z32_st (List.replicate 32 0) (List.length_replicate) Z eZ
  rw [eZ] at st pu ld
  have fz : fillV Z [] = some Z := rfl
  generalize ((2 * j + 1 : Nat) : Int) = M2 at *
  generalize ((2 * j : Nat) : Int) = M1 at *
  rcases no with no | ⟨⟨n,hn,rfl⟩,no⟩
  · rw [voI_no _ no] at v1
    have n1 : decide ((-1 : Int) < 0) = true := rfl
    generalize (b1 : Int) = B1 at *
    generalize (b2 : Int) = B2 at *
    generalize voI b2 = W at *
    refine ⟨_,h.put q (.cells Z .rw),by
      rw [L_block_Read_0,show ([.int .u8 0,.int .u8 0,.int .u8 0,.int .u8 0,.int .u8 0,.int .u8 0,.int .u8 0,.int .u8 0,.int .u8 0,.int .u8 0,.int .u8 0,.int .u8 0,.int .u8 0,.int .u8 0,.int .u8 0,.int .u8 0,.int .u8 0,.int .u8 0,.int .u8 0,.int .u8 0,.int .u8 0,.int .u8 0,.int .u8 0,.int .u8 0,.int .u8 0,.int .u8 0,.int .u8 0,.int .u8 0,.int .u8 0,.int .u8 0,.int .u8 0,.int .u8 0] : List V) = ofI .u8 (List.replicate 32 0) from rfl,eZ]
      simp (config := {maxSteps := 2000000}) (disch := first | omega | (simp only [List.length_cons,List.length_nil,List.length_append,List.length_drop]; omega)) only [t0,t2,ti,c0,wm,wm1,↓x_idxStr,y1,y2,v1,v2,gq',st,pu,fz,↓x_build,x_aggO,↓s_evD,↓s_dnil,↓s_dL,↓s_dB,↓s_bindD,s_bindD,s_finD,s_addP0,↓s_bump0,↓m_st,m_stE,↓x_P0,Int.reduceLT,↓s_skip,↓s_ops,↓s_dops,↓s_seq,↓s_cond,↓s_block,↓s_ret,↓s_nil,↓s_op,↓s_opg,↓s_wanted',↓s_wantV,s_wantV,beq_false,↓s_bindS,s_bindS,↓s_bindE,s_bindE,s_bindE_ret,s_norm,↓s_condV,s_condV,s_block_ret,↓s_getp,↓s_con,↓s_os0,↓s_os1,↓s_mov,↓s_pick,↓s_pickE,s_pickE,↓s_bin,↓s_call,s_same,b_lss,b_add,b_mul,↓iteN_true,↓iteN_false,iteN_true,iteN_false,Nat.reduceEqDiff,decide_true,decide_false,Bool.not_true]
      exact rfl,(by (simp only [s_getp,s_getp0,Nat.reduceEqDiff,decide_false,iteN_false,t2]; try rfl)),(by (simp only [s_getp,decide_true,iteN_true]; try rfl)),gZ,nZ,fZ⟩
  · rw [voI_no _ no] at v2
    rw [voI_dg n hn] at v1
    have n1 : decide ((n : Int) < 0) = false := decide_eq_false (by omega)
    have n2 : decide ((-1 : Int) < 0) = true := rfl
    generalize ((dg n : Nat) : Int) = B1 at *
    generalize (b2 : Int) = B2 at *
    refine ⟨_,h.put q (.cells Z .rw),by
      rw [L_block_Read_0,show ([.int .u8 0,.int .u8 0,.int .u8 0,.int .u8 0,.int .u8 0,.int .u8 0,.int .u8 0,.int .u8 0,.int .u8 0,.int .u8 0,.int .u8 0,.int .u8 0,.int .u8 0,.int .u8 0,.int .u8 0,.int .u8 0,.int .u8 0,.int .u8 0,.int .u8 0,.int .u8 0,.int .u8 0,.int .u8 0,.int .u8 0,.int .u8 0,.int .u8 0,.int .u8 0,.int .u8 0,.int .u8 0,.int .u8 0,.int .u8 0,.int .u8 0,.int .u8 0] : List V) = ofI .u8 (List.replicate 32 0) from rfl,eZ]
      simp (config := {maxSteps := 2000000}) (disch := first | omega | (simp only [List.length_cons,List.length_nil,List.length_append,List.length_drop]; omega)) only [t0,t2,ti,c0,wm,wm1,↓x_idxStr,y1,y2,v1,v2,n1,gq',st,pu,fz,↓x_build,x_aggO,↓s_evD,↓s_dnil,↓s_dL,↓s_dB,↓s_bindD,s_bindD,s_finD,s_addP0,↓s_bump0,↓m_st,m_stE,↓x_P0,Int.reduceLT,↓s_skip,↓s_ops,↓s_dops,↓s_seq,↓s_cond,↓s_block,↓s_ret,↓s_nil,↓s_op,↓s_opg,↓s_wanted',↓s_wantV,s_wantV,↓s_bindS,s_bindS,↓s_bindE,s_bindE,s_bindE_ret,s_norm,↓s_condV,s_condV,s_block_ret,↓s_getp,↓s_con,↓s_os0,↓s_os1,↓s_mov,↓s_pick,↓s_pickE,s_pickE,↓s_bin,↓s_call,s_same,b_lss,b_add,b_mul,↓iteN_true,↓iteN_false,iteN_true,iteN_false,Nat.reduceEqDiff,decide_true,decide_false,beq_self_eq_true]
      exact rfl,(by (simp only [s_getp,s_getp0,Nat.reduceEqDiff,decide_false,iteN_false,t2]; try rfl)),(by (simp only [s_getp,decide_true,iteN_true]; try rfl)),gZ,nZ,fZ⟩
theorem read_bad (e : EnBs E) (x : NoBs X) (N : Nat) (hN : 50 < N) (s : List Nat) (bs : byt s = true) (h : H) (bad : s.length ≠ 64 ∨ (s.length = 64 ∧ ∃ j b : Nat,j < 64 ∧ s[j]? = some b ∧ ¬ isDg b ∧ ∀ i b : Nat,i < j → s[i]? = some b → isDg b)) :
    ∃ h',callX E X (N + 3) (.fn k_block_Read) [.str s] h = some (.tup [.agg (ofI .u8 (List.replicate 32 0)),.int .i64 70],h') ∧ Kp h h' := by
  rw [x_cfn e.rd _ _ (Nat.le_of_ble_eq_true rfl) (x.rd _ _)]
  rw [← z32e]
  obtain ⟨Z,eZ⟩ : ∃ Z,ofI .u8 (List.replicate 32 0) = Z := ⟨_,rfl⟩
  rw [eZ]
  obtain ⟨st,pu,ld⟩ := z32_st (List.replicate 32 0) (List.length_replicate) Z eZ
  rw [eZ] at st pu ld
  have fz : fillV Z [] = some Z := rfl
  have lq : lenV true (.str s) = some (.int .i64 (s.length : Int)) := rfl
  rcases bad with bad | ⟨ls,j,b,hj,hb,nb,fb⟩
  · obtain ⟨h1,eh1⟩ : ∃ h1,h.new (.cells Z .rw) = h1 := ⟨_,rfl⟩
    have k1 : Kp h h1 := by rw [← eh1]; exact Kp.new _ _
    have n1 : h1.next = h.next + 1 := by rw [← eh1]; rfl
    have g1 : h1.get h.next = some (.cells Z .rw) := by rw [← eh1]; exact h_new_same _ _
    have d1 : decide ((s.length : Int) = 64) = false := decide_eq_false (by omega)
    refine ⟨h1.put h.next (.cells Z .rw),?_,⟨by show h.next ≤ h1.next; omega,fun j hj => by rw [h_put_ne _ _ (by omega),k1.2 _ hj]⟩⟩
    simp (config := {maxSteps := 2000000}) (disch := first | omega | (simp only [List.length_cons,List.length_nil,List.length_append,List.length_drop]; omega)) only [eh1,g1,lq,d1,Bool.not_false,fz,st,pu,ld,↓x_build,x_aggO,↓s_len,↓h_put_get,m_load,↓m_st,m_stE,↓s_alloc,↓s_len,↓x_P0,s_resc,s_consR,s_res0,↓s_ops,↓s_seq,↓s_cond,↓s_ret,↓s_nil,↓s_op,↓s_bindS,s_bindS,↓s_bindE,s_bindE,s_bindE_ret,s_norm,↓s_condV,s_condV,↓s_getp,↓s_getp0,↓s_get,↓s_con,↓s_list0,↓s_list1,↓s_mov,↓s_bin,s_same,b_neq,s_end,s_res0,s_res1,s_tup2,↓iteN_true,↓iteN_false,iteN_true,iteN_false,Nat.reduceEqDiff,decide_true,decide_false,Bool.not_false]
    try rfl
  obtain ⟨h2,eh2⟩ : ∃ h2,(h.new (.cells Z .rw)).new (.cells Z .rw) = h2 := ⟨_,rfl⟩
  have k2 : Kp h h2 := by rw [← eh2]; (repeat (first | exact Kp.refl _ | refine Kp.put ?_ _ (by first | omega | (simp only [h_next_put,h_next_new,h_next_del]; omega)) | refine Kp.del ?_ (by first | omega | (simp only [h_next_put,h_next_new,h_next_del]; omega)) | refine Kp.trans ?_ (Kp.new _ _)))
  have n2 : h2.next = h.next + 2 := by rw [← eh2]; rfl
  have g21 : h2.get h.next = some (.cells Z .rw) := by rw [← eh2]; (simp (disch := omega) only [h_new_get,h_next_new,Nat.add_eq_left,decide_true,decide_false,iteN_true,iteN_false,reduceCtorEq,]; try rfl)
  have g22 : h2.get (h.next + 1) = some (.cells Z .rw) := by rw [← eh2]; (simp (disch := omega) only [h_new_get,h_next_new,decide_true,iteN_true,]; try rfl)
  obtain ⟨i,ei⟩ : ∃ i,j / 2 = i := ⟨_,rfl⟩
  obtain ⟨b1,x1⟩ : ∃ b,s[2 * i]? = some b := ⟨_,List.getElem?_eq_getElem (by omega)⟩
  obtain ⟨b2,x2⟩ : ∃ b,s[2 * i + 1]? = some b := ⟨_,List.getElem?_eq_getElem (by omega)⟩
  have no : ¬ isDg b1 ∨ (isDg b1 ∧ ¬ isDg b2) := by
    rcases Nat.lt_or_ge (2 * i) j with hlt | hge
    · obtain rfl : j = 2 * i + 1 := by omega
      rw [hb] at x2; cases x2
      exact .inr ⟨fb _ _ hlt x1,nb⟩
    · obtain rfl : j = 2 * i := by omega
      rw [hb] at x1; cases x1
      exact .inl nb
  have fin : ∀ T,BxI h.next (h.next + 1) s h2 0 T h2 → ∃ h',fnEnd [.cell 2 (some 32),.tmp 3] (bindE (blockE 0 (loopN (evC (callX E X (N + 2)) 43 (N + 2) none L_block_Read_0) (N + 2) ⟨T,[],h2⟩)) (evC (callX E X (N + 2)) 43 (N + 2) none R_block_Read_0)) = some (.tup [.agg Z,.int .i64 70],h') ∧ Kp h h' := by
    intro T I
    obtain ⟨T',h3,rr,t2,t3,g3,n3,f3⟩ := loop_go (f := evC (callX E X (N + 2)) 43 (N + 2) none L_block_Read_0) (BxI h.next (h.next + 1) s h2) i .ret (by intro h; cases h) _ (fun k T h' hi I => bx_step e x (N + 1) (N + 2) h.next (h.next + 1) s ls h2 i (by omega) (fun k b hk hb => fb k b (by omega) hb) k T h' hi I) (fun T h' I => bx_stop e x (N + 1) (N + 2) h.next (h.next + 1) (by omega) s bs ls Z eZ h2 g21 i (by omega) b1 b2 x1 x2 no T h' I) i 0 (by omega) (N + 2) (by omega) T h2 I
    rw [rr]
    refine ⟨h3,?_,⟨by omega,fun j hj => by rw [f3 _ (by omega) (by omega),k2.2 _ hj]⟩⟩
    simp (config := {maxSteps := 2000000}) (disch := first | omega | (simp only [List.length_cons,List.length_nil,List.length_append,List.length_drop]; omega)) only [t2,t3,g3,ld,m_load,s_resc,s_consR,s_res0,s_bindE_ret,s_block_ret,s_end,s_res0,s_res1,s_tup2]
    try rfl
  obtain ⟨R,eR⟩ : ∃ R,R_block_Read_0 = R := ⟨_,rfl⟩
  obtain ⟨Lo,eLo⟩ : ∃ R,L_block_Read_0 = R := ⟨_,rfl⟩
  rw [eR,eLo] at fin ⊢
  have fin' := fun T q0 q2 q4 qi => fin T ⟨q0,q2,q4,qi,⟨List.replicate 32 0,List.length_replicate,by rw [eZ]; exact g22⟩,rfl,fun _ _ => rfl⟩
  clear fin
  have c64 : decide ((64 : Int) = 64) = true := rfl
  have ll : ((s.length : Nat) : Int) = 64 := by rw [ls]; rfl
  simp (config := {maxSteps := 2000000}) (disch := first | omega | (simp only [List.length_cons,List.length_nil,List.length_append,List.length_drop]; omega)) only [eh2,lq,ll,Bool.not_true,↓s_len,↓l_loop,↓l_succ,h_next_new,↓s_alloc,↓s_len,↓s_skip,↓s_ops,↓s_seq,↓s_cond,↓s_block,↓s_nil,↓s_op,↓s_bindS,s_bindS,↓s_bindE,s_bindE,s_norm,↓s_condV,s_condV,↓s_getp,↓s_get,↓s_con,↓s_list0,↓s_list1,↓s_mov,↓s_bin,s_same,b_neq,↓iteN_true,↓iteN_false,iteN_true,iteN_false,Nat.reduceEqDiff,decide_true,decide_false,Bool.not_true]
  exact fin' _ (by (simp only [s_getp,Nat.reduceEqDiff,decide_false,iteN_false]; try rfl)) (by (simp only [s_getp,Nat.reduceEqDiff,decide_false,decide_true,iteN_false,iteN_true]; try rfl)) (by (simp only [s_getp,Nat.reduceEqDiff,decide_false,decide_true,iteN_false,iteN_true]; try rfl)) (by (simp only [s_getp,decide_true,iteN_true]; try rfl))
end Go.Eng
namespace Go.Eng
open Go
variable {E : Nat → Option Fn} {X : Orc}
set_option linter.unusedSimpArgs false
set_option linter.unusedVariables false
/-! the document's Read -/
def fd (b : Nat) : Nat → Nat
  | 0 => 16
  | k + 1 => if dg k = b then k else fd b k
theorem fd_no (b : Nat) (h : ¬ isDg b) : ∀ k,k ≤ 16 → fd b k = 16 := by
  intro k
  induction k with
  | zero => intro _; rfl
  | succ k ih =>
    intro hk
    unfold fd
    rw [if_neg (fun e => h ⟨k,by omega,e.symm⟩)]
    exact ih (by omega)
theorem fd_dg (n : Nat) (hn : n < 16) : ∀ k,n < k → k ≤ 16 → fd (dg n) k = n := by
  intro k
  induction k with
  | zero => intro h; omega
  | succ k ih =>
    intro h hk
    unfold fd
    by_cases e : k = n
    · subst e; rw [if_pos rfl]
    · rw [if_neg (fun h => e (dg_inj k n (by omega) hn h))]
      exact ih (by omega) (by omega)
def rcN (s : List Nat) : Nat → List Nat
  | 0 => List.replicate 32 0
  | i + 1 => (rcN s i).set (31 - i / 2) ((16 * (rcN s i).getD (31 - i / 2) 0 + fd (s.getD i 0) 16) % 256)
theorem rcN_len (s : List Nat) : ∀ i,(rcN s i).length = 32 := by
  intro i
  induction i with
  | zero => rfl
  | succ i ih => unfold rcN; rw [List.length_set,ih]
theorem rcN_hx (r : List Nat) (hr : r.length = 32) (br : byt r = true) : ∀ m,m ≤ 32 → rcN (hx r) (2 * m) = List.replicate (32 - m) 0 ++ (r.take m).reverse := by
  intro m
  induction m with
  | zero => intro _; rfl
  | succ m ih =>
    intro hm
    have ih := ih (by omega)
    obtain ⟨b,hb⟩ : ∃ b,r[m]? = some b := ⟨_,List.getElem?_eq_getElem (by omega)⟩
    have b256 := byt_iff.1 br b (List.mem_of_getElem? hb)
    obtain ⟨x1,x2⟩ := hx_get r m b hb
    have y1 : (hx r).getD (2 * m) 0 = dg (b / 16) := by rw [List.getD_eq_getElem?_getD,x1]; rfl
    have y2 : (hx r).getD (2 * m + 1) 0 = dg (b % 16) := by rw [List.getD_eq_getElem?_getD,x2]; rfl
    have sp : rcN (hx r) (2 * m) = List.replicate (31 - m) 0 ++ ([0] ++ (r.take m).reverse) := by
      rw [ih,show 32 - m = (31 - m) + 1 by omega,List.replicate_succ',List.append_assoc]
    have st : ∀ (v w : Nat),(List.replicate (31 - m) 0 ++ ([v] ++ (r.take m).reverse)).set (31 - m) w = List.replicate (31 - m) 0 ++ ([w] ++ (r.take m).reverse) := fun v w => by
      rw [List.set_append_right _ _ (by rw [List.length_replicate]; omega),List.length_replicate,Nat.sub_self]; rfl
    have gd : ∀ (v : Nat),(List.replicate (31 - m) 0 ++ ([v] ++ (r.take m).reverse)).getD (31 - m) 0 = v := fun v => by
      rw [List.getD_eq_getElem?_getD,List.getElem?_append_right (by rw [List.length_replicate]; omega),List.length_replicate,Nat.sub_self]; rfl
    have e1 : rcN (hx r) (2 * m + 1) = List.replicate (31 - m) 0 ++ ([b / 16] ++ (r.take m).reverse) := by
      show (rcN (hx r) (2 * m)).set (31 - (2 * m) / 2) _ = _
      rw [show 2 * m / 2 = m by omega,sp,gd,st,y1,fd_dg (b / 16) (by omega) 16 (by omega) (by omega),show (16 * 0 + b / 16) % 256 = b / 16 by omega]
    have e2 : rcN (hx r) (2 * m + 1 + 1) = List.replicate (31 - m) 0 ++ ([b] ++ (r.take m).reverse) := by
      show (rcN (hx r) (2 * m + 1)).set (31 - (2 * m + 1) / 2) _ = _
      rw [show (2 * m + 1) / 2 = m by omega,e1,gd,st,y2,fd_dg (b % 16) (by omega) 16 (by omega) (by omega),show (16 * (b / 16) + b % 16) % 256 = b by omega]
    rw [show 2 * (m + 1) = 2 * m + 1 + 1 by omega,e2,show 32 - (m + 1) = 31 - m by omega,List.take_add_one,hb]
    simp
structure RiI (s : List Nat) (i b q q4 : Nat) (h0 : H) (k : Nat) (T : Tr V) (h : H) : Prop where
  t0 : evO T (.t 0) = .str s
  t2 : evO T (.t 2) = .ptr (some (q,0))
  t4 : evO T (.t 4) = .ptr (some (q4,0))
  t5 : evO T (.t 5) = .int .i64 (i : Int)
  t6 : evO T (.t 6) = .int .i64 (fd b k : Nat)
  t7 : evO T (.t 7) = .int .i64 (k : Int)
  hh : h = h0
theorem ri_step (e : EnHd E) (x : NoHd X) (N m : Nat) (s : List Nat) (i b q q4 : Nat) (hb : s[i]? = some b) (h0 : H) : ∀ k T h,k < 16 → RiI s i b q q4 h0 k T h → ∃ T' h',evC (callX E X (N + 1)) 46 m none L_purserref07_Read_0 ⟨T,[],h⟩ = some (.normal,⟨T',[],h'⟩) ∧ RiI s i b q q4 h0 (k + 1) T' h' := by
  intro k T h hk ⟨t0,t2,t4,t5,t6,t7,hh⟩
  subst hh
  have c0 : decide ((k : Int) < 16) = true := decide_eq_true (by omega)
  have wk : wr .i64 ((k : Int) + 1) = ((k + 1 : Nat) : Int) := by rw [wr_i64 (by omega)]; omega
  have wc : wr .u8 (k : Int) = (k : Int) := by rw [wr_eq]; simp [IntKind.wrap,IntKind.bits,IntKind.signed]; omega
  have d1 := rdigit_go e x N k hk
  have y1 := fun h => isE_at s i b hb h
  by_cases eq : dg k = b
  · have f1 : fd b (k + 1) = k := by unfold fd; rw [if_pos eq]
    have c1 : decide (((dg k : Nat) : Int) = (b : Int)) = true := decide_eq_true (by rw [eq])
    obtain ⟨T',rr,u0,u2,u4,u5,u6,u7⟩ : ∃ T',evC (callX E X (N + 1)) 46 m none L_purserref07_Read_0 ⟨T,[],h⟩ = some (.normal,⟨T',[],h⟩) ∧ evO T' (.t 0) = .str s ∧ evO T' (.t 2) = .ptr (some (q,0)) ∧ evO T' (.t 4) = .ptr (some (q4,0)) ∧ evO T' (.t 5) = .int .i64 (i : Int) ∧ evO T' (.t 6) = .int .i64 (k : Int) ∧ evO T' (.t 7) = .int .i64 ((k + 1 : Nat) : Int) := by
      generalize ((dg k : Nat) : Int) = D at *
      exact ⟨_,by
        simp (config := {maxSteps := 2000000}) (disch := first | omega | (simp only [List.length_cons,List.length_nil,List.length_append,List.length_drop]; omega)) only [L_purserref07_Read_0,t0,t5,t7,c0,wc,d1,↓x_idxStr,y1,c1,wk,↓x_conv,x_convV,↓x_conv,x_convV,↓s_evD,↓s_dnil,↓s_dL,↓s_dB,↓s_bindD,s_bindD,s_finD,s_addP0,↓s_bump0,↓s_skip,↓s_ops,↓s_dops,↓s_seq,↓s_cond,↓s_block,↓s_nil,↓s_op,↓s_bindS,s_bindS,↓s_bindE,s_bindE,s_norm,↓s_condV,s_condV,s_block_normal,↓s_getp,↓s_con,↓s_os0,↓s_os1,↓s_mov,↓s_bin,↓s_call,s_same,b_eql,b_lss,b_add,↓iteN_true,↓iteN_false,iteN_true,iteN_false,Nat.reduceEqDiff,decide_true,decide_false]
        exact rfl,(by (simp only [s_getp,Nat.reduceEqDiff,decide_false,iteN_false,t0]; try rfl)),(by (simp only [s_getp,Nat.reduceEqDiff,decide_false,iteN_false,t2]; try rfl)),(by (simp only [s_getp,Nat.reduceEqDiff,decide_false,iteN_false,t4]; try rfl)),(by (simp only [s_getp,Nat.reduceEqDiff,decide_false,iteN_false,t5]; try rfl)),(by (simp only [s_getp,Nat.reduceEqDiff,decide_false,decide_true,iteN_false,iteN_true]; try rfl)),(by (simp only [s_getp,decide_true,iteN_true]; try rfl))⟩
    exact ⟨T',h,rr,u0,u2,u4,u5,by rw [f1]; exact u6,u7,rfl⟩
  · have f1 : fd b (k + 1) = fd b k := by rw [fd]; rw [if_neg eq]
    have c1 : decide (((dg k : Nat) : Int) = (b : Int)) = false := decide_eq_false (by omega)
    obtain ⟨T',rr,u0,u2,u4,u5,u6,u7⟩ : ∃ T',evC (callX E X (N + 1)) 46 m none L_purserref07_Read_0 ⟨T,[],h⟩ = some (.normal,⟨T',[],h⟩) ∧ evO T' (.t 0) = .str s ∧ evO T' (.t 2) = .ptr (some (q,0)) ∧ evO T' (.t 4) = .ptr (some (q4,0)) ∧ evO T' (.t 5) = .int .i64 (i : Int) ∧ evO T' (.t 6) = .int .i64 (fd b k : Nat) ∧ evO T' (.t 7) = .int .i64 ((k + 1 : Nat) : Int) := by
      generalize ((dg k : Nat) : Int) = D at *
      exact ⟨_,by
        simp (config := {maxSteps := 2000000}) (disch := first | omega | (simp only [List.length_cons,List.length_nil,List.length_append,List.length_drop]; omega)) only [L_purserref07_Read_0,t0,t5,t7,c0,wc,d1,↓x_idxStr,y1,c1,wk,↓x_conv,x_convV,↓x_conv,x_convV,↓s_evD,↓s_dnil,↓s_dL,↓s_dB,↓s_bindD,s_bindD,s_finD,s_addP0,↓s_bump0,↓s_skip,↓s_ops,↓s_dops,↓s_seq,↓s_cond,↓s_block,↓s_nil,↓s_op,↓s_bindS,s_bindS,↓s_bindE,s_bindE,s_norm,↓s_condV,s_condV,s_block_normal,↓s_getp,↓s_con,↓s_os0,↓s_os1,↓s_mov,↓s_bin,↓s_call,s_same,b_eql,b_lss,b_add,↓iteN_true,↓iteN_false,iteN_true,iteN_false,Nat.reduceEqDiff,decide_true,decide_false]
        exact rfl,(by (simp only [s_getp,Nat.reduceEqDiff,decide_false,iteN_false,t0]; try rfl)),(by (simp only [s_getp,Nat.reduceEqDiff,decide_false,iteN_false,t2]; try rfl)),(by (simp only [s_getp,Nat.reduceEqDiff,decide_false,iteN_false,t4]; try rfl)),(by (simp only [s_getp,Nat.reduceEqDiff,decide_false,iteN_false,t5]; try rfl)),(by (simp only [s_getp,Nat.reduceEqDiff,decide_false,iteN_false,t6]; try rfl)),(by (simp only [s_getp,decide_true,iteN_true]; try rfl))⟩
    exact ⟨T',h,rr,u0,u2,u4,u5,by rw [f1]; exact u6,u7,rfl⟩
theorem ri_loop (e : EnHd E) (x : NoHd X) (N m : Nat) (hm : 16 < m) (s : List Nat) (i b q q4 : Nat) (hb : s[i]? = some b) (h0 : H) (T : Tr V) (h : H) (I : RiI s i b q q4 h0 0 T h) :
    ∃ T' h',loopN (evC (callX E X (N + 1)) 46 m none L_purserref07_Read_0) m ⟨T,[],h⟩ = some (.exit 2,⟨T',[],h'⟩) ∧ RiI s i b q q4 h0 16 T' h' :=
  loop_go (f := evC (callX E X (N + 1)) 46 m none L_purserref07_Read_0) (RiI s i b q q4 h0) 16 (.exit 2) (by intro h; cases h) (RiI s i b q q4 h0 16) (ri_step e x N m s i b q q4 hb h0) (fun T h I => by
    obtain ⟨t0,t2,t4,t5,t6,t7,hh⟩ := I
    have c0 : decide (((16 : Nat) : Int) < 16) = false := rfl
    exact ⟨_,h,by
      simp (config := {maxSteps := 2000000}) (disch := first | omega | (simp only [List.length_cons,List.length_nil,List.length_append,List.length_drop]; omega)) only [L_purserref07_Read_0,t7,Int.reduceLT,Int.cast_ofNat_Int,↓s_ops,↓s_seq,↓s_cond,↓s_exit,↓s_nil,↓s_op,↓s_bindS,s_bindS,↓s_bindE,s_bindE,s_bindE_exit,s_norm,↓s_condV,s_condV,↓s_getp,↓s_con,↓s_mov,↓s_bin,s_same,b_lss,↓iteN_true,↓iteN_false,iteN_true,iteN_false,decide_true,decide_false]
      exact rfl,⟨(by (simp only [s_getp,Nat.reduceEqDiff,decide_false,iteN_false,t0]; try rfl)),(by (simp only [s_getp,Nat.reduceEqDiff,decide_false,iteN_false,t2]; try rfl)),(by (simp only [s_getp,Nat.reduceEqDiff,decide_false,iteN_false,t4]; try rfl)),(by (simp only [s_getp,Nat.reduceEqDiff,decide_false,iteN_false,t5]; try rfl)),(by (simp only [s_getp,Nat.reduceEqDiff,decide_false,iteN_false,t6]; try rfl)),(by (simp only [s_getp,Nat.reduceEqDiff,decide_false,iteN_false,t7]; try rfl)),hh⟩⟩) 16 0 (by omega) m hm T h I
end Go.Eng
