/- What functions of the program come to: own work. -/
import Derived.Test.YtfopajklnakmpaaBxL
import Derived.Test.YtfopajklnakmpaaBxN
import Derived.ProofKit
namespace Go.Eng
open Go
variable {E : Nat → Option Fn} {X : Orc}
set_option linter.unusedSimpArgs false
set_option linter.unusedVariables false
structure NoSha (X : Orc) : Prop where
  rot : ∀ a h,X (.fn k_math_bits_RotateLeft32) a h = none
  turned : ∀ a h,X (.fn k_sha_turned) a h = none
  cube : ∀ a h,X (.fn k_sha_cubeTable) a h = none
  square : ∀ a h,X (.fn k_sha_squareTable) a h = none
  sched : ∀ a h,X (.fn k_sha_Sum_schedule) a h = none
  mix : ∀ a h,X (.fn k_sha_Sum_mix) a h = none
  sums : ∀ a h,X (.fn k_sha_Sum_sums) a h = none
  fill : ∀ a h,X (.fn k_sha_Sum_fill) a h = none
  fill1 : ∀ a h,X (.fn k_sha_Sum_fill_1) a h = none
  pad : ∀ a h,X (.fn k_sha_padding) a h = none
  write : ∀ a h,X (.fn k_sha_Sum_Write) a h = none
  fin : ∀ a h,X (.fn k_sha_Sum_End) a h = none
  new : ∀ a h,X (.fn k_sha_New) a h = none
  yld : ∀ l a h,X (.yld l) a h = none
structure EnSha (E : Nat → Option Fn) : Prop where
  rot : E k_math_bits_RotateLeft32 = some f_math_bits_RotateLeft32
  turned : E k_sha_turned = some f_sha_turned
  cube : E k_sha_cubeTable = some f_sha_cubeTable
  square : E k_sha_squareTable = some f_sha_squareTable
  sched : E k_sha_Sum_schedule = some f_sha_Sum_schedule
  mix : E k_sha_Sum_mix = some f_sha_Sum_mix
  sums : E k_sha_Sum_sums = some f_sha_Sum_sums
  fill : E k_sha_Sum_fill = some f_sha_Sum_fill
  fill1 : E k_sha_Sum_fill_1 = some f_sha_Sum_fill_1
  pad : E k_sha_padding = some f_sha_padding
  write : E k_sha_Sum_Write = some f_sha_Sum_Write
  fin : E k_sha_Sum_End = some f_sha_Sum_End
  new : E k_sha_New = some f_sha_New
theorem rot_gen (e : EnSha E) (x : NoSha X) (N : Nat) (a k : Nat) (hk : k ≤ 32) (hc : wr .u64 (-(k : Int)) = 18446744073709551616 - (k : Int)) (hm : ∀ e h,binV .and e h (.int .u64 (18446744073709551616 - (k : Int))) (.int .u64 31) = some (.int .u64 ((32 - k : Nat) : Int))) (h : H) :
    callX E X (N + 1) (.fn k_math_bits_RotateLeft32) [.int .u32 (a : Int),.int .i64 (-(k : Int))] h = some (.int .u32 (rl a (32 - k) : Nat),h) := by
  rw [x_cfn e.rot _ _ (Nat.le_of_ble_eq_true rfl) (x.rot _ _)]
  have e1 : wr .u64 ((32 : Int) - ((32 - k : Nat) : Int)) = ((32 - (32 - k) : Nat) : Int) := by rw [wr_u64 (by omega)]; omega
  simp (config := {maxSteps := 2000000}) (disch := first | omega | (simp only [List.length_cons,List.length_nil,List.length_append,List.length_drop]; omega)) only [hc,hm,e1,b_shl32,b_shr32,↓b_or32,b_or32,↓x_conv,x_convV,Nat.zero_add,s_res0,↓s_ops,↓s_seq,↓s_ret,↓s_nil,↓s_op,↓s_bindS,s_bindS,↓s_bindE,s_bindE,s_norm,↓s_getp,↓s_get,↓s_con,↓s_list0,↓s_list1,↓s_mov,↓s_bin,s_same,b_sub,s_end,s_res0,s_res1,s_tup1,↓iteN_true,↓iteN_false,iteN_true,iteN_false,Nat.zero_add,Nat.reduceEqDiff,decide_true,decide_false]
  rfl
theorem rot_go (e : EnSha E) (x : NoSha X) (N : Nat) (a k : Nat) (h1 : 1 ≤ k) (hk : k ≤ 31) (h : H) :
    callX E X (N + 1) (.fn k_math_bits_RotateLeft32) [.int .u32 (a : Int),.int .i64 (-(k : Int))] h = some (.int .u32 (rl a (32 - k) : Nat),h) := by
  refine rot_gen e x N a k (by omega) ?_ ?_ h
  · rw [wr_eq]; simp only [IntKind.wrap,IntKind.bits,IntKind.signed]; simp; omega
  · intro e h
    have e0 : (18446744073709551616 - (k : Int)) = ((18446744073709551616 - k : Nat) : Int) := by omega
    rw [e0]
    have e1 : binV .and e h (.int .u64 ((18446744073709551616 - k : Nat) : Int)) (.int .u64 31) = some (.int .u64 (asK .u64 (Nat.land ((18446744073709551616 - k) % 18446744073709551616) 31))) := rfl
    rw [e1]
    have e2 : Nat.land ((18446744073709551616 - k) % 18446744073709551616) 31 = 32 - k := by
      show ((18446744073709551616 - k) % 18446744073709551616) &&& 31 = 32 - k
      have := Nat.and_two_pow_sub_one_eq_mod ((18446744073709551616 - k) % 18446744073709551616) 5
      rw [show (31 : Nat) = 2 ^ 5 - 1 from rfl,this]; omega
    rw [e2]
    have : 32 - k < 256 := by omega
    unfold asK
    rw [cond_blt,if_pos (by simp [half]; omega)]
    rfl
theorem rotL (e : EnSha E) (x : NoSha X) (N : Nat) (a : Nat) (h : H) :
    (callX E X (N + 1) (.fn k_math_bits_RotateLeft32) [.int .u32 (a : Int),.int .i64 (-7)] h = some (.int .u32 (rl a 25 : Nat),h)) ∧
    (callX E X (N + 1) (.fn k_math_bits_RotateLeft32) [.int .u32 (a : Int),.int .i64 (-18)] h = some (.int .u32 (rl a 14 : Nat),h)) ∧
    (callX E X (N + 1) (.fn k_math_bits_RotateLeft32) [.int .u32 (a : Int),.int .i64 (-17)] h = some (.int .u32 (rl a 15 : Nat),h)) ∧
    (callX E X (N + 1) (.fn k_math_bits_RotateLeft32) [.int .u32 (a : Int),.int .i64 (-19)] h = some (.int .u32 (rl a 13 : Nat),h)) :=
  ⟨rot_go e x N a 7 (by omega) (by omega) h,rot_go e x N a 18 (by omega) (by omega) h,rot_go e x N a 17 (by omega) (by omega) h,rot_go e x N a 19 (by omega) (by omega) h⟩
theorem turned_go (e : EnSha E) (x : NoSha X) (N : Nat) (a i j k : Nat) (h1 : 1 ≤ i ∧ i ≤ 31) (h2 : 1 ≤ j ∧ j ≤ 31) (h3 : 1 ≤ k ∧ k ≤ 31) (h : H) :
    callX E X (N + 2) (.fn k_sha_turned) [.int .u32 (a : Int),.int .i64 (i : Int),.int .i64 (j : Int),.int .i64 (k : Int)] h = some (.int .u32 (trn a i j k : Nat),h) := by
  rw [x_cfn e.turned _ _ (Nat.le_of_ble_eq_true rfl) (x.turned _ _)]
  have r1 := fun h => rot_go e x N a i h1.1 h1.2 h
  have r2 := fun h => rot_go e x N a j h2.1 h2.2 h
  have r3 := fun h => rot_go e x N a k h3.1 h3.2 h
  have w1 : wr .i64 (0 - (i : Int)) = -(i : Int) := by rw [wr_i64 (by omega)]; omega
  have w2 : wr .i64 (0 - (j : Int)) = -(j : Int) := by rw [wr_i64 (by omega)]; omega
  have w3 : wr .i64 (0 - (k : Int)) = -(k : Int) := by rw [wr_i64 (by omega)]; omega
  simp (config := {maxSteps := 2000000}) (disch := first | omega | (simp only [List.length_cons,List.length_nil,List.length_append,List.length_drop]; omega)) only [r1,r2,r3,w1,w2,w3,↓b_xor32,b_xor32,Nat.zero_add,Nat.reduceAdd,s_res0,↓s_ops,↓s_seq,↓s_ret,↓s_nil,↓s_op,↓s_bindS,s_bindS,↓s_bindE,s_bindE,s_norm,↓s_getp,↓s_get,↓s_con,↓s_os0,↓s_os1,↓s_list0,↓s_list1,↓s_mov,↓s_bin,↓s_un,↓s_call,s_same,u_neg,s_end,s_res0,s_res1,s_tup1,↓iteN_true,↓iteN_false,iteN_true,iteN_false,Nat.zero_add,Nat.reduceEqDiff,decide_true,decide_false]
  rfl
theorem turnedL (e : EnSha E) (x : NoSha X) (N : Nat) (a : Nat) (h : H) :
    (callX E X (N + 2) (.fn k_sha_turned) [.int .u32 (a : Int),.int .i64 6,.int .i64 11,.int .i64 25] h = some (.int .u32 (trn a 6 11 25 : Nat),h)) ∧
    (callX E X (N + 2) (.fn k_sha_turned) [.int .u32 (a : Int),.int .i64 2,.int .i64 13,.int .i64 22] h = some (.int .u32 (trn a 2 13 22 : Nat),h)) :=
  ⟨turned_go e x N a 6 11 25 (by omega) (by omega) (by omega) h,turned_go e x N a 2 13 22 (by omega) (by omega) (by omega) h⟩
theorem square_go (e : EnSha E) (x : NoSha X) (N : Nat) (h : H) : ∃ h',callX E X (N + 1) (.fn k_sha_squareTable) [] h = some (.agg (ofI .u32 squaresL),h') ∧ Kp h h' := by
  rw [x_cfn e.square _ _ (Nat.le_of_ble_eq_true rfl) (x.square _ _)]
  have F : ∀ T : Tr V,fillV [.int .u32 0,.int .u32 0,.int .u32 0,.int .u32 0,.int .u32 0,.int .u32 0,.int .u32 0,.int .u32 0] (evP T [(0,1,(.c (.int .u32 1779033703))),(1,1,(.c (.int .u32 3144134277))),(2,1,(.c (.int .u32 1013904242))),(3,1,(.c (.int .u32 2773480762))),(4,1,(.c (.int .u32 1359893119))),(5,1,(.c (.int .u32 2600822924))),(6,1,(.c (.int .u32 528734635))),(7,1,(.c (.int .u32 1541459225)))]) = some (ofI .u32 squaresL) := fun T => by rw [show evP T _ = seqP .u32 0 squaresL from rfl]; exact fill_seq0 _ _ _ rfl
  have S : ∀ (h : H) (i : Nat),storeV h 8 (.ptr (some (i,0))) (.agg (ofI .u32 squaresL)) = storeE (h.get i) h i 0 (ofI .u32 squaresL) := fun h i => m_storeA h 8 i 0 _ rfl
  have R : ∀ m,loadE (some (.cells (ofI .u32 squaresL) m)) (some 8) 0 = some (.agg (ofI .u32 squaresL)) := fun m => by rw [m_loadN,x_readAll _ 8 rfl]
  have W : writeN [.int .u32 0,.int .u32 0,.int .u32 0,.int .u32 0,.int .u32 0,.int .u32 0,.int .u32 0,.int .u32 0] 0 (ofI .u32 squaresL) = ofI .u32 squaresL := by rw [w_zero]; simp only [ofI_len]; exact List.append_nil _
  have L : (ofI .u32 squaresL).length = 8 := rfl
  generalize ofI .u32 squaresL = sq at *
  simp (config := {maxSteps := 2000000}) (disch := first | omega | (simp only [List.length_cons,List.length_nil,List.length_append,List.length_drop]; omega)) only [↓F,S,W,R,↓x_build,x_aggO,↓h_put_get,↓h_new_get,m_load,↓m_st,m_stE,m_storeE,↓s_alloc,s_resc,s_consR,s_res0,↓s_ops,↓s_seq,↓s_ret,↓s_nil,↓s_op,↓s_bindS,s_bindS,↓s_bindE,s_bindE,s_norm,↓s_getp,↓s_getp0,↓s_list0,s_same,s_end,s_res0,s_tup1,↓iteN_true,↓iteN_false,iteN_true,iteN_false,Nat.reduceEqDiff,decide_true,decide_false]
  exact ⟨_,rfl,(Kp.new _ _).put _ (Nat.le_refl _)⟩
theorem cube_go (e : EnSha E) (x : NoSha X) (N : Nat) (h : H) : ∃ h',callX E X (N + 1) (.fn k_sha_cubeTable) [] h = some (.agg (ofI .u32 cubes),h') ∧ Kp h h' := by
  rw [x_cfn e.cube _ _ (Nat.le_of_ble_eq_true rfl) (x.cube _ _)]
  have F : ∀ T : Tr V,fillV [.int .u32 0,.int .u32 0,.int .u32 0,.int .u32 0,.int .u32 0,.int .u32 0,.int .u32 0,.int .u32 0,.int .u32 0,.int .u32 0,.int .u32 0,.int .u32 0,.int .u32 0,.int .u32 0,.int .u32 0,.int .u32 0,.int .u32 0,.int .u32 0,.int .u32 0,.int .u32 0,.int .u32 0,.int .u32 0,.int .u32 0,.int .u32 0,.int .u32 0,.int .u32 0,.int .u32 0,.int .u32 0,.int .u32 0,.int .u32 0,.int .u32 0,.int .u32 0,.int .u32 0,.int .u32 0,.int .u32 0,.int .u32 0,.int .u32 0,.int .u32 0,.int .u32 0,.int .u32 0,.int .u32 0,.int .u32 0,.int .u32 0,.int .u32 0,.int .u32 0,.int .u32 0,.int .u32 0,.int .u32 0,.int .u32 0,.int .u32 0,.int .u32 0,.int .u32 0,.int .u32 0,.int .u32 0,.int .u32 0,.int .u32 0,.int .u32 0,.int .u32 0,.int .u32 0,.int .u32 0,.int .u32 0,.int .u32 0,.int .u32 0,.int .u32 0] (evP T [(0,1,(.c (.int .u32 1116352408))),(1,1,(.c (.int .u32 1899447441))),(2,1,(.c (.int .u32 3049323471))),(3,1,(.c (.int .u32 3921009573))),(4,1,(.c (.int .u32 961987163))),(5,1,(.c (.int .u32 1508970993))),(6,1,(.c (.int .u32 2453635748))),(7,1,(.c (.int .u32 2870763221))),(8,1,(.c (.int .u32 3624381080))),(9,1,(.c (.int .u32 310598401))),(10,1,(.c (.int .u32 607225278))),(11,1,(.c (.int .u32 1426881987))),(12,1,(.c (.int .u32 1925078388))),(13,1,(.c (.int .u32 2162078206))),(14,1,(.c (.int .u32 2614888103))),(15,1,(.c (.int .u32 3248222580))),(16,1,(.c (.int .u32 3835390401))),(17,1,(.c (.int .u32 4022224774))),(18,1,(.c (.int .u32 264347078))),(19,1,(.c (.int .u32 604807628))),(20,1,(.c (.int .u32 770255983))),(21,1,(.c (.int .u32 1249150122))),(22,1,(.c (.int .u32 1555081692))),(23,1,(.c (.int .u32 1996064986))),(24,1,(.c (.int .u32 2554220882))),(25,1,(.c (.int .u32 2821834349))),(26,1,(.c (.int .u32 2952996808))),(27,1,(.c (.int .u32 3210313671))),(28,1,(.c (.int .u32 3336571891))),(29,1,(.c (.int .u32 3584528711))),(30,1,(.c (.int .u32 113926993))),(31,1,(.c (.int .u32 338241895))),(32,1,(.c (.int .u32 666307205))),(33,1,(.c (.int .u32 773529912))),(34,1,(.c (.int .u32 1294757372))),(35,1,(.c (.int .u32 1396182291))),(36,1,(.c (.int .u32 1695183700))),(37,1,(.c (.int .u32 1986661051))),(38,1,(.c (.int .u32 2177026350))),(39,1,(.c (.int .u32 2456956037))),(40,1,(.c (.int .u32 2730485921))),(41,1,(.c (.int .u32 2820302411))),(42,1,(.c (.int .u32 3259730800))),(43,1,(.c (.int .u32 3345764771))),(44,1,(.c (.int .u32 3516065817))),(45,1,(.c (.int .u32 3600352804))),(46,1,(.c (.int .u32 4094571909))),(47,1,(.c (.int .u32 275423344))),(48,1,(.c (.int .u32 430227734))),(49,1,(.c (.int .u32 506948616))),(50,1,(.c (.int .u32 659060556))),(51,1,(.c (.int .u32 883997877))),(52,1,(.c (.int .u32 958139571))),(53,1,(.c (.int .u32 1322822218))),(54,1,(.c (.int .u32 1537002063))),(55,1,(.c (.int .u32 1747873779))),(56,1,(.c (.int .u32 1955562222))),(57,1,(.c (.int .u32 2024104815))),(58,1,(.c (.int .u32 2227730452))),(59,1,(.c (.int .u32 2361852424))),(60,1,(.c (.int .u32 2428436474))),(61,1,(.c (.int .u32 2756734187))),(62,1,(.c (.int .u32 3204031479))),(63,1,(.c (.int .u32 3329325298)))]) = some (ofI .u32 cubes) := fun T => by rw [show evP T _ = seqP .u32 0 cubes from rfl]; exact fill_seq0 _ _ _ rfl
  have S : ∀ (h : H) (i : Nat),storeV h 64 (.ptr (some (i,0))) (.agg (ofI .u32 cubes)) = storeE (h.get i) h i 0 (ofI .u32 cubes) := fun h i => m_storeA h 64 i 0 _ rfl
  have R : ∀ m,loadE (some (.cells (ofI .u32 cubes) m)) (some 64) 0 = some (.agg (ofI .u32 cubes)) := fun m => by rw [m_loadN,x_readAll _ 64 rfl]
  have W : writeN [.int .u32 0,.int .u32 0,.int .u32 0,.int .u32 0,.int .u32 0,.int .u32 0,.int .u32 0,.int .u32 0,.int .u32 0,.int .u32 0,.int .u32 0,.int .u32 0,.int .u32 0,.int .u32 0,.int .u32 0,.int .u32 0,.int .u32 0,.int .u32 0,.int .u32 0,.int .u32 0,.int .u32 0,.int .u32 0,.int .u32 0,.int .u32 0,.int .u32 0,.int .u32 0,.int .u32 0,.int .u32 0,.int .u32 0,.int .u32 0,.int .u32 0,.int .u32 0,.int .u32 0,.int .u32 0,.int .u32 0,.int .u32 0,.int .u32 0,.int .u32 0,.int .u32 0,.int .u32 0,.int .u32 0,.int .u32 0,.int .u32 0,.int .u32 0,.int .u32 0,.int .u32 0,.int .u32 0,.int .u32 0,.int .u32 0,.int .u32 0,.int .u32 0,.int .u32 0,.int .u32 0,.int .u32 0,.int .u32 0,.int .u32 0,.int .u32 0,.int .u32 0,.int .u32 0,.int .u32 0,.int .u32 0,.int .u32 0,.int .u32 0,.int .u32 0] 0 (ofI .u32 cubes) = ofI .u32 cubes := by rw [w_zero]; simp only [ofI_len]; exact List.append_nil _
  have L : (ofI .u32 cubes).length = 64 := rfl
  generalize ofI .u32 cubes = sq at *
  simp (config := {maxSteps := 2000000}) (disch := first | omega | (simp only [List.length_cons,List.length_nil,List.length_append,List.length_drop]; omega)) only [↓F,S,W,R,↓x_build,x_aggO,↓h_put_get,↓h_new_get,m_load,↓m_st,m_stE,m_storeE,↓s_alloc,s_resc,s_consR,s_res0,↓s_ops,↓s_seq,↓s_ret,↓s_nil,↓s_op,↓s_bindS,s_bindS,↓s_bindE,s_bindE,s_norm,↓s_getp,↓s_getp0,↓s_list0,s_same,s_end,s_res0,s_tup1,↓iteN_true,↓iteN_false,iteN_true,iteN_false,Nat.reduceEqDiff,decide_true,decide_false]
  exact ⟨_,rfl,(Kp.new _ _).put _ (Nat.le_refl _)⟩
theorem sched_step (e : EnSha E) (x : NoSha X) (N n p q r : Nat) (hpq : p ≠ q) (st blk : List Nat) (len : Nat) (md : Md) (h0 : H) (h1 : st.length = 8) (h2 : blk.length = 64) (hp : h0.get p = some (.cells (sumC st blk len) md)) :
    ∀ i T h,i < 64 → SI p q r st blk len md h0 i T h → ∃ T' h',evC (callX E X (N + 1)) 89 n none L_sha_Sum_schedule_0 ⟨T,[],h⟩ = some (.normal,⟨T',[],h'⟩) ∧ SI p q r st blk len md h0 (i + 1) T' h' := by
  intro i T h hi ⟨_,t0,t2,t3,t10,gq,eq⟩
  have gp : h.get p = some (.cells (sumC st blk len) md) := by rw [eq.2 p hpq,hp]
  have c0 : decide ((i : Int) < 64) = true := decide_eq_true (by omega)
  have wi : wr .i64 ((i : Int) + 1) = ((i + 1 : Nat) : Int) := by rw [wr_i64 (by omega)]; omega
  have ix : idx (i : Int) 64 = some i := idxn hi
  obtain ⟨w,ew⟩ : ∃ w,wnx blk (wsN blk i) i = w := ⟨_,rfl⟩
  have wp := wCells_put blk i hi
  rw [ew] at wp
  have wg := fun j => wCells_get blk i j
  have wl := wCells_len blk i (by omega)
  generalize wCells blk i = cs at *
  have ste : ∀ (h : H) (v : V),storeE (some (.cells cs .rw)) h q i [v] = some (h.put q (.cells (writeN cs i [v]) .rw)) := fun h v => m_storeE _ _ _ _ _ (by rw [wl]; exact hi)
  by_cases h16 : i < 16
  · have c1 : decide ((i : Int) < 16) = true := decide_eq_true (by omega)
    have w4 : wr .i64 (4 * (i : Int)) = ((4 * i : Nat) : Int) := by rw [wr_i64 (by omega)]; omega
    have w44 : wr .i64 (((4 * i : Nat) : Int) + 4) = ((4 * i + 4 : Nat) : Int) := by rw [wr_i64 (by omega)]; omega
    have b0 := sumC_b st blk len (4 * i) h1 (by omega)
    have b1 := sumC_b st blk len (4 * i + 1) h1 (by omega)
    have b2 := sumC_b st blk len (4 * i + 2) h1 (by omega)
    have b3 := sumC_b st blk len (4 * i + 3) h1 (by omega)
    have sle := sumC_len st blk len h1 h2
    have sb : ∀ h,slcB (some (.cells (sumC st blk len) md)) 64 1 p 8 (some (.int .i64 ((4 * i : Nat) : Int))) (some (.int .i64 ((4 * i + 4 : Nat) : Int))) h = some (.slice (some (p,8 + 4 * i)) 4 (some (64 - 4 * i)) 1,h) := by
      intro h
      rw [x_slcB _ _ _ _ _ _ _ _ _ _ _ (by rw [sle]; omega) (x_bnd _ _ _ _ (by omega)) (x_bnd _ _ _ _ (by omega)),Nat.mul_one,Nat.add_sub_cancel_left]
    generalize sumC st blk len = sc at *
    have s24 : ∀ e h (a : Nat),binV .shl e h (.int .u32 (a : Int)) (.int .u64 24) = some (.int .u32 (sl a 24 : Nat)) := fun e h a => b_shl32 e h a 24 (by omega)
    have s16 : ∀ e h (a : Nat),binV .shl e h (.int .u32 (a : Int)) (.int .u64 16) = some (.int .u32 (sl a 16 : Nat)) := fun e h a => b_shl32 e h a 16 (by omega)
    have s8 : ∀ e h (a : Nat),binV .shl e h (.int .u32 (a : Int)) (.int .u64 8) = some (.int .u32 (sl a 8 : Nat)) := fun e h a => b_shl32 e h a 8 (by omega)
    unfold wnx at ew
    rw [if_pos h16] at ew
    refine ⟨_,_,by
      simp (config := {maxSteps := 2000000}) (disch := first | omega | (simp only [List.length_cons,List.length_nil,List.length_append,List.length_drop]; omega)) only [L_sha_Sum_schedule_0,t0,t3,t10,gp,gq,c0,c1,wi,w4,w44,ix,b0,b1,b2,b3,sb,s24,s16,s8,w32,ew,ste,↓x_slcA,x_slcAE,x_M1,x_idx,↓b_or32,b_or32,↓x_conv,x_convV,↓x_fieldAddr,x_fieldV,↓s_nilchk,x_nilchk,Nat.zero_add,Nat.add_zero,Nat.mul_one,↓s_evD,↓s_dnil,↓s_dL,↓s_dR,↓s_dB,↓s_bindD,s_bindD,s_finD,s_addP0,↓s_bump0,Nat.add_zero,Nat.add_assoc,↓s_load,m_load,↓m_load1,m_load1,↓m_st,m_stE,m_storeI,↓x_idxA,↓x_idxS,x_idxAE,x_idxSE,x_addrE,x_idx,Int.reduceToNat,↓s_skip,↓s_ops,↓s_dops,↓s_seq,↓s_cond,↓s_block,↓s_exit,↓s_nil,↓s_op,↓s_bindS,s_bindS,↓s_bindE,s_bindE,s_bindE_exit,s_norm,↓s_condV,s_condV,s_block_exit,↓s_getp,↓s_getp0,↓s_con,↓s_mov,↓s_bin,s_same,b_lss,b_add,b_mul,↓iteN_true,↓iteN_false,iteN_true,iteN_false,Nat.zero_add,Nat.reduceEqDiff,decide_true,decide_false,if_true]
      exact rfl,⟨by omega,(by (simp only [s_getp,s_getp0,Nat.reduceEqDiff,decide_false,iteN_false,t0]; try rfl)),(by (simp only [s_getp,s_getp0,Nat.reduceEqDiff,decide_false,iteN_false,t2]; try rfl)),(by (simp only [s_getp,s_getp0,Nat.reduceEqDiff,decide_false,iteN_false,t3]; try rfl)),(by (simp only [s_getp,decide_true,iteN_true]; try rfl)),?_,eq.put _⟩⟩
    rw [h_put_same,wp]
  · have c1 : decide ((i : Int) < 16) = false := decide_eq_false (by omega)
    have w15 : wr .i64 ((i : Int) - 15) = ((i - 15 : Nat) : Int) := by rw [wr_i64 (by omega)]; omega
    have w2 : wr .i64 ((i : Int) - 2) = ((i - 2 : Nat) : Int) := by rw [wr_i64 (by omega)]; omega
    have w16 : wr .i64 ((i : Int) - 16) = ((i - 16 : Nat) : Int) := by rw [wr_i64 (by omega)]; omega
    have w7 : wr .i64 ((i : Int) - 7) = ((i - 7 : Nat) : Int) := by rw [wr_i64 (by omega)]; omega
    have x15 : idx ((i - 15 : Nat) : Int) 64 = some (i - 15) := idxn (by omega)
    have x2 : idx ((i - 2 : Nat) : Int) 64 = some (i - 2) := idxn (by omega)
    have x16 : idx ((i - 16 : Nat) : Int) 64 = some (i - 16) := idxn (by omega)
    have x7 : idx ((i - 7 : Nat) : Int) 64 = some (i - 7) := idxn (by omega)
    have g15 := wg (i - 15) (by omega)
    have g2 := wg (i - 2) (by omega)
    have g16 := wg (i - 16) (by omega)
    have g7 := wg (i - 7) (by omega)
    have s3 : ∀ e h (a : Nat),binV .shr e h (.int .u32 (a : Int)) (.int .u64 3) = some (.int .u32 (sr a 3 : Nat)) := fun e h a => b_shr32 e h a 3 (by omega)
    have s10 : ∀ e h (a : Nat),binV .shr e h (.int .u32 (a : Int)) (.int .u64 10) = some (.int .u32 (sr a 10 : Nat)) := fun e h a => b_shr32 e h a 10 (by omega)
    have r7 := fun a h => (rotL e x N a h).1
    have r18 := fun a h => (rotL e x N a h).2.1
    have r17 := fun a h => (rotL e x N a h).2.2.1
    have r19 := fun a h => (rotL e x N a h).2.2.2
    unfold wnx at ew
    rw [if_neg h16] at ew
    refine ⟨_,_,by
      simp (config := {maxSteps := 2000000}) (disch := first | omega | (simp only [List.length_cons,List.length_nil,List.length_append,List.length_drop]; omega)) only [L_sha_Sum_schedule_0,t3,t10,gq,c0,c1,wi,w15,w2,w16,w7,x15,x2,x16,x7,ix,g15,g2,g16,g7,s3,s10,r7,r18,r17,r19,ew,ste,↓b_xor32,b_xor32,w32ad,Nat.zero_add,Nat.mul_one,↓s_evD,↓s_dnil,↓s_dL,↓s_dR,↓s_dB,↓s_bindD,s_bindD,s_finD,s_addP0,↓s_bump0,↓s_load,m_load,↓m_load1,m_load1,↓m_st,m_stE,m_storeI,↓x_idxA,x_idxAE,x_addrE,↓s_skip,↓s_ops,↓s_dops,↓s_seq,↓s_cond,↓s_block,↓s_nil,↓s_op,↓s_bindS,s_bindS,↓s_bindE,s_bindE,s_norm,↓s_condV,s_condV,s_block_normal,↓s_getp,↓s_getp0,↓s_con,↓s_os0,↓s_os1,↓s_mov,↓s_bin,↓s_call,s_same,b_lss,b_add,b_sub,↓iteN_true,↓iteN_false,iteN_true,iteN_false,Nat.zero_add,Nat.reduceEqDiff,decide_true,decide_false]
      exact rfl,⟨by omega,(by (simp only [s_getp,s_getp0,Nat.reduceEqDiff,decide_false,iteN_false,t0]; try rfl)),(by (simp only [s_getp,s_getp0,Nat.reduceEqDiff,decide_false,iteN_false,t2]; try rfl)),(by (simp only [s_getp,s_getp0,Nat.reduceEqDiff,decide_false,iteN_false,t3]; try rfl)),(by (simp only [s_getp,decide_true,iteN_true]; try rfl)),?_,eq.put _⟩⟩
    rw [h_put_same,wp]
theorem sched_loop (e : EnSha E) (x : NoSha X) (N n p q r : Nat) (hn : 64 < n) (hpq : p ≠ q) (st blk : List Nat) (len : Nat) (md : Md) (h0 : H) (h1 : st.length = 8) (h2 : blk.length = 64) (hp : h0.get p = some (.cells (sumC st blk len) md)) (T : Tr V) (h : H) (I : SI p q r st blk len md h0 0 T h) :
    ∃ T' h',loopN (evC (callX E X (N + 1)) 89 n none L_sha_Sum_schedule_0) n ⟨T,[],h⟩ = some (.exit 0,⟨T',[],h'⟩) ∧ SI p q r st blk len md h0 64 T' h' :=
  loop_go (SI p q r st blk len md h0) 64 (.exit 0) (by intro h; cases h) _ (sched_step e x N n p q r hpq st blk len md h0 h1 h2 hp) (fun T h I => by
    obtain ⟨a,t0,t2,t3,t10,gq,eq⟩ := I
    have c0 : decide (((64 : Nat) : Int) < 64) = false := rfl
    refine ⟨_,_,by
      simp (config := {maxSteps := 2000000}) (disch := first | omega | (simp only [List.length_cons,List.length_nil,List.length_append,List.length_drop]; omega)) only [L_sha_Sum_schedule_0,t10,Int.reduceLT,Int.cast_ofNat_Int,↓s_ops,↓s_seq,↓s_cond,↓s_exit,↓s_nil,↓s_op,↓s_bindS,s_bindS,↓s_bindE,s_bindE,s_bindE_exit,s_norm,↓s_condV,s_condV,↓s_getp,↓s_con,↓s_bin,s_same,b_lss,↓iteN_true,↓iteN_false,iteN_true,iteN_false,decide_true,decide_false]
      exact rfl,⟨a,(by (simp only [s_getp,Nat.reduceEqDiff,decide_false,iteN_false,t0]; try rfl)),(by (simp only [s_getp,Nat.reduceEqDiff,decide_false,iteN_false,t2]; try rfl)),(by (simp only [s_getp,Nat.reduceEqDiff,decide_false,iteN_false,t3]; try rfl)),(by (simp only [s_getp,Nat.reduceEqDiff,decide_false,iteN_false,t10]; try rfl)),gq,eq⟩⟩) 64 0 rfl n hn T h I
theorem sched_go (e : EnSha E) (x : NoSha X) (N p : Nat) (st blk : List Nat) (len : Nat) (md : Md) (h : H) (h1 : st.length = 8) (h2 : blk.length = 64) (hp : h.get p = some (.cells (sumC st blk len) md)) (hpn : p < h.next) :
    ∃ h',callX E X (N + 70) (.fn k_sha_Sum_schedule) [.ptr (some (p,0))] h = some (.agg (ofI .u32 (wsN blk 64)),h') ∧ Kp h h' := by
  rw [x_cfn e.sched _ _ (Nat.le_of_ble_eq_true rfl) (x.sched _ _)]
  have fin : ∀ T,SI p (h.next + 1) h.next st blk len md ((h.new (.cells (List.replicate 64 (.int .u32 0)) .rw)).new (.cells (List.replicate 64 (.int .u32 0)) .rw)) 0 T ((h.new (.cells (List.replicate 64 (.int .u32 0)) .rw)).new (.cells (List.replicate 64 (.int .u32 0)) .rw)) →
      ∃ h',fnEnd [.cell 2 (some 64)] (bindE (blockE 0 (loopN (evC (callX E X (N + 69)) 89 (N + 69) none L_sha_Sum_schedule_0) (N + 69) ⟨T,[],(h.new (.cells (List.replicate 64 (.int .u32 0)) .rw)).new (.cells (List.replicate 64 (.int .u32 0)) .rw)⟩)) (evC (callX E X (N + 69)) 89 (N + 69) none R_sha_Sum_schedule_0)) = some (.agg (ofI .u32 (wsN blk 64)),h') ∧ Kp h h' := by
    intro T I
    obtain ⟨T',h',r1,_,t0,t2,t3,t10,gq,eq⟩ := sched_loop e x (N + 68) (N + 69) p (h.next + 1) h.next (by omega) (by omega) st blk len md _ h1 h2 (by rw [h_new_ne _ _ (by rw [h_next_new]; omega),h_new_ne _ _ (by omega),hp]) T _ I
    rw [r1]
    have wc : wCells blk 64 = ofI .u32 (wsN blk 64) := by unfold wCells; simp
    rw [wc] at gq
    have hl : (ofI .u32 (wsN blk 64)).length = 64 := by rw [ofI_len,wsN_len]
    have gr : h'.get h.next = some (.cells (List.replicate 64 (.int .u32 0)) .rw) := by
      rw [eq.2 _ (by omega),h_new_ne _ _ (by rw [h_next_new]; omega),h_new_same]
    have K : Kp h h' := ⟨by rw [eq.1]; simp only [h_next_new]; omega,fun i hi => by rw [eq.2 _ (by omega),h_new_ne _ _ (by rw [h_next_new]; omega),h_new_ne _ _ (by omega)]⟩
    have hb : ∀ v ∈ ofI .u32 (wsN blk 64),plainV v = true := by
      generalize wsN blk 64 = l
      induction l with
      | nil => intro v hv; cases hv
      | cons a r ih => intro v hv; rcases List.mem_cons.1 hv with rfl | hv; rfl; exact ih v hv
    generalize ofI .u32 (wsN blk 64) = ws at *
    have ld : loadE (some (.cells ws .rw)) (some 64) 0 = some (.agg ws) := by rw [m_loadN,x_readAll _ 64 hl]
    have S : ∀ (h : H) (i : Nat),storeV h 64 (.ptr (some (i,0))) (.agg ws) = storeE (h.get i) h i 0 ws := fun h i => m_storeA h 64 i 0 _ (by rw [hl]; simp only [Bool.and_eq_true,List.all_eq_true]; exact ⟨rfl,hb⟩)
    have W : writeN (List.replicate 64 (.int .u32 0)) 0 ws = ws := by rw [w_zero,hl]; simp
    have ste : ∀ (h : H),storeE (some (.cells (List.replicate 64 (.int .u32 0)) .rw)) h (Nat.succ 0 * 0 + h'.next) 0 ws = storeE (some (.cells (List.replicate 64 (.int .u32 0)) .rw)) h (Nat.succ 0 * 0 + h'.next) 0 ws := fun _ => rfl
    have st2 : storeE (some (.cells (List.replicate 64 (.int .u32 0)) .rw)) h' h.next 0 ws = some (h'.put h.next (.cells ws .rw)) := by rw [m_storeE _ _ _ _ _ (by rw [hl]; simp),W]
    simp (config := {maxSteps := 2000000}) (disch := first | omega | (simp only [List.length_cons,List.length_nil,List.length_append,List.length_drop]; omega)) only [R_sha_Sum_schedule_0,t2,t3,gq,gr,ld,S,st2,↓h_put_get,↓s_load,m_load,↓m_st,m_stE,s_resc,s_consR,s_res0,↓s_ops,↓s_seq,↓s_ret,↓s_nil,↓s_op,↓s_bindS,s_bindS,↓s_bindE,s_bindE,s_norm,s_block_exit,↓s_getp,↓s_getp0,s_same,s_end,s_res0,s_tup1,↓iteN_true,↓iteN_false,iteN_true,iteN_false,Nat.reduceEqDiff,decide_true,decide_false,if_true]
    exact ⟨_,rfl,K.put _ (Nat.le_refl _)⟩
  obtain ⟨R,eR⟩ : ∃ R,R_sha_Sum_schedule_0 = R := ⟨_,rfl⟩
  obtain ⟨L,eL⟩ : ∃ R,L_sha_Sum_schedule_0 = R := ⟨_,rfl⟩
  have z64 : List.replicate 64 (V.int .u32 0) = [.int .u32 0,.int .u32 0,.int .u32 0,.int .u32 0,.int .u32 0,.int .u32 0,.int .u32 0,.int .u32 0,.int .u32 0,.int .u32 0,.int .u32 0,.int .u32 0,.int .u32 0,.int .u32 0,.int .u32 0,.int .u32 0,.int .u32 0,.int .u32 0,.int .u32 0,.int .u32 0,.int .u32 0,.int .u32 0,.int .u32 0,.int .u32 0,.int .u32 0,.int .u32 0,.int .u32 0,.int .u32 0,.int .u32 0,.int .u32 0,.int .u32 0,.int .u32 0,.int .u32 0,.int .u32 0,.int .u32 0,.int .u32 0,.int .u32 0,.int .u32 0,.int .u32 0,.int .u32 0,.int .u32 0,.int .u32 0,.int .u32 0,.int .u32 0,.int .u32 0,.int .u32 0,.int .u32 0,.int .u32 0,.int .u32 0,.int .u32 0,.int .u32 0,.int .u32 0,.int .u32 0,.int .u32 0,.int .u32 0,.int .u32 0,.int .u32 0,.int .u32 0,.int .u32 0,.int .u32 0,.int .u32 0,.int .u32 0,.int .u32 0,.int .u32 0] := rfl
  have w0 : wCells blk 0 = List.replicate 64 (V.int .u32 0) := rfl
  rw [eR,eL] at fin
  rw [eR,eL,← z64]
  generalize List.replicate 64 (V.int .u32 0) = z at *
  simp (config := {maxSteps := 2000000}) (disch := first | omega | (simp only [List.length_cons,List.length_nil,List.length_append,List.length_drop]; omega)) only [↓l_loop,↓l_succ,h_next_new,↓s_alloc,↓s_ops,↓s_seq,↓s_block,↓s_nil,↓s_op,↓s_bindS,s_bindS,↓s_bindE,s_bindE,s_norm,↓s_con,↓s_list0,↓s_list1,↓s_mov]
  exact fin _ ⟨by omega,(by (simp only [s_getp,Nat.reduceEqDiff,decide_false,iteN_false]; try rfl)),(by (simp only [s_getp,Nat.reduceEqDiff,decide_false,decide_true,iteN_false,iteN_true]; try rfl)),(by (simp only [s_getp,Nat.reduceEqDiff,decide_false,decide_true,iteN_false,iteN_true]; try rfl)),(by (simp only [s_getp,decide_true,iteN_true]; try rfl)),by rw [w0]; exact h_new_same' _ _ rfl,Eqx.refl _ _⟩
theorem mix_step (e : EnSha E) (x : NoSha X) (N n p qc qs r : Nat) (ws : List Nat) (hw : ws.length = 64) (s : S8) (h0 : H) (gc : h0.get qc = some (.cells (ofI .u32 cubes) .rw)) (gs : h0.get qs = some (.cells (ofI .u32 ws) .rw)) :
    ∀ i T h,i < 64 → MI p qc qs r ws s h0 i T h → ∃ T' h',evC (callX E X (N + 2)) 140 n none L_sha_Sum_mix_0 ⟨T,[],h⟩ = some (.normal,⟨T',[],h'⟩) ∧ MI p qc qs r ws s h0 (i + 1) T' h' := by
  intro i T h hi ⟨_,hh,t0,t2,t3,t4,t5,t6,t7,t8,t9,t10,t11,t62⟩
  subst hh
  have c0 : decide ((i : Int) < 64) = true := decide_eq_true (by omega)
  have wi : wr .i64 ((i : Int) + 1) = ((i + 1 : Nat) : Int) := by rw [wr_i64 (by omega)]; omega
  have ix : idx (i : Int) 64 = some i := idxn hi
  have kg : (ofI .u32 cubes)[i]? = some (.int .u32 (cubes.getD i 0 : Nat)) := ofI_get _ _ _ (by rw [show cubes.length = 64 from rfl]; exact hi)
  have wg : (ofI .u32 ws)[i]? = some (.int .u32 (ws.getD i 0 : Nat)) := ofI_get _ _ _ (by omega)
  have en : rnds ws s (i + 1) = rnd (rnds ws s i) (cubes.getD i 0) (ws.getD i 0) := rfl
  have tA := fun a h => (turnedL e x N a h).1
  have tB := fun a h => (turnedL e x N a h).2
  generalize ofI .u32 cubes = cC at *
  generalize ofI .u32 ws = cW at *
  generalize cubes.getD i 0 = kv at *
  generalize ws.getD i 0 = wv at *
  obtain ⟨s',es⟩ : ∃ s',rnds ws s i = s' := ⟨_,rfl⟩
  rw [es] at t4 t5 t6 t7 t8 t9 t10 t11 en
  obtain ⟨a,b,c,d,f,g,u,v⟩ := s'
  simp only at t4 t5 t6 t7 t8 t9 t10 t11
  refine ⟨_,_,by
    simp (config := {maxSteps := 2000000}) (disch := first | omega | (simp only [List.length_cons,List.length_nil,List.length_append,List.length_drop]; omega)) only [L_sha_Sum_mix_0,t2,t3,t4,t5,t6,t7,t8,t9,t10,t11,t62,gc,gs,kg,wg,c0,wi,ix,tA,tB,vbeq_int,↓b_xor32,↓b_and32,↓u_not32,b_xor32,b_and32,u_not32,w32ad,Nat.zero_add,Nat.mul_one,↓s_evD,↓s_dnil,↓s_dL,↓s_dRj,↓s_dB,↓s_bindD,s_bindD,s_finDx,s_addP0,↓s_bump0,s_ok0,↓s_ok1,s_okR0,↓s_okR1,↓s_okE,s_okE,s_okE1,s_nth0,s_nthS,Bool.and_self,↓s_load,m_load,↓m_load1,m_load1,↓x_idxA,x_idxAE,x_addrE,↓s_skip,↓s_ops,↓s_dops,↓s_seq,↓s_cond,↓s_block,↓s_nil,↓s_op,↓s_bindS,s_bindS,↓s_bindE,s_bindE,s_norm,↓s_condV,s_condV,s_block_normal,↓s_getp,↓s_con,↓s_os0,↓s_os1,↓s_mov,↓s_bin,↓s_un,↓s_call,s_same,b_lss,b_add,↓iteN_true,↓iteN_false,iteN_true,iteN_false,Nat.zero_add,Nat.reduceEqDiff,decide_true,decide_false]
    exact rfl,⟨by omega,rfl,(by (simp only [s_getp,Nat.reduceEqDiff,decide_false,iteN_false,t0]; try rfl)),(by (simp only [s_getp,Nat.reduceEqDiff,decide_false,iteN_false,t2]; try rfl)),(by (simp only [s_getp,Nat.reduceEqDiff,decide_false,iteN_false,t3]; try rfl)),?_,?_,?_,?_,?_,?_,?_,?_,(by (simp only [s_getp,decide_true,iteN_true]; try rfl))⟩⟩
  all_goals (rw [en]; simp only [rnd]; (simp only [s_getp,Nat.reduceEqDiff,decide_false,decide_true,iteN_false,iteN_true]; try rfl))
theorem mix_loop (e : EnSha E) (x : NoSha X) (N n p qc qs r : Nat) (hn : 64 < n) (ws : List Nat) (hw : ws.length = 64) (s : S8) (h0 : H) (gc : h0.get qc = some (.cells (ofI .u32 cubes) .rw)) (gs : h0.get qs = some (.cells (ofI .u32 ws) .rw)) (T : Tr V) (h : H) (I : MI p qc qs r ws s h0 0 T h) :
    ∃ T' h',loopN (evC (callX E X (N + 2)) 140 n none L_sha_Sum_mix_0) n ⟨T,[],h⟩ = some (.exit 0,⟨T',[],h'⟩) ∧ MI p qc qs r ws s h0 64 T' h' :=
  loop_go (MI p qc qs r ws s h0) 64 (.exit 0) (by intro h; cases h) _ (mix_step e x N n p qc qs r ws hw s h0 gc gs) (fun T h I => by
    obtain ⟨a,hh,t0,t2,t3,t4,t5,t6,t7,t8,t9,t10,t11,t62⟩ := I
    have c0 : decide (((64 : Nat) : Int) < 64) = false := rfl
    refine ⟨_,_,by
      simp (config := {maxSteps := 2000000}) (disch := first | omega | (simp only [List.length_cons,List.length_nil,List.length_append,List.length_drop]; omega)) only [L_sha_Sum_mix_0,t62,Int.reduceLT,Int.cast_ofNat_Int,↓s_ops,↓s_seq,↓s_cond,↓s_exit,↓s_nil,↓s_op,↓s_bindS,s_bindS,↓s_bindE,s_bindE,s_bindE_exit,s_norm,↓s_condV,s_condV,↓s_getp,↓s_con,↓s_bin,s_same,b_lss,↓iteN_true,↓iteN_false,iteN_true,iteN_false,decide_true,decide_false]
      exact rfl,⟨a,hh,(by (simp only [s_getp,Nat.reduceEqDiff,decide_false,iteN_false,t0]; try rfl)),(by (simp only [s_getp,Nat.reduceEqDiff,decide_false,iteN_false,t2]; try rfl)),(by (simp only [s_getp,Nat.reduceEqDiff,decide_false,iteN_false,t3]; try rfl)),(by (simp only [s_getp,Nat.reduceEqDiff,decide_false,iteN_false,t4]; try rfl)),(by (simp only [s_getp,Nat.reduceEqDiff,decide_false,iteN_false,t5]; try rfl)),(by (simp only [s_getp,Nat.reduceEqDiff,decide_false,iteN_false,t6]; try rfl)),(by (simp only [s_getp,Nat.reduceEqDiff,decide_false,iteN_false,t7]; try rfl)),(by (simp only [s_getp,Nat.reduceEqDiff,decide_false,iteN_false,t8]; try rfl)),(by (simp only [s_getp,Nat.reduceEqDiff,decide_false,iteN_false,t9]; try rfl)),(by (simp only [s_getp,Nat.reduceEqDiff,decide_false,iteN_false,t10]; try rfl)),(by (simp only [s_getp,Nat.reduceEqDiff,decide_false,iteN_false,t11]; try rfl)),(by (simp only [s_getp,Nat.reduceEqDiff,decide_false,iteN_false,t62]; try rfl))⟩⟩) 64 0 rfl n hn T h I
theorem mix_step2 (Q : Orc) (n p : Nat) (vs st blk : List Nat) (len : Nat) (hv : vs.length = 8) (h1 : st.length = 8) (h2 : blk.length = 64) (h0 : H) :
    ∀ i T h,i < 8 → MJ p vs st blk len h0 i T h → ∃ T' h',evC Q 140 n none L_sha_Sum_mix_1 ⟨T,[],h⟩ = some (.normal,⟨T',[],h'⟩) ∧ MJ p vs st blk len h0 (i + 1) T' h' := by
  intro i T h hi ⟨_,t0,t123,t124,gp,eq⟩
  have c0 : decide ((i : Int) < 8) = true := decide_eq_true (by omega)
  have wi : wr .i64 ((i : Int) + 1) = ((i + 1 : Nat) : Int) := by rw [wr_i64 (by omega)]; omega
  have ix : idx (i : Int) 8 = some i := idxn hi
  have vg : partV (ofI .u32 vs) i (agSz false 1) = some (.int .u32 (vs.getD i 0 : Nat)) := ofI_get _ _ _ (by omega)
  have sg := sumC_s (updN st vs i) blk len i (by rw [updN_len,h1]) hi
  have su := sumC_set (updN st vs i) blk len i (ad ((updN st vs i).getD i 0) (vs.getD i 0)) (by rw [updN_len,h1]) h2 hi
  have sl := sumC_len (updN st vs i) blk len (by rw [updN_len,h1]) h2
  have en : updN st vs (i + 1) = (updN st vs i).set i (ad ((updN st vs i).getD i 0) (vs.getD i 0)) := rfl
  rw [← en] at su
  generalize sumC (updN st vs i) blk len = sc at *
  obtain ⟨cv,ecv⟩ : ∃ cv,ofI .u32 vs = cv := ⟨_,rfl⟩
  rw [ecv] at t123 vg
  have ste : ∀ (h : H) (v : V),storeE (some (.cells sc .rw)) h p i [v] = some (h.put p (.cells (writeN sc i [v]) .rw)) := fun h v => m_storeE _ _ _ _ _ (by rw [sl]; simp only [List.length_cons,List.length_nil]; omega)
  refine ⟨_,_,by
    simp (config := {maxSteps := 2000000}) (disch := first | omega | (simp only [List.length_cons,List.length_nil,List.length_append,List.length_drop]; omega)) only [L_sha_Sum_mix_1,t0,t123,t124,gp,vg,sg,c0,wi,ix,ste,x_idxArr,w32ad,↓x_fieldAddr,x_fieldV,↓s_nilchk,x_nilchk,Nat.zero_add,Nat.add_zero,Nat.mul_one,↓s_evD,↓s_dnil,↓s_dL,↓s_dR,↓s_dB,↓s_bindD,s_bindD,s_finD,s_addP0,↓s_bump0,Nat.add_zero,↓s_load,m_load,↓m_load1,m_load1,↓m_st,m_stE,m_storeI,↓x_idxA,x_idxAE,x_addrE,↓s_skip,↓s_ops,↓s_dops,↓s_seq,↓s_cond,↓s_block,↓s_nil,↓s_op,↓s_bindS,s_bindS,↓s_bindE,s_bindE,s_norm,↓s_condV,s_condV,s_block_normal,↓s_getp,↓s_getp0,↓s_con,↓s_mov,↓s_bin,s_same,b_lss,b_add,↓iteN_true,↓iteN_false,iteN_true,iteN_false,Nat.zero_add,Nat.reduceEqDiff,decide_true,decide_false]
    exact rfl,⟨by omega,(by (simp only [s_getp,s_getp0,Nat.reduceEqDiff,decide_false,iteN_false,t0]; try rfl)),by rw [ecv]; (simp only [s_getp,s_getp0,Nat.reduceEqDiff,decide_false,iteN_false,t123]; try rfl),(by (simp only [s_getp,decide_true,iteN_true]; try rfl)),by rw [h_put_same,su],eq.put _⟩⟩
theorem mix_loop2 (Q : Orc) (n p : Nat) (hn : 8 < n) (vs st blk : List Nat) (len : Nat) (hv : vs.length = 8) (h1 : st.length = 8) (h2 : blk.length = 64) (h0 : H) (T : Tr V) (h : H) (I : MJ p vs st blk len h0 0 T h) :
    ∃ T' h',loopN (evC Q 140 n none L_sha_Sum_mix_1) n ⟨T,[],h⟩ = some (.exit 2,⟨T',[],h'⟩) ∧ MJ p vs st blk len h0 8 T' h' :=
  loop_go (MJ p vs st blk len h0) 8 (.exit 2) (by intro h; cases h) _ (mix_step2 Q n p vs st blk len hv h1 h2 h0) (fun T h I => by
    obtain ⟨a,t0,t123,t124,gp,eq⟩ := I
    have c0 : decide (((8 : Nat) : Int) < 8) = false := rfl
    refine ⟨_,_,by
      simp (config := {maxSteps := 2000000}) (disch := first | omega | (simp only [List.length_cons,List.length_nil,List.length_append,List.length_drop]; omega)) only [L_sha_Sum_mix_1,t124,Int.reduceLT,Int.cast_ofNat_Int,↓s_ops,↓s_seq,↓s_cond,↓s_exit,↓s_nil,↓s_op,↓s_bindS,s_bindS,↓s_bindE,s_bindE,s_bindE_exit,s_norm,↓s_condV,s_condV,↓s_getp,↓s_con,↓s_bin,s_same,b_lss,↓iteN_true,↓iteN_false,iteN_true,iteN_false,decide_true,decide_false]
      exact rfl,⟨a,(by (simp only [s_getp,Nat.reduceEqDiff,decide_false,iteN_false,t0]; try rfl)),(by (simp only [s_getp,Nat.reduceEqDiff,decide_false,iteN_false,t123]; try rfl)),(by (simp only [s_getp,Nat.reduceEqDiff,decide_false,iteN_false,t124]; try rfl)),gp,eq⟩⟩) 8 0 rfl n hn T h I
theorem mix_go (e : EnSha E) (x : NoSha X) (N p : Nat) (st blk : List Nat) (len : Nat) (h : H) (h1 : st.length = 8) (h2 : blk.length = 64) (hp : h.get p = some (.cells (sumC st blk len) .rw)) (hpn : p < h.next) :
    ∃ h',callX E X (N + 75) (.fn k_sha_Sum_mix) [.ptr (some (p,0))] h = some (.tup [],h') ∧ h'.get p = some (.cells (sumC (mixV st blk) blk len) .rw) ∧ Kq p h h' := by
  rw [x_cfn e.mix _ _ (Nat.le_of_ble_eq_true rfl) (x.mix _ _)]
  obtain ⟨ha,ra,ka⟩ := cube_go e x (N + 73) h
  obtain ⟨hb,rb,kb⟩ := sched_go e x (N + 4) p st blk len .rw ha h1 h2 (by rw [ka.2 _ hpn,hp]) (Nat.lt_of_lt_of_le hpn ka.1)
  have hbp : hb.get p = some (.cells (sumC st blk len) .rw) := by rw [kb.2 _ (Nat.lt_of_lt_of_le hpn ka.1),ka.2 _ hpn,hp]
  have hbn : p < hb.next := Nat.lt_of_lt_of_le hpn (Nat.le_trans ka.1 kb.1)
  have hab := ka.trans kb
  have hws : (wsN blk 64).length = 64 := wsN_len _ _
  have fin : ∀ (T : Tr V) (h3 : H),h3.get p = some (.cells (sumC st blk len) .rw) → Kp hb h3 → h3.get hb.next = some (.cells (ofI .u32 cubes) .rw) → h3.get (hb.next + 1) = some (.cells (ofI .u32 (wsN blk 64)) .rw) → MI p hb.next (hb.next + 1) 0 (wsN blk 64) (s8of st) h3 0 T h3 →
      ∃ h',fnEnd [] (bindE (blockE 0 (loopN (evC (callX E X (N + 74)) 140 (N + 74) none L_sha_Sum_mix_0) (N + 74) ⟨T,[],h3⟩)) (evC (callX E X (N + 74)) 140 (N + 74) none R_sha_Sum_mix_0)) = some (.tup [],h') ∧ h'.get p = some (.cells (sumC (mixV st blk) blk len) .rw) ∧ Kq p h h' := by
    intro T h3 g1 k3 g2 g3 I
    obtain ⟨T',h',r1,a,hh,t0,t2,t3,t4,t5,t6,t7,t8,t9,t10,t11,t62⟩ := mix_loop e x (N + 72) (N + 74) p hb.next (hb.next + 1) 0 (by omega) _ hws _ h3 g2 g3 T h3 I
    subst hh
    rw [r1]
    have fin2 : ∀ T,MJ p (s8l (rnds (wsN blk 64) (s8of st) 64)) st blk len h' 0 T h' → ∃ h2,fnEnd [] (blockE 2 (loopN (evC (callX E X (N + 74)) 140 (N + 74) none L_sha_Sum_mix_1) (N + 74) ⟨T,[],h'⟩)) = some (.tup [],h2) ∧ h2.get p = some (.cells (sumC (mixV st blk) blk len) .rw) ∧ Kq p h h2 := by
      intro T J
      obtain ⟨T2,h2',r2,b,u0,u123,u124,gp,eq⟩ := mix_loop2 (callX E X (N + 74)) (N + 74) p (by omega) _ st blk len rfl h1 h2 h' T h' J
      rw [r2]
      refine ⟨h2',?_,gp,⟨by rw [eq.1]; exact Nat.le_trans hab.1 k3.1,fun i hi hip => by rw [eq.2 _ hip,k3.2 _ (Nat.lt_of_lt_of_le hi hab.1),hab.2 _ hi]⟩⟩
      simp (config := {maxSteps := 2000000}) (disch := first | omega | (simp only [List.length_cons,List.length_nil,List.length_append,List.length_drop]; omega)) only [e_tup0,s_block_exit,s_end',s_res0,if_true]
    obtain ⟨R,eR⟩ : ∃ R,L_sha_Sum_mix_1 = R := ⟨_,rfl⟩
    rw [eR] at fin2
    generalize rnds (wsN blk 64) (s8of st) 64 = s at *
    have F : ∀ T : Tr V,fillV [.int .u32 0,.int .u32 0,.int .u32 0,.int .u32 0,.int .u32 0,.int .u32 0,.int .u32 0,.int .u32 0] [(0,1,V.int .u32 (s.a : Nat)),(1,1,V.int .u32 (s.b : Nat)),(2,1,V.int .u32 (s.c : Nat)),(3,1,V.int .u32 (s.d : Nat)),(4,1,V.int .u32 (s.e : Nat)),(5,1,V.int .u32 (s.f : Nat)),(6,1,V.int .u32 (s.g : Nat)),(7,1,V.int .u32 (s.h : Nat))] = some (ofI .u32 (s8l s)) := fun _ => fill_seq0 .u32 (s8l s) [.int .u32 0,.int .u32 0,.int .u32 0,.int .u32 0,.int .u32 0,.int .u32 0,.int .u32 0,.int .u32 0] rfl
    simp (config := {maxSteps := 2000000}) (disch := first | omega | (simp only [List.length_cons,List.length_nil,List.length_append,List.length_drop]; omega)) only [R_sha_Sum_mix_0,eR,t4,t5,t6,t7,t8,t9,t10,t11,↓x_build,x_aggO,Nat.zero_add,↓l_loop,↓l_succ,w_zero,w_succ,↓x_P0,↓x_P1,x_fill0,x_filli,List.length_cons,List.length_nil,List.cons_append,List.drop_succ_cons,List.drop_zero,List.drop_nil,List.nil_append,↓s_ops,↓s_seq,↓s_block,↓s_nil,↓s_op,↓s_bindS,s_bindS,↓s_bindE,s_bindE,s_norm,s_block_exit,↓s_getp,↓s_con,↓s_mov,s_same,↓iteN_true,↓iteN_false,iteN_true,iteN_false,Nat.zero_add,List.nil_append,List.append_nil,Nat.reduceEqDiff,decide_true,decide_false,if_true]
    exact fin2 _ ⟨by omega,(by (simp only [s_getp,Nat.reduceEqDiff,decide_false,iteN_false,t0]; try rfl)),(by (simp only [s_getp,Nat.reduceEqDiff,decide_false,decide_true,iteN_false,iteN_true]; try rfl)),(by (simp only [s_getp,decide_true,iteN_true]; try rfl)),by exact g1,Eqx.refl _ _⟩
  obtain ⟨R,eR⟩ : ∃ R,R_sha_Sum_mix_0 = R := ⟨_,rfl⟩
  obtain ⟨L,eL⟩ : ∃ R,L_sha_Sum_mix_0 = R := ⟨_,rfl⟩
  have z64 : List.replicate 64 (V.int .u32 0) = [.int .u32 0,.int .u32 0,.int .u32 0,.int .u32 0,.int .u32 0,.int .u32 0,.int .u32 0,.int .u32 0,.int .u32 0,.int .u32 0,.int .u32 0,.int .u32 0,.int .u32 0,.int .u32 0,.int .u32 0,.int .u32 0,.int .u32 0,.int .u32 0,.int .u32 0,.int .u32 0,.int .u32 0,.int .u32 0,.int .u32 0,.int .u32 0,.int .u32 0,.int .u32 0,.int .u32 0,.int .u32 0,.int .u32 0,.int .u32 0,.int .u32 0,.int .u32 0,.int .u32 0,.int .u32 0,.int .u32 0,.int .u32 0,.int .u32 0,.int .u32 0,.int .u32 0,.int .u32 0,.int .u32 0,.int .u32 0,.int .u32 0,.int .u32 0,.int .u32 0,.int .u32 0,.int .u32 0,.int .u32 0,.int .u32 0,.int .u32 0,.int .u32 0,.int .u32 0,.int .u32 0,.int .u32 0,.int .u32 0,.int .u32 0,.int .u32 0,.int .u32 0,.int .u32 0,.int .u32 0,.int .u32 0,.int .u32 0,.int .u32 0,.int .u32 0] := rfl
  rw [eR,eL] at fin
  rw [eR,eL,← z64]
  have cl : (ofI .u32 cubes).length = 64 := rfl
  have wl : (ofI .u32 (wsN blk 64)).length = 64 := by rw [ofI_len,wsN_len]
  have zl : (List.replicate 64 (V.int .u32 0)).length = 64 := rfl
  have pl : ∀ l : List Nat,∀ v ∈ ofI .u32 l,plainV v = true := by
    intro l
    induction l with
    | nil => intro v hv; cases hv
    | cons a r ih => intro v hv; rcases List.mem_cons.1 hv with rfl | hv; rfl; exact ih v hv
  have S : ∀ (h : H) (i : Nat) (l : List Nat),(ofI .u32 l).length = 64 → storeV h 64 (.ptr (some (i,0))) (.agg (ofI .u32 l)) = storeE (h.get i) h i 0 (ofI .u32 l) := fun h i l hl => m_storeA h 64 i 0 _ (by rw [hl]; simp only [Bool.and_eq_true,List.all_eq_true]; exact ⟨rfl,pl l⟩)
  have s1 := fun h i => S h i cubes cl
  have s2 := fun h i => S h i (wsN blk 64) wl
  have W : ∀ l : List V,l.length = 64 → writeN (List.replicate 64 (.int .u32 0)) 0 l = l := fun l hl => by rw [w_zero,hl]; simp
  have w1 := W _ cl
  have w2 := W _ wl
  have st1 : ∀ h i,storeE (some (.cells (List.replicate 64 (.int .u32 0)) .rw)) h i 0 (ofI .u32 cubes) = some (h.put i (.cells (ofI .u32 cubes) .rw)) := fun h i => by rw [m_storeE _ _ _ _ _ (by rw [cl,zl]; omega),w1]
  have st2 : ∀ h i,storeE (some (.cells (List.replicate 64 (.int .u32 0)) .rw)) h i 0 (ofI .u32 (wsN blk 64)) = some (h.put i (.cells (ofI .u32 (wsN blk 64)) .rw)) := fun h i => by rw [m_storeE _ _ _ _ _ (by rw [wl,zl]; omega),w2]
  have q0 := sumC_s st blk len 0 h1 (by omega)
  have q1 := sumC_s st blk len 1 h1 (by omega)
  have q2 := sumC_s st blk len 2 h1 (by omega)
  have q3 := sumC_s st blk len 3 h1 (by omega)
  have q4 := sumC_s st blk len 4 h1 (by omega)
  have q5 := sumC_s st blk len 5 h1 (by omega)
  have q6 := sumC_s st blk len 6 h1 (by omega)
  have q7 := sumC_s st blk len 7 h1 (by omega)
  have ne1 : (hb.next = p) = False := by simp; omega
  have ne2 : (hb.next + 1 = p) = False := by simp; omega
  generalize sumC st blk len = sc at *
  generalize List.replicate 64 (V.int .u32 0) = z at *
  have x0 : idx (0:Int) 8 = some 0 := rfl
  have x1 : idx (1:Int) 8 = some 1 := rfl
  have x2 : idx (2:Int) 8 = some 2 := rfl
  have x3 : idx (3:Int) 8 = some 3 := rfl
  have x4 : idx (4:Int) 8 = some 4 := rfl
  have x5 : idx (5:Int) 8 = some 5 := rfl
  have x6 : idx (6:Int) 8 = some 6 := rfl
  have x7 : idx (7:Int) 8 = some 7 := rfl
  simp (config := {maxSteps := 2000000}) (disch := first | omega | (simp only [List.length_cons,List.length_nil,List.length_append,List.length_drop]; omega)) only [ra,rb,s1,s2,st1,st2,hbp,ne1,ne2,q0,q1,q2,q3,q4,q5,q6,q7,x0,x1,x2,x3,x4,x5,x6,x7,↓x_fieldAddr,x_fieldV,↓s_nilchk,x_nilchk,Nat.zero_add,Nat.add_zero,Nat.mul_one,↓s_evD,↓s_dnil,↓s_dL,↓s_dR,↓s_bindD,s_bindD,s_finD,s_addP0,↓s_bump0,Nat.add_zero,↓l_loop,↓l_succ,↓h_put_get,↓h_new_get,h_next_put,h_next_new,Nat.add_assoc,Nat.add_eq_left,Nat.left_eq_add,↓s_load,m_load,↓m_load1,m_load1,↓m_st,m_stE,↓s_alloc,↓x_idxA,x_idxAE,x_addrE,Nat.reduceAdd,↓s_ops,↓s_dops,↓s_seq,↓s_block,↓s_nil,↓s_op,↓s_bindS,s_bindS,↓s_bindE,s_bindE,s_norm,↓s_getp,↓s_getp0,↓s_get,↓s_con,↓s_os0,↓s_os1,↓s_list0,↓s_list1,↓s_mov,↓s_call,s_same,↓iteN_true,↓iteN_false,iteN_true,iteN_false,Nat.zero_add,Nat.reduceEqDiff,decide_true,decide_false]
  refine fin _ _ (by simp only [h_put_get,h_new_get,h_next_new,ne1,ne2,decide_false,iteN_false,hbp]) ((((Kp.new _ _).trans (Kp.new _ _)).put _ (Nat.le_refl _)).put _ (Nat.le_succ _)) (by rw [h_put_ne _ _ (by omega),h_put_same]) (by rw [h_put_same]) ⟨by omega,rfl,?_,?_,?_,?_,?_,?_,?_,?_,?_,?_,?_,?_⟩
  all_goals (simp only [s_getp,s_getp0,Nat.reduceEqDiff,decide_false,decide_true,iteN_false,iteN_true]; try rfl)
structure FI (p a0 : Nat) (T0 : Tr V) (h0 : H) (fin : Sm) (rest : List Nat) (T : Tr V) (h : H) : Prop where
  t0 : evO T (.t 0) = .yld (a0 + 4)
  t1 : evO T (.t 1) = .ptr (some (a0 + 2,0))
  t2 : evO T (.t 2) = .ptr (some (a0 + 1,0))
  nx : a0 + 5 ≤ h.next
  b0 : h.get a0 = some (.cells [.ptr (some (p,0))] .rw)
  b1 : h.get (a0 + 1) = some (.cells [.ptr (some (p,0))] .rw)
  b3 : h.get (a0 + 3) = some .defers
  b4 : h.get (a0 + 4) = some (.loop 0 none 18 T0 [12] A_sha_Sum_Write_0 B_sha_Sum_Write_0 (a0 + 3))
  sv : ∃ a c e,h.get (a0 + 2) = some (.cells [.slice a rest.length c e] .rw) ∧ Src h0 p a0 a e rest
  gp : ∃ s : Sm,h.get p = some (.cells (sumC s.st s.blk s.len) .rw) ∧ SmOk s ∧ absorb s rest = fin
  fr : ∀ i,i < a0 → i ≠ p → h.get i = h0.get i
  pa : p < a0
theorem fill_step (e : EnSha E) (x : NoSha X) (M n p a0 : Nat) (T0 : Tr V) (hT : evO T0 (.t 2) = .ptr (some (a0,0))) (h0 : H) (fin : Sm) (rest : List Nat) (hr : rest ≠ []) (hr2 : rest.length < 9223372036854775808) (T : Tr V) (h : H) (I : FI p a0 T0 h0 fin rest T h) :
    ∃ T' h' rest',evC (callX E X (M + 77)) 40 n none L_sha_Sum_fill_1_0 ⟨T,[],h⟩ = some (.normal,⟨T',[],h'⟩) ∧ rest'.length < rest.length ∧ FI p a0 T0 h0 fin rest' T' h' := by
  obtain ⟨t0,t1,t2,nx,b0,b1,b3,b4,⟨a,c,ez,g2,src⟩,⟨s,gp,ok,ab⟩,fr,pa⟩ := I
  obtain ⟨ok1,ok2,ok3⟩ := ok
  have hpos : 0 < rest.length := List.length_pos_iff.2 hr
  have c0 : decide ((0 : Int) < (rest.length : Int)) = true := decide_eq_true (by omega)
  have he : ez = 1 := by
    rcases src with h | ⟨_,_,_,_,_,h,_⟩
    · exact absurd h hr
    · exact h
  subst he
  have sc := src_cells (h := h) (c := c) src fr hr
  obtain ⟨u,eu⟩ : ∃ u,s.len % 64 = u := ⟨_,rfl⟩
  have hu : u < 64 := by omega
  have r0 : ∀ e h,binV .rem e h (.int .u64 (s.len : Int)) (.int .u64 64) = some (.int .u64 ((u : Nat) : Int)) := fun e h => by rw [b_rem64,eu]
  have sle := sumC_len s.st s.blk s.len ok1 ok2
  have sb : ∀ h,slcB (some (.cells (sumC s.st s.blk s.len) .rw)) 64 1 p 8 (some (.int .u64 (u : Int))) none h = some (.slice (some (p,8 + u)) (64 - u) (some (64 - u)) 1,h) := by
    intro h
    rw [x_slcB _ _ _ _ _ _ _ _ _ _ _ (by rw [sle]; omega) (x_bnd0 _ _) (x_bnd _ _ _ _ (by omega)),Nat.mul_one]
  obtain ⟨m,em⟩ : ∃ m,min rest.length (64 - u) = m := ⟨_,rfl⟩
  have hm1 : m ≤ rest.length := by omega
  have hm2 : u + m ≤ 64 := by omega
  have hm0 : 0 < m := by omega
  have lt : (rest.take m).length = m := by rw [List.length_take]; omega
  obtain ⟨blk',eblk⟩ : ∃ b,s.blk.take u ++ rest.take m ++ s.blk.drop (u + m) = b := ⟨_,rfl⟩
  have hb64 : blk'.length = 64 := by
    have := sumC_blk' s.st s.blk s.len u (rest.take m) ok2 (by omega)
    rw [lt] at this; rw [← eblk]; exact this
  have cp := copy_bytes h p (8 + u) (64 - u) (some (64 - u)) rest _ .rw rfl gp hr (by omega) (by rw [sle]; omega)
  have cb := sumC_blk s.st s.blk s.len u (rest.take m) ok1 ok2 (by omega)
  rw [lt,eblk] at cb
  rw [em,cb] at cp
  obtain ⟨len',elen⟩ : ∃ l,(s.len + m) % 18446744073709551616 = l := ⟨_,rfl⟩
  have hlen' : len' < 18446744073709551616 := by omega
  have wl : wr .u64 ((s.len : Int) + (m : Int)) = (len' : Int) := by rw [w64ad,elen]
  have wm : wr .u64 (m : Int) = (m : Int) := u64n _ (by omega)
  have gl := sumC_l s.st s.blk s.len ok1 ok2
  have gl1 := sumC_l s.st blk' s.len ok1 hb64
  have gl2 := sumC_l s.st blk' len' ok1 hb64
  have sl1 := sumC_len s.st blk' s.len ok1 hb64
  have pl := sumC_setlen s.st blk' s.len len' ok1 hb64
  have ste : ∀ (h : H) (v : V),storeE (some (.cells (sumC s.st blk' s.len) .rw)) h p 72 [v] = some (h.put p (.cells (writeN (sumC s.st blk' s.len) 72 [v]) .rw)) := fun h v => m_storeE _ _ _ _ _ (by rw [sl1]; simp only [List.length_cons,List.length_nil]; omega)
  have r1 : ∀ e h,binV .rem e h (.int .u64 (len' : Int)) (.int .u64 64) = some (.int .u64 ((len' % 64 : Nat) : Int)) := fun e h => b_rem64 e h len'
  have sls : slcV 1 (some (.int .i64 (m : Int))) none none (.slice a rest.length c 1) = some (.slice (upA a m) (rest.length - m) (subC c m) 1) := slcS_lo _ _ _ _ _ _ hm1 rfl
  have abm := absorb_chunk s (rest.take m) ok2 (by rw [lt]; omega) (by intro h; have := congrArg List.length h; rw [lt] at this; simp at this; omega)
  rw [lt,eu,eblk,elen] at abm
  have ab' : absorb (absorb s (rest.take m)) (rest.drop m) = fin := by rw [← absorb_app,List.take_append_drop,ab]
  rw [abm] at ab'
  have srd := src.drop m
  have ld : (rest.drop m).length = rest.length - m := List.length_drop ..
  generalize sumC s.st s.blk s.len = C0 at *
  obtain ⟨C1,eC1⟩ : ∃ C,sumC s.st blk' s.len = C := ⟨_,rfl⟩
  rw [eC1] at cp gl1 sl1 pl ste
  have n2p : (a0 + 2 = p) = False := by simp; omega
  have n4p : (a0 + 4 = p) = False := by simp; omega
  have n3p : (a0 + 3 = p) = False := by simp; omega
  have n1p : (a0 + 1 = p) = False := by simp; omega
  have n0p : (a0 = p) = False := by simp; omega
  have p0 : (p = a0) = False := by simp; omega
  have p1 : (p = a0 + 1) = False := by simp; omega
  have p2 : (p = a0 + 2) = False := by simp; omega
  have p3 : (p = a0 + 3) = False := by simp; omega
  have p4 : (p = a0 + 4) = False := by simp; omega
  by_cases hz : len' % 64 = 0
  · rw [if_pos hz] at ab'
    have c1 : decide (((len' % 64 : Nat) : Int) = 0) = true := decide_eq_true (by omega)
    have yx : ∀ a h,callX E X (M + 77) (.yld (a0 + 4)) a h = cYld (callX E X (M + 76)) (M + 76) (a0 + 4) a h := fun a h => x_yld (x.yld _ _ _)
    obtain ⟨h4,e4⟩ : ∃ h4,((((h.put p (.cells C1 .rw)).put p (.cells (sumC s.st blk' len') .rw)).put (a0 + 2) (.cells [.slice (upA a m) (rest.length - m) (subC c m) 1] .rw)).put (a0 + 4) (.loop 1 none 18 T0 [12] A_sha_Sum_Write_0 B_sha_Sum_Write_0 (a0 + 3))) = h4 := ⟨_,rfl⟩
    have n4 : h4.next = h.next := by rw [← e4]; rfl
    obtain ⟨h2,rm,gm,km⟩ := mix_go e x (M + 1) p s.st blk' len' h4 ok1 hb64 (by rw [← e4]; (simp (disch := omega) only [h_put_get,decide_true,decide_false,iteN_true,iteN_false,n2p,n4p]; try rfl)) (by rw [n4]; omega)
    replace rm : callX E X (M + 76) (.fn k_sha_Sum_mix) [.ptr (some (p,0))] h4 = some (.tup [],h2) := rm
    have k0 : h2.get a0 = h4.get a0 := km.2 _ (by omega) (by omega)
    have k1 : h2.get (a0 + 1) = h4.get (a0 + 1) := km.2 _ (by omega) (by omega)
    have k2 : h2.get (a0 + 2) = h4.get (a0 + 2) := km.2 _ (by omega) (by omega)
    have k3 : h2.get (a0 + 3) = h4.get (a0 + 3) := km.2 _ (by omega) (by omega)
    have k4 : h2.get (a0 + 4) = h4.get (a0 + 4) := km.2 _ (by omega) (by omega)
    have k0' : h4.get a0 = some (.cells [.ptr (some (p,0))] .rw) := by rw [← e4]; (simp (disch := omega) only [h_put_get,Nat.add_eq_left,decide_false,iteN_false,reduceCtorEq,b0,p0]; try rfl)
    have k1' : h2.get (a0 + 1) = some (.cells [.ptr (some (p,0))] .rw) := by rw [k1,← e4]; (simp (disch := omega) only [h_put_get,Nat.add_left_cancel_iff,decide_false,iteN_false,Nat.reduceEqDiff,b1,p1]; try rfl)
    have k4' : h2.get (a0 + 4) = some (.loop 1 none 18 T0 [12] A_sha_Sum_Write_0 B_sha_Sum_Write_0 (a0 + 3)) := by rw [k4,← e4]; (simp (disch := omega) only [h_put_get,decide_true,iteN_true]; try rfl)
    refine ⟨_,_,rest.drop m,by
      simp (config := {maxSteps := 2000000}) (disch := first | omega | (simp only [List.length_cons,List.length_nil,List.length_append,List.length_drop]; omega)) only [L_sha_Sum_fill_1_0,t0,t1,t2,gp,g2,b1,b4,hT,c0,c1,sc,r0,r1,sb,cp,wl,wm,gl,gl1,gl2,ste,pl,sls,n2p,p1,p2,p4,m_storeS,↓x_copy,↓x_slcA,x_slcAE,↓x_slcS,x_M1,x_M0,s_callVy,yx,y_cyld,y_ready,y_set1,y_mid,y_busy,y_end,y_done,y_jn,Option.isNone_none,↓u_A_sha_Sum_Write_0,↓u_B_sha_Sum_Write_0,e4,rm,k0',k4',↓x_conv,x_convV,↓x_fieldAddr,x_fieldV,↓s_nilchk,x_nilchk,Nat.zero_add,↓s_evD,↓s_dnil,↓s_dL,↓s_dR,↓s_dB,↓s_bindD,s_bindD,s_finD,s_addP0,↓s_bump0,↓h_put_get,Nat.add_left_cancel_iff,↓s_load,m_load,↓m_load1,m_load1,↓m_st,m_stE,m_storeI,m_storeE,w_zero,x_lenS,↓s_len,List.length_cons,List.length_nil,List.drop_succ_cons,List.drop_nil,↓s_skip,↓s_ops,↓s_dops,↓s_seq,↓s_cond,↓s_block,↓s_nil,↓s_op,↓s_bindS,s_bindS,↓s_bindE,s_bindE,s_norm,↓s_condV,s_condV,s_block_normal,↓s_getp,↓s_getp0,↓s_get,↓s_con,↓s_os0,↓s_os1,↓s_mov,↓s_bin,↓s_un,↓s_call,↓s_callv,s_same,b_eql,b_gtr,b_add,u_not,↓iteN_true,↓iteN_false,iteN_true,iteN_false,Nat.zero_add,List.append_nil,Nat.reduceEqDiff,decide_true,decide_false,Bool.not_true,List.getElem?_cons_zero]
      exact rfl,by rw [ld]; omega,?_⟩
    refine ⟨(by (simp only [s_getp,s_getp0,Nat.reduceEqDiff,decide_false,iteN_false,t0]; try rfl)),(by (simp only [s_getp,s_getp0,Nat.reduceEqDiff,decide_false,iteN_false,t1]; try rfl)),(by (simp only [s_getp,s_getp0,Nat.reduceEqDiff,decide_false,iteN_false,t2]; try rfl)),by simp only [h_next_put]; have := km.1; omega,?_,?_,?_,?_,⟨upA a m,subC c m,1,?_,srd⟩,⟨⟨mixV s.st blk',blk',len'⟩,?_,⟨by rw [mixV_len]; exact ok1,hb64,hlen'⟩,ab'⟩,?_,pa⟩
    · rw [h_put_ne _ _ (by omega),k0,← e4]; (simp (disch := omega) only [h_put_get,Nat.add_eq_left,decide_false,iteN_false,reduceCtorEq,b0,p0]; try rfl)
    · rw [h_put_ne _ _ (by omega),k1,← e4]; (simp (disch := omega) only [h_put_get,Nat.add_left_cancel_iff,decide_false,iteN_false,Nat.reduceEqDiff,b1,p1]; try rfl)
    · rw [h_put_ne _ _ (by omega),k3,← e4]; (simp (disch := omega) only [h_put_get,Nat.add_left_cancel_iff,decide_false,iteN_false,Nat.reduceEqDiff,b3,p3]; try rfl)
    · rw [h_put_same]; try rfl
    · rw [h_put_ne _ _ (by omega),k2,← e4,ld]; (simp (disch := omega) only [h_put_get,Nat.add_left_cancel_iff,decide_true,decide_false,iteN_true,iteN_false,Nat.reduceEqDiff]; try rfl)
    · rw [h_put_ne _ _ (by omega),gm]
    · intro i hi hip
      have f0 : (p = i) = False := by simp; omega
      have f2 : (a0 + 2 = i) = False := by simp; omega
      have f4 : (a0 + 4 = i) = False := by simp; omega
      rw [h_put_ne _ _ (by omega),km.2 _ (by omega) hip,← e4]
      simp only [h_put_get,f0,f2,f4,decide_false,iteN_false]
      exact fr i hi hip
  · rw [if_neg hz] at ab'
    have c1 : decide (((len' % 64 : Nat) : Int) = 0) = false := decide_eq_false (by omega)
    have yx : ∀ a h,callX E X (M + 77) (.yld (a0 + 4)) a h = cYld (callX E X (M + 76)) (M + 76) (a0 + 4) a h := fun a h => x_yld (x.yld _ _ _)
    refine ⟨_,_,rest.drop m,by
      simp (config := {maxSteps := 2000000}) (disch := first | omega | (simp only [List.length_cons,List.length_nil,List.length_append,List.length_drop]; omega)) only [L_sha_Sum_fill_1_0,t0,t1,t2,gp,g2,b1,b4,c0,c1,sc,r0,r1,sb,cp,wl,wm,gl,gl1,gl2,ste,pl,sls,n2p,p1,p2,p4,m_storeS,↓x_copy,↓x_slcA,x_slcAE,↓x_slcS,x_M1,x_M0,s_callVy,yx,y_cyld,y_ready,y_set1,y_mid,y_busy,y_end,y_done,y_jn,Option.isNone_none,↓u_A_sha_Sum_Write_0,↓u_B_sha_Sum_Write_0,↓x_conv,x_convV,↓x_fieldAddr,x_fieldV,↓s_nilchk,x_nilchk,Nat.zero_add,↓s_evD,↓s_dnil,↓s_dL,↓s_dR,↓s_dB,↓s_bindD,s_bindD,s_finD,s_addP0,↓s_bump0,↓h_put_get,Nat.add_left_cancel_iff,↓s_load,m_load,↓m_load1,m_load1,↓m_st,m_stE,m_storeI,m_storeE,w_zero,x_lenS,↓s_len,List.length_cons,List.length_nil,List.drop_succ_cons,List.drop_nil,↓s_skip,↓s_ops,↓s_dops,↓s_seq,↓s_cond,↓s_block,↓s_exit,↓s_nil,↓s_op,↓s_bindS,s_bindS,↓s_bindE,s_bindE,s_bindE_exit,s_norm,↓s_condV,s_condV,s_block_normal,s_block_exit,↓s_getp,↓s_getp0,↓s_get,↓s_con,↓s_os0,↓s_os1,↓s_mov,↓s_bin,↓s_un,↓s_callv,s_same,b_eql,b_gtr,b_add,u_not,↓iteN_true,↓iteN_false,iteN_true,iteN_false,Nat.zero_add,List.append_nil,Nat.reduceEqDiff,decide_true,decide_false,Bool.not_true,Bool.not_false,List.getElem?_cons_zero,if_true]
      exact rfl,by rw [ld]; omega,?_⟩
    refine ⟨(by (simp only [s_getp,s_getp0,Nat.reduceEqDiff,decide_false,iteN_false,t0]; try rfl)),(by (simp only [s_getp,s_getp0,Nat.reduceEqDiff,decide_false,iteN_false,t1]; try rfl)),(by (simp only [s_getp,s_getp0,Nat.reduceEqDiff,decide_false,iteN_false,t2]; try rfl)),by simp only [h_next_put]; exact nx,by (simp (disch := omega) only [h_put_get,Nat.add_eq_left,decide_false,iteN_false,reduceCtorEq,b0,p0]; try rfl),by (simp (disch := omega) only [h_put_get,Nat.add_left_cancel_iff,decide_false,iteN_false,Nat.reduceEqDiff,b1,p1]; try rfl),by (simp (disch := omega) only [h_put_get,Nat.add_left_cancel_iff,decide_false,iteN_false,Nat.reduceEqDiff,b3,p3]; try rfl),by (simp (disch := omega) only [h_put_get,decide_true,iteN_true]; try rfl),⟨upA a m,subC c m,1,by rw [ld]; (simp (disch := omega) only [h_put_get,Nat.add_left_cancel_iff,decide_true,decide_false,iteN_true,iteN_false,Nat.reduceEqDiff]; try rfl),srd⟩,⟨⟨s.st,blk',len'⟩,by (simp (disch := omega) only [h_put_get,decide_true,decide_false,iteN_true,iteN_false,n2p,n4p]; try rfl),⟨ok1,hb64,hlen'⟩,ab'⟩,?_,pa⟩
    intro i hi hip
    have f0 : (p = i) = False := by simp; omega
    have f2 : (a0 + 2 = i) = False := by simp; omega
    have f4 : (a0 + 4 = i) = False := by simp; omega
    simp only [h_put_get,f0,f2,f4,decide_false,iteN_false]
    exact fr i hi hip
theorem fill_loop (e : EnSha E) (x : NoSha X) (M n p a0 : Nat) (T0 : Tr V) (hT : evO T0 (.t 2) = .ptr (some (a0,0))) (h0 : H) (fin : Sm) : ∀ (k : Nat) (rest : List Nat),rest.length ≤ k → k < 9223372036854775808 → ∀ g,k < g → ∀ (T : Tr V) (h : H),FI p a0 T0 h0 fin rest T h →
    ∃ T' h',loopN (evC (callX E X (M + 77)) 40 n none L_sha_Sum_fill_1_0) g ⟨T,[],h⟩ = some (.exit 0,⟨T',[],h'⟩) ∧ FI p a0 T0 h0 fin [] T' h' := by
  intro k
  induction k with
  | zero =>
    intro rest hl _ g hg T h I
    obtain rfl : rest = [] := List.length_eq_zero_iff.1 (by omega)
    obtain ⟨g,rfl⟩ : ∃ j,g = j + 1 := ⟨g - 1,by omega⟩
    obtain ⟨t0,t1,t2,nx,b0,b1,b3,b4,⟨a,c,ez,g2,src⟩,gp,fr,pa⟩ := I
    have c0 : decide ((0 : Int) < (([] : List Nat).length : Int)) = false := rfl
    simp only [List.length_nil] at g2 c0
    rw [l_succ]
    refine ⟨_,_,by
      simp (config := {maxSteps := 2000000}) (disch := first | omega | (simp only [List.length_cons,List.length_nil,List.length_append,List.length_drop]; omega)) only [L_sha_Sum_fill_1_0,t1,g2,l_exit,↓s_load,m_load,↓m_load1,m_load1,x_lenS,↓s_len,Int.reduceLT,Int.cast_ofNat_Int,↓s_ops,↓s_seq,↓s_cond,↓s_exit,↓s_nil,↓s_op,↓s_bindS,s_bindS,↓s_bindE,s_bindE,s_bindE_exit,s_norm,↓s_condV,s_condV,↓s_getp,↓s_con,↓s_bin,s_same,b_gtr,↓iteN_true,↓iteN_false,iteN_true,iteN_false,decide_true,decide_false,List.getElem?_cons_zero]
      exact rfl,⟨(by (simp only [s_getp,Nat.reduceEqDiff,decide_false,iteN_false,t0]; try rfl)),(by (simp only [s_getp,Nat.reduceEqDiff,decide_false,iteN_false,t1]; try rfl)),(by (simp only [s_getp,Nat.reduceEqDiff,decide_false,iteN_false,t2]; try rfl)),nx,b0,b1,b3,b4,⟨a,c,ez,g2,src⟩,gp,fr,pa⟩⟩
  | succ k ih =>
    intro rest hl hk g hg T h I
    by_cases hr : rest = []
    · subst hr
      exact ih [] (by simp) (by omega) g (by omega) T h I
    · obtain ⟨g,rfl⟩ : ∃ j,g = j + 1 := ⟨g - 1,by omega⟩
      obtain ⟨T1,h1,r',s1,s2,s3⟩ := fill_step e x M n p a0 T0 hT h0 fin rest hr (by omega) T h I
      obtain ⟨T',h',s4,s5⟩ := ih r' (by omega) (by omega) g (by omega) T1 h1 s3
      exact ⟨T',h',by rw [l_succ,s1,l_normal]; exact s4,s5⟩
theorem sums_go (e : EnSha E) (x : NoSha X) (N p : Nat) (st blk : List Nat) (len : Nat) (md : Md) (h : H) (h1 : st.length = 8) (h2 : blk.length = 64) (hp : h.get p = some (.cells (sumC st blk len) md)) :
    callX E X (N + 1) (.fn k_sha_Sum_sums) [.ptr (some (p,0))] h = some (.bool true,h) := by
  rw [x_cfn e.sums _ _ (Nat.le_of_ble_eq_true rfl) (x.sums _ _)]
  have go := sumC_o st blk len h1 h2
  have ne : ∀ h i,binV .neq (.ref .p) h (.ptr (some (i,0))) (.ptr none) = some (.bool true) := fun h i => rfl
  generalize sumC st blk len = C at *
  simp (config := {maxSteps := 2000000}) (disch := first | omega | (simp only [List.length_cons,List.length_nil,List.length_append,List.length_drop]; omega)) only [hp,go,ne,↓x_fieldAddr,x_fieldV,↓s_nilchk,x_nilchk,Nat.zero_add,↓s_load,m_load,↓m_load1,m_load1,s_res0,↓s_ops,↓s_seq,↓s_ret,↓s_nil,↓s_op,↓s_opg,↓s_wanted',↓s_wantV,s_wantV,↓s_bindS,s_bindS,↓s_bindE,s_bindE,s_norm,↓s_getp,↓s_get,↓s_con,↓s_list0,↓s_list1,↓s_mov,↓s_pick,↓s_pickE,s_pickE,↓s_bin,s_same,s_end,s_res0,s_res1,s_tup1,↓iteN_true,↓iteN_false,iteN_true,iteN_false,Nat.zero_add,Nat.reduceEqDiff,decide_true,decide_false,beq_self_eq_true]
theorem fill_go (e : EnSha E) (x : NoSha X) (N : Nat) (v w : V) (hv : v.cells = [v]) (hw : w.cells = [w]) (h : H) :
    callX E X (N + 1) (.fn k_sha_Sum_fill) [v,w] h = some (.fn k_sha_Sum_fill_1 [] [.ptr (some (h.next + 1,0)),.ptr (some (h.next,0))],(h.new (.cells [v] .rw)).new (.cells [w] .rw)) := by
  rw [x_cfn e.fill _ _ (Nat.le_of_ble_eq_true rfl) (x.fill _ _)]
  simp (config := {maxSteps := 2000000}) (disch := first | omega | (simp only [List.length_cons,List.length_nil,List.length_append,List.length_drop]; omega)) only [hv,hw,↓s_box,↓s_mkfn,Nat.zero_add,h_next_new,s_res0,↓s_ops,↓s_seq,↓s_ret,↓s_nil,↓s_op,↓s_bindS,s_bindS,↓s_bindE,s_bindE,s_norm,↓s_getp,↓s_get,↓s_con,↓s_os0,↓s_os1,↓s_list0,↓s_list1,↓s_mov,s_end,s_res0,s_res1,s_tup1,↓iteN_true,↓iteN_false,iteN_true,iteN_false,Nat.zero_add,Nat.reduceEqDiff,decide_true,decide_false]
theorem write_go (e : EnSha E) (x : NoSha X) (M p : Nat) (s : Sm) (ok : SmOk s) (l : List Nat) (a : Option (Nat × Nat)) (c : Option Nat) (ez : Nat) (h : H) (hM : l.length < M) (hM2 : l.length < 9223372036854775808) (hp : h.get p = some (.cells (sumC s.st s.blk s.len) .rw)) (hpn : p < h.next) (src : Src h p h.next a ez l) :
    ∃ h',callX E X (M + 80) (.fn k_sha_Sum_Write) [.ptr (some (p,0)),.slice a l.length c ez] h = some (.ptr (some (p,0)),h') ∧ h'.get p = some (.cells (sumC (absorb s l).st (absorb s l).blk (absorb s l).len) .rw) ∧ Kq p h h' := by
  rw [x_cfn e.write _ _ (Nat.le_of_ble_eq_true rfl) (x.write _ _)]
  have s1 := fun h hp => sums_go e x (M + 78) p s.st s.blk s.len .rw h ok.1 ok.2.1 hp
  obtain ⟨h1,e1⟩ : ∃ h1,h.new (.cells [.ptr (some (p,0))] .rw) = h1 := ⟨_,rfl⟩
  have g1 : h1.get p = some (.cells (sumC s.st s.blk s.len) .rw) := by rw [← e1,h_new_ne _ _ (by omega),hp]
  have s2 := s1 h1 g1
  have f1 := fill_go e x (M + 78) (.ptr (some (p,0))) (.slice a l.length c ez) rfl rfl h1
  have gb : h1.get h.next = some (.cells [.ptr (some (p,0))] .rw) := by rw [← e1,h_new_same]
  have n1 : h1.next = h.next + 1 := by rw [← e1]; rfl
  rw [n1] at f1
  have fin : ∀ (T0 : Tr V),evO T0 (.t 2) = .ptr (some (h.next,0)) →
     ∃ h',(fnEnd [.tmp 4] (bindE (blockE 0 (rangeEnd (h.next + 4) T0 [h.next + 3] (callF (callX E X (M + 79)) (.yld (h.next + 4)) (.fn k_sha_Sum_fill_1 [] [.ptr (some (h.next + 1 + 1,0)),.ptr (some (h.next + 1,0))]) ((((h1.new (.cells [.ptr (some (p,0))] .rw)).new (.cells [.slice a l.length c ez] .rw)).new .defers).new (.loop 0 none 18 T0 [12] A_sha_Sum_Write_0 B_sha_Sum_Write_0 (h.next + 3)))))) (evC (callX E X (M + 79)) 18 (M + 79) none R_sha_Sum_Write_0))) = some (.ptr (some (p,0)),h') ∧ h'.get p = some (.cells (sumC (absorb s l).st (absorb s l).blk (absorb s l).len) .rw) ∧ Kq p h h' := by
    intro T0 hT
    rw [s_callF,x_cfn e.fill1 _ _ (Nat.le_of_ble_eq_true rfl) (x.fill1 _ _)]
    obtain ⟨h5,e5⟩ : ∃ h5,(((h1.new (.cells [.ptr (some (p,0))] .rw)).new (.cells [.slice a l.length c ez] .rw)).new .defers).new (.loop 0 none 18 T0 [12] A_sha_Sum_Write_0 B_sha_Sum_Write_0 (h.next + 3)) = h5 := ⟨_,rfl⟩
    rw [e5]
    have q : ∀ T : Tr V,evO T (.t 0) = .yld (h.next + 4) → evO T (.t 1) = .ptr (some (h.next + 2,0)) → evO T (.t 2) = .ptr (some (h.next + 1,0)) → FI p h.next T0 h (absorb s l) l T h5 := by
      intro T t0 t1 t2
      refine ⟨t0,t1,t2,?_,?_,?_,?_,?_,⟨a,c,ez,?_,src⟩,⟨s,?_,ok,rfl⟩,?_,hpn⟩
      · rw [← e5]; simp only [h_next_new,n1]; omega
      · rw [← e5]; (simp (disch := omega) only [h_new_get,h_next_new,Nat.add_assoc,Nat.add_eq_left,Nat.reduceAdd,decide_false,iteN_false,Nat.reduceAdd,reduceCtorEq,gb,n1]; try rfl)
      · rw [← e5]; (simp (disch := omega) only [h_new_get,h_next_new,Nat.add_assoc,Nat.add_left_cancel_iff,Nat.reduceAdd,decide_true,decide_false,iteN_true,iteN_false,Nat.reduceEqDiff,Nat.reduceAdd,n1]; try rfl)
      · rw [← e5]; (simp (disch := omega) only [h_new_get,h_next_new,Nat.add_assoc,Nat.add_left_cancel_iff,Nat.reduceAdd,decide_true,decide_false,iteN_true,iteN_false,Nat.reduceEqDiff,Nat.reduceAdd,n1]; try rfl)
      · rw [← e5]; (simp (disch := omega) only [h_new_get,h_next_new,Nat.add_assoc,Nat.reduceAdd,decide_true,iteN_true,Nat.reduceAdd,n1]; try rfl)
      · rw [← e5]; (simp (disch := omega) only [h_new_get,h_next_new,Nat.add_assoc,Nat.add_left_cancel_iff,Nat.reduceAdd,decide_true,decide_false,iteN_true,iteN_false,Nat.reduceEqDiff,Nat.reduceAdd,n1]; try rfl)
      · have z1 : (h.next + 1 = p) = False := by simp; omega
        have z2 : (h.next + 2 = p) = False := by simp; omega
        have z3 : (h.next + 3 = p) = False := by simp; omega
        have z4 : (h.next + 4 = p) = False := by simp; omega
        rw [← e5]; (simp (disch := omega) only [h_new_get,h_next_new,Nat.add_assoc,Nat.reduceAdd,decide_false,iteN_false,Nat.reduceAdd,g1,n1,z1,z2,z3,z4]; try rfl)
      · intro i hi hip
        have z0 : (h.next = i) = False := by simp; omega
        have z1 : (h.next + 1 = i) = False := by simp; omega
        have z2 : (h.next + 2 = i) = False := by simp; omega
        have z3 : (h.next + 3 = i) = False := by simp; omega
        have z4 : (h.next + 4 = i) = False := by simp; omega
        rw [← e5,← e1]; (simp (disch := omega) only [h_new_get,h_next_new,Nat.add_assoc,Nat.reduceAdd,decide_false,iteN_false,Nat.reduceAdd,z0,z1,z2,z3,z4]; try rfl)
    obtain ⟨T',h',r1,t0,t1,t2,nx,b0,b1,b3,b4,sv,⟨s',gp,ok',ab'⟩,fr,pa⟩ := fill_loop e x (M + 1) (M + 78) p h.next T0 hT h (absorb s l) l.length l (Nat.le_refl _) (by omega) (M + 78) (by omega) _ h5 (q (ofList 0 ([] ++ ([V.yld (h.next + 4)] ++ [V.ptr (some (h.next + 1 + 1,0)),V.ptr (some (h.next + 1,0))])) .e) (by (simp only [Nat.reduceEqDiff,decide_false,decide_true,iteN_false,iteN_true,s_list1,s_list0,List.nil_append,List.cons_append,s_get]; try rfl)) (by (simp only [Nat.reduceEqDiff,decide_false,decide_true,iteN_false,iteN_true,s_list1,s_list0,List.nil_append,List.cons_append,s_get]; try rfl)) (by (simp only [decide_true,iteN_true,s_list1,s_list0,List.nil_append,List.cons_append,s_get]; try rfl)))
    replace r1 : loopN (evC (callX E X (M + 78)) 40 (M + 78) none L_sha_Sum_fill_1_0) (M + 78) ⟨ofList 0 ([] ++ ([V.yld (h.next + 4)] ++ [V.ptr (some (h.next + 1 + 1,0)),V.ptr (some (h.next + 1,0))])) .e,[],h5⟩ = some (.exit 0,⟨T',[],h'⟩) := r1
    have ab2 : s' = absorb s l := ab'
    subst ab2
    have z4 : (h.next + 4 = h.next) = False := by simp
    rw [s_block,s_loop,r1]
    simp (config := {maxSteps := 2000000}) (disch := first | omega | (simp only [List.length_cons,List.length_nil,List.length_append,List.length_drop]; omega)) only [b0,b3,b4,hT,z4,R_sha_Sum_Write_0,e_tup0,r_end,r_0,r_jn,e_ret,d_cons,d_yes,d_nil,e_some,↓h_del_get,Nat.add_left_cancel_iff,↓s_load,m_load,↓m_load1,m_load1,s_res0,↓s_ops,↓s_seq,↓s_ret,↓s_nil,↓s_op,↓s_bindS,s_bindS,↓s_bindE,s_bindE,s_norm,s_block_normal,s_block_exit,↓s_getp,↓s_mov,s_same,s_end',s_res0,s_res1,s_tup1,↓iteN_true,↓iteN_false,iteN_true,iteN_false,Nat.reduceEqDiff,decide_true,decide_false,List.getElem?_cons_zero,if_true]
    refine ⟨_,rfl,?_,?_⟩
    · rw [h_del_ne _ (by omega),h_del_ne _ (by omega),gp]
    · refine ⟨by simp only [h_next_del]; omega,fun i hi hip => ?_⟩
      rw [h_del_ne _ (by omega),h_del_ne _ (by omega),fr i hi hip]
  obtain ⟨R,eR⟩ : ∃ R,R_sha_Sum_Write_0 = R := ⟨_,rfl⟩
  rw [eR] at fin ⊢
  simp (config := {maxSteps := 2000000}) (disch := first | omega | (simp only [List.length_cons,List.length_nil,List.length_append,List.length_drop]; omega)) only [e1,s2,f1,gb,n1,↓s_box,↓s_range,c_ptr,Nat.zero_add,h_next_new,Nat.add_assoc,↓s_load,m_load,↓m_load1,m_load1,Nat.reduceAdd,↓s_skip,↓s_ops,↓s_seq,↓s_cond,↓s_block,↓s_scope,↓s_nil,↓s_op,↓s_bindS,s_bindS,↓s_bindE,s_bindE,s_norm,↓s_condV,s_condV,↓s_getp,↓s_get,↓s_con,↓s_os0,↓s_os1,↓s_list0,↓s_list1,↓s_mov,↓s_un,↓s_call,s_same,u_not,↓iteN_true,↓iteN_false,iteN_true,iteN_false,Nat.zero_add,Nat.reduceEqDiff,decide_true,decide_false,Bool.not_true,List.getElem?_cons_zero]
  exact fin _ (by (simp only [s_getp,Nat.reduceEqDiff,decide_false,decide_true,iteN_false,iteN_true]; try rfl))
theorem pad_step (Q : Orc) (n q sz len : Nat) (hsz : padSz len = sz) (h0 : H) :
    ∀ i T h,i < 8 → PI q sz len h0 i T h → ∃ T' h',evC Q 37 n none L_sha_padding_0 ⟨T,[],h⟩ = some (.normal,⟨T',[],h'⟩) ∧ PI q sz len h0 (i + 1) T' h' := by
  intro i T h hi ⟨_,t0,t4,t5,t20,gq,eq⟩
  have hs := padSz_b len
  rw [hsz] at hs
  have c0 : decide ((i : Int) < 8) = true := decide_eq_true (by omega)
  have wi : wr .i64 ((i : Int) + 1) = ((i + 1 : Nat) : Int) := by rw [wr_i64 (by omega)]; omega
  have w1 : wr .i64 ((sz : Int) - 1) = ((sz - 1 : Nat) : Int) := by rw [wr_i64 (by omega)]; omega
  have w2 : wr .i64 (((sz - 1 : Nat) : Int) - (i : Int)) = ((sz - 1 - i : Nat) : Int) := by rw [wr_i64 (by omega)]; omega
  have w3 : wr .u64 ((len : Int) * 8) = ((len * 8 % 18446744073709551616 : Nat) : Int) := by
    have : (len : Int) * 8 = ((len * 8 : Nat) : Int) := by omega
    rw [this,w64n']
  have w4 : wr .i64 (8 * (i : Int)) = ((8 * i : Nat) : Int) := by rw [wr_i64 (by omega)]; omega
  have sh : ∀ e h (a : Nat),binV .shr e h (.int .u64 (a : Int)) (.int .i64 ((8 * i : Nat) : Int)) = some (.int .u64 ((a / 2 ^ (8 * i) : Nat) : Int)) := fun e h a => b_shrN e h .i64 a (8 * i) (by omega)
  have ix : idx ((sz - 1 - i : Nat) : Int) sz = some (sz - 1 - i) := idxn (by omega)
  have pl := padN_len len i
  have en : padN len (i + 1) = (padN len i).set (padSz len - 1 - i) (len * 8 % 18446744073709551616 / 2 ^ (8 * i) % 256) := rfl
  rw [hsz] at pl en
  have ws := fun (v : Nat) => writeN_set (ofI .u8 (padN len i)) (sz - 1 - i) (.int .u8 (v : Int)) (by rw [ofI_len]; omega)
  simp only [ofI_set] at ws
  have wv := ws (len * 8 % 18446744073709551616 / 2 ^ (8 * i) % 256)
  rw [← en] at wv
  have ste : ∀ (h : H) (v : V),storeE (some (.cells (ofI .u8 (padN len i)) .rw)) h q (sz - 1 - i) [v] = some (h.put q (.cells (writeN (ofI .u8 (padN len i)) (sz - 1 - i) [v]) .rw)) := fun h v => m_storeE _ _ _ _ _ (by rw [ofI_len,pl]; simp only [List.length_cons,List.length_nil]; omega)
  generalize ofI .u8 (padN len i) = C at *
  refine ⟨_,_,by
    simp (config := {maxSteps := 2000000}) (disch := first | omega | (simp only [List.length_cons,List.length_nil,List.length_append,List.length_drop]; omega)) only [L_sha_padding_0,t0,t4,t5,t20,gq,c0,wi,w1,w2,w3,w4,sh,ix,w8n,ste,wv,↓x_conv,x_convV,Nat.zero_add,Nat.mul_one,↓m_st,m_stE,m_storeI,↓x_idxS,x_idxSE,x_addrE,↓s_skip,↓s_ops,↓s_seq,↓s_cond,↓s_block,↓s_nil,↓s_op,↓s_bindS,s_bindS,↓s_bindE,s_bindE,s_norm,↓s_condV,s_condV,s_block_normal,↓s_getp,↓s_getp0,↓s_con,↓s_mov,↓s_bin,s_same,b_lss,b_add,b_sub,b_mul,↓iteN_true,↓iteN_false,iteN_true,iteN_false,Nat.zero_add,Nat.reduceEqDiff,decide_true,decide_false]
    exact rfl,⟨by omega,(by (simp only [s_getp,s_getp0,Nat.reduceEqDiff,decide_false,iteN_false,t0]; try rfl)),(by (simp only [s_getp,s_getp0,Nat.reduceEqDiff,decide_false,iteN_false,t4]; try rfl)),(by (simp only [s_getp,s_getp0,Nat.reduceEqDiff,decide_false,iteN_false,t5]; try rfl)),(by (simp only [s_getp,decide_true,iteN_true]; try rfl)),by rw [h_put_same],eq.put _⟩⟩
theorem pad_loop (Q : Orc) (n q sz len : Nat) (hn : 8 < n) (hsz : padSz len = sz) (h0 : H) (T : Tr V) (h : H) (I : PI q sz len h0 0 T h) :
    ∃ T' h',loopN (evC Q 37 n none L_sha_padding_0) n ⟨T,[],h⟩ = some (.exit 0,⟨T',[],h'⟩) ∧ PI q sz len h0 8 T' h' :=
  loop_go (PI q sz len h0) 8 (.exit 0) (by intro h; cases h) _ (pad_step Q n q sz len hsz h0) (fun T h I => by
    obtain ⟨a,t0,t4,t5,t20,gq,eq⟩ := I
    have c0 : decide (((8 : Nat) : Int) < 8) = false := rfl
    refine ⟨_,_,by
      simp (config := {maxSteps := 2000000}) (disch := first | omega | (simp only [List.length_cons,List.length_nil,List.length_append,List.length_drop]; omega)) only [L_sha_padding_0,t20,Int.reduceLT,Int.cast_ofNat_Int,↓s_ops,↓s_seq,↓s_cond,↓s_exit,↓s_nil,↓s_op,↓s_bindS,s_bindS,↓s_bindE,s_bindE,s_bindE_exit,s_norm,↓s_condV,s_condV,↓s_getp,↓s_con,↓s_bin,s_same,b_lss,↓iteN_true,↓iteN_false,iteN_true,iteN_false,decide_true,decide_false]
      exact rfl,⟨a,(by (simp only [s_getp,Nat.reduceEqDiff,decide_false,iteN_false,t0]; try rfl)),(by (simp only [s_getp,Nat.reduceEqDiff,decide_false,iteN_false,t4]; try rfl)),(by (simp only [s_getp,Nat.reduceEqDiff,decide_false,iteN_false,t5]; try rfl)),(by (simp only [s_getp,Nat.reduceEqDiff,decide_false,iteN_false,t20]; try rfl)),gq,eq⟩⟩) 8 0 rfl n hn T h I
theorem pad_go (e : EnSha E) (x : NoSha X) (N len : Nat) (hlen : len < 18446744073709551616) (h : H) :
    ∃ h',callX E X (N + 10) (.fn k_sha_padding) [.int .u64 (len : Int)] h = some (.slice (some (h.next,0)) (padV len).length (some (padV len).length) 1,h') ∧ h'.get h.next = some (.cells (ofI .u8 (padV len)) .rw) ∧ Kp h h' ∧ h'.next = h.next + 1 := by
  rw [x_cfn e.pad _ _ (Nat.le_of_ble_eq_true rfl) (x.pad _ _),padV_len]
  obtain ⟨sz,hsz⟩ : ∃ s,padSz len = s := ⟨_,rfl⟩
  have hb := padSz_b len
  rw [hsz] at hb ⊢
  have p0 : (List.replicate sz 0).set 0 128 = padN len 0 := by
    unfold padN; rw [hsz]
    obtain ⟨m,rfl⟩ : ∃ m,sz = m + 1 := ⟨sz - 1,by omega⟩
    simp [List.replicate_succ]
  have fin : ∀ T,PI h.next sz len ((h.new (.cells (ofI .u8 (List.replicate sz 0)) .rw)).put h.next (.cells (ofI .u8 (padN len 0)) .rw)) 0 T ((h.new (.cells (ofI .u8 (List.replicate sz 0)) .rw)).put h.next (.cells (ofI .u8 (padN len 0)) .rw)) →
      ∃ h',fnEnd [.tmp 2] (bindE (blockE 0 (loopN (evC (callX E X (N + 9)) 37 (N + 9) none L_sha_padding_0) (N + 9) ⟨T,[],(h.new (.cells (ofI .u8 (List.replicate sz 0)) .rw)).put h.next (.cells (ofI .u8 (padN len 0)) .rw)⟩)) (evC (callX E X (N + 9)) 37 (N + 9) none R_sha_padding_0)) = some (.slice (some (h.next,0)) sz (some sz) 1,h') ∧ h'.get h.next = some (.cells (ofI .u8 (padV len)) .rw) ∧ Kp h h' ∧ h'.next = h.next + 1 := by
    intro T I
    obtain ⟨T',h',r1,a,t0,t4,t5,t20,gq,eq⟩ := pad_loop (callX E X (N + 9)) (N + 9) h.next sz len (by omega) hsz _ T _ I
    rw [r1]
    simp (config := {maxSteps := 2000000}) (disch := first | omega | (simp only [List.length_cons,List.length_nil,List.length_append,List.length_drop]; omega)) only [R_sha_padding_0,t5,s_res0,↓s_ops,↓s_seq,↓s_ret,↓s_nil,↓s_op,↓s_bindS,s_bindS,↓s_bindE,s_bindE,s_norm,s_block_exit,↓s_getp,↓s_mov,s_end,s_res0,s_res1,s_tup1,↓iteN_true,iteN_true,decide_true,if_true]
    refine ⟨_,rfl,gq,⟨by rw [eq.1]; simp only [h_next_put,h_next_new]; omega,fun i hi => by rw [eq.2 _ (by omega),h_put_ne _ _ (by omega),h_new_ne _ _ (by omega)]⟩,by rw [eq.1]; rfl⟩
  have w0 : wr .i64 ((len % 64 : Nat) : Int) = ((len % 64 : Nat) : Int) := w64n (by omega)
  have w1 : wr .i64 (64 - ((len % 64 : Nat) : Int)) = ((64 - len % 64 : Nat) : Int) := by rw [wr_i64 (by omega)]; omega
  have w2 : wr .i64 (((64 - len % 64 : Nat) : Int) + 64) = ((128 - len % 64 : Nat) : Int) := by rw [wr_i64 (by omega)]; omega
  have mk := fun (h : H) => mkslice_n h .u8 .i64 sz (by omega)
  have ix : idx (0 : Int) sz = some 0 := by rw [x_idx (by omega) (by omega)]; rfl
  have ste : ∀ (h : H) (i : Nat),storeE (some (.cells (ofI .u8 (List.replicate sz 0)) .rw)) h i 0 [.int .u8 128] = some (h.put i (.cells (ofI .u8 (padN len 0)) .rw)) := fun h i => by
    rw [m_storeE _ _ _ _ _ (by rw [ofI_len]; simp; omega),writeN_set _ _ _ (by rw [ofI_len]; simp; omega)]
    rw [show (V.int .u8 128) = V.int .u8 ((128 : Nat) : Int) from rfl,ofI_set,p0]
  obtain ⟨R,eR⟩ : ∃ R,R_sha_padding_0 = R := ⟨_,rfl⟩
  obtain ⟨L,eL⟩ : ∃ R,L_sha_padding_0 = R := ⟨_,rfl⟩
  rw [eR,eL] at fin ⊢
  generalize ofI .u8 (List.replicate sz 0) = z at *
  obtain ⟨P,eP⟩ : ∃ P,ofI .u8 (padN len 0) = P := ⟨_,rfl⟩
  by_cases h9 : 64 - len % 64 < 9
  · have e9 : 128 - len % 64 = sz := by rw [← hsz]; unfold padSz; rw [if_pos h9]
    rw [e9] at w2
    have c1 : decide (((64 - len % 64 : Nat) : Int) < 9) = true := decide_eq_true (by omega)
    rw [eP] at fin ste
    simp (config := {maxSteps := 2000000}) (disch := first | omega | (simp only [List.length_cons,List.length_nil,List.length_append,List.length_drop]; omega)) only [b_rem64,w0,w1,w2,c1,ix,ste,mk,↓x_mkslice,↓x_conv,x_convV,Nat.add_zero,Nat.mul_one,Nat.add_zero,↓l_loop,↓l_succ,↓h_new_get,↓m_st,m_stE,m_storeI,↓x_idxS,x_idxSE,x_addrE,↓s_ops,↓s_seq,↓s_cond,↓s_block,↓s_nil,↓s_op,↓s_bindS,s_bindS,↓s_bindE,s_bindE,s_norm,↓s_condV,s_condV,↓s_getp,↓s_get,↓s_con,↓s_list0,↓s_list1,↓s_mov,↓s_bin,s_same,b_lss,b_add,b_sub,↓iteN_true,↓iteN_false,iteN_true,iteN_false,Nat.reduceEqDiff,decide_true,decide_false]
    refine fin _ ⟨by omega,?_,?_,?_,?_,by rw [h_put_same,eP],Eqx.refl _ _⟩
    all_goals (simp only [s_getp,s_getp0,Nat.reduceEqDiff,decide_false,decide_true,iteN_false,iteN_true]; try rfl)
  · have e9 : 64 - len % 64 = sz := by rw [← hsz]; unfold padSz; rw [if_neg h9]
    rw [e9] at w1
    have c1 : decide ((sz : Int) < 9) = false := decide_eq_false (by omega)
    rw [eP] at fin ste
    simp (config := {maxSteps := 2000000}) (disch := first | omega | (simp only [List.length_cons,List.length_nil,List.length_append,List.length_drop]; omega)) only [b_rem64,w0,w1,c1,ix,ste,mk,↓x_mkslice,↓x_conv,x_convV,Nat.add_zero,Nat.mul_one,Nat.add_zero,↓l_loop,↓l_succ,↓h_new_get,↓m_st,m_stE,m_storeI,↓x_idxS,x_idxSE,x_addrE,↓s_skip,↓s_ops,↓s_seq,↓s_cond,↓s_block,↓s_nil,↓s_op,↓s_bindS,s_bindS,↓s_bindE,s_bindE,s_norm,↓s_condV,s_condV,↓s_getp,↓s_get,↓s_con,↓s_list0,↓s_list1,↓s_mov,↓s_bin,s_same,b_lss,b_sub,↓iteN_true,↓iteN_false,iteN_true,iteN_false,Nat.reduceEqDiff,decide_true,decide_false]
    refine fin _ ⟨by omega,?_,?_,?_,?_,by rw [h_put_same,eP],Eqx.refl _ _⟩
    all_goals (simp only [s_getp,s_getp0,Nat.reduceEqDiff,decide_false,decide_true,iteN_false,iteN_true]; try rfl)
theorem new_go (e : EnSha E) (x : NoSha X) (N : Nat) (h : H) : ∃ h',callX E X (N + 2) (.fn k_sha_New) [] h = some (.ptr (some (h'.next - 1,0)),h') ∧ h'.get (h'.next - 1) = some (.cells (sumC squaresL (List.replicate 64 0) 0) .rw) ∧ Kp h h' ∧ h.next < h'.next := by
  rw [x_cfn e.new _ _ (Nat.le_of_ble_eq_true rfl) (x.new _ _)]
  obtain ⟨ha,ra,ka⟩ := square_go e x N h
  have F : ∀ T : Tr V,evO T (.t 1) = .agg (ofI .u32 squaresL) → fillV [.int .u32 0,.int .u32 0,.int .u32 0,.int .u32 0,.int .u32 0,.int .u32 0,.int .u32 0,.int .u32 0,.int .u8 0,.int .u8 0,.int .u8 0,.int .u8 0,.int .u8 0,.int .u8 0,.int .u8 0,.int .u8 0,.int .u8 0,.int .u8 0,.int .u8 0,.int .u8 0,.int .u8 0,.int .u8 0,.int .u8 0,.int .u8 0,.int .u8 0,.int .u8 0,.int .u8 0,.int .u8 0,.int .u8 0,.int .u8 0,.int .u8 0,.int .u8 0,.int .u8 0,.int .u8 0,.int .u8 0,.int .u8 0,.int .u8 0,.int .u8 0,.int .u8 0,.int .u8 0,.int .u8 0,.int .u8 0,.int .u8 0,.int .u8 0,.int .u8 0,.int .u8 0,.int .u8 0,.int .u8 0,.int .u8 0,.int .u8 0,.int .u8 0,.int .u8 0,.int .u8 0,.int .u8 0,.int .u8 0,.int .u8 0,.int .u8 0,.int .u8 0,.int .u8 0,.int .u8 0,.int .u8 0,.int .u8 0,.int .u8 0,.int .u8 0,.int .u8 0,.int .u8 0,.int .u8 0,.int .u8 0,.int .u8 0,.int .u8 0,.int .u8 0,.int .u8 0,.int .u64 0,.bool false] [(0,8,evO T (.t 1)),(73,1,.bool true)] = some (sumC squaresL (List.replicate 64 0) 0) := fun T hT => by rw [hT]; rfl
  have F2 : fillV [.int .u32 0,.int .u32 0,.int .u32 0,.int .u32 0,.int .u32 0,.int .u32 0,.int .u32 0,.int .u32 0,.int .u8 0,.int .u8 0,.int .u8 0,.int .u8 0,.int .u8 0,.int .u8 0,.int .u8 0,.int .u8 0,.int .u8 0,.int .u8 0,.int .u8 0,.int .u8 0,.int .u8 0,.int .u8 0,.int .u8 0,.int .u8 0,.int .u8 0,.int .u8 0,.int .u8 0,.int .u8 0,.int .u8 0,.int .u8 0,.int .u8 0,.int .u8 0,.int .u8 0,.int .u8 0,.int .u8 0,.int .u8 0,.int .u8 0,.int .u8 0,.int .u8 0,.int .u8 0,.int .u8 0,.int .u8 0,.int .u8 0,.int .u8 0,.int .u8 0,.int .u8 0,.int .u8 0,.int .u8 0,.int .u8 0,.int .u8 0,.int .u8 0,.int .u8 0,.int .u8 0,.int .u8 0,.int .u8 0,.int .u8 0,.int .u8 0,.int .u8 0,.int .u8 0,.int .u8 0,.int .u8 0,.int .u8 0,.int .u8 0,.int .u8 0,.int .u8 0,.int .u8 0,.int .u8 0,.int .u8 0,.int .u8 0,.int .u8 0,.int .u8 0,.int .u8 0,.int .u64 0,.bool false] [(0,8,.agg (ofI .u32 squaresL)),(73,1,.bool true)] = some (sumC squaresL (List.replicate 64 0) 0) := rfl
  generalize ofI .u32 squaresL = sq at *
  generalize sumC squaresL (List.replicate 64 0) 0 = C at *
  simp (config := {maxSteps := 2000000}) (disch := first | omega | (simp only [List.length_cons,List.length_nil,List.length_append,List.length_drop]; omega)) only [ra,F2,↓x_build,x_aggO,↓s_box,c_agg,↓x_P0,↓x_P1,s_res0,↓s_ops,↓s_seq,↓s_ret,↓s_nil,↓s_op,↓s_bindS,s_bindS,↓s_bindE,s_bindE,s_norm,↓s_getp,↓s_con,↓s_os0,↓s_list0,↓s_mov,↓s_call,s_same,s_end,s_res0,s_res1,s_tup1,↓iteN_true,iteN_true,decide_true]
  refine ⟨ha.new (.cells C .rw),rfl,by rw [h_next_new,Nat.add_sub_cancel,h_new_same],ka.trans (Kp.new _ _),by have := ka.1; rw [h_next_new]; omega⟩
end Go.Eng
namespace Go.Eng
open Go
variable {E : Nat → Option Fn} {X : Orc}
set_option linter.unusedSimpArgs false
set_option linter.unusedVariables false
theorem end_step (Q : Orc) (n o r : Nat) (st : List Nat) (hst : st.length = 8) (h0 : H) :
    ∀ i T h,i < 8 → (EI o st h0 i T h ∧ evO T (.t 2) = .ptr (some (r,0))) → ∃ T' h',evC Q 44 n none L_sha_Sum_End_0 ⟨T,[],h⟩ = some (.normal,⟨T',[],h'⟩) ∧ (EI o st h0 (i + 1) T' h' ∧ evO T' (.t 2) = .ptr (some (r,0))) := by
  intro i T h hi ⟨⟨_,_,t4,t21,t22,go,kq,on⟩,t2⟩
  have c0 : decide ((i : Int) < 8) = true := decide_eq_true (by omega)
  have wi : wr .i64 ((i : Int) + 1) = ((i + 1 : Nat) : Int) := by rw [wr_i64 (by omega)]; omega
  have w4 : wr .i64 (4 * (i : Int)) = ((4 * i : Nat) : Int) := by rw [wr_i64 (by omega)]; omega
  have ix : idx (i : Int) 8 = some i := idxn hi
  have vg : partV (ofI .u32 st) i (agSz false 1) = some (.int .u32 (st.getD i 0 : Nat)) := ofI_get _ _ _ (by omega)
  have ol := outN_len st i (by omega)
  have en : outN st (i + 1) = (outN st i).take (4 * i) ++ be4 (st.getD i 0) ++ (outN st i).drop (4 * i + 4) := rfl
  generalize st.getD i 0 = w at *
  have hn : o < h.next := Nat.lt_of_lt_of_le on kq.1
  have no : (h.next = o) = False := by simp; omega
  have s24 : ∀ e h,binV .shr e h (.int .u32 (w : Int)) (.int .u64 24) = some (.int .u32 (sr w 24 : Nat)) := fun e h => b_shr32 e h w 24 (by omega)
  have s16 : ∀ e h,binV .shr e h (.int .u32 (w : Int)) (.int .u64 16) = some (.int .u32 (sr w 16 : Nat)) := fun e h => b_shr32 e h w 16 (by omega)
  have s8 : ∀ e h,binV .shr e h (.int .u32 (w : Int)) (.int .u64 8) = some (.int .u32 (sr w 8 : Nat)) := fun e h => b_shr32 e h w 8 (by omega)
  have sb : ∀ h,slcB (some (.cells (ofI .u8 (outN st i)) .rw)) 32 1 o 0 (some (.int .i64 ((4 * i : Nat) : Int))) none h = some (.slice (some (o,4 * i)) (32 - 4 * i) (some (32 - 4 * i)) 1,h) := by
    intro h
    rw [x_slcB _ _ _ _ _ _ _ _ _ _ _ (by rw [ofI_len,ol]; omega) (x_bnd0 _ _) (x_bnd _ _ _ _ (by omega)),Nat.mul_one,Nat.zero_add]
  have F : fillV [.int .u8 0,.int .u8 0,.int .u8 0,.int .u8 0] [(0,1,.int .u8 ((sr w 24 % 256 : Nat) : Int)),(1,1,.int .u8 ((sr w 16 % 256 : Nat) : Int)),(2,1,.int .u8 ((sr w 8 % 256 : Nat) : Int)),(3,1,.int .u8 ((w % 256 : Nat) : Int))] = some (ofI .u8 (be4 w)) := fill_seq0 .u8 (be4 w) _ rfl
  have SC : srcCells (h.new (.cells (ofI .u8 (be4 w)) .rw)) 1 (.slice (some (h.next,0)) 4 (some 4) 1) = some (4,ofI .u8 (be4 w)) := by
    have : (h.new (.cells (ofI .u8 (be4 w)) .rw)).get h.next = some (.cells (ofI .u8 (be4 w)) .rw) := h_new_same _ _
    unfold srcCells cellsAt
    simp only [this]
    rfl
  have b4 : (be4 w).length = 4 := rfl
  have CP := copy_bytes (h.new (.cells (ofI .u8 (be4 w)) .rw)) o (4 * i) (32 - 4 * i) (some (32 - 4 * i)) (be4 w) (ofI .u8 (outN st i)) .rw rfl (by rw [h_new_ne _ _ (by omega),go]) (by unfold be4; simp) (by omega) (by rw [ofI_len,ol,b4]; omega)
  have hm : min (be4 w).length (32 - 4 * i) = 4 := by rw [b4]; omega
  rw [hm,show (be4 w).take 4 = be4 w from rfl,writeN_eq _ _ _ (by rw [ofI_len,ol]; omega),ofI_len,b4,ofI_take,ofI_drop,← ofI_app,← ofI_app,← en] at CP
  generalize ofI .u8 (outN st i) = C at *
  obtain ⟨C',eC'⟩ : ∃ C,ofI .u8 (outN st (i + 1)) = C := ⟨_,rfl⟩
  rw [eC'] at CP
  obtain ⟨B,eB⟩ : ∃ B,ofI .u8 (be4 w) = B := ⟨_,rfl⟩
  rw [eB] at F SC CP
  refine ⟨_,_,by
    simp (config := {maxSteps := 2000000}) (disch := first | omega | (simp only [List.length_cons,List.length_nil,List.length_append,List.length_drop]; omega)) only [L_sha_Sum_End_0,t4,t21,t22,go,c0,wi,w4,ix,vg,s24,s16,s8,sb,w8n,F,SC,CP,x_idxArr,↓x_slcA,x_slcAE,x_M1,x_M0,↓x_copy,↓x_conv,x_convV,Nat.mul_one,↓x_buildS,x_buildE,↓x_P0,↓x_P1,Int.cast_ofNat_Int,↓s_skip,↓s_ops,↓s_seq,↓s_cond,↓s_block,↓s_nil,↓s_op,↓s_bindS,s_bindS,↓s_bindE,s_bindE,s_norm,↓s_condV,s_condV,s_block_normal,↓s_getp,↓s_con,↓s_mov,↓s_bin,s_same,b_lss,b_add,b_mul,↓iteN_true,↓iteN_false,iteN_true,iteN_false,Nat.reduceEqDiff,decide_true,decide_false]
    exact rfl,⟨⟨by omega,rfl,(by (simp only [s_getp,Nat.reduceEqDiff,decide_false,iteN_false,t4]; try rfl)),(by (simp only [s_getp,Nat.reduceEqDiff,decide_false,iteN_false,t21]; try rfl)),(by (simp only [s_getp,decide_true,iteN_true]; try rfl)),by rw [h_put_same,eC'],(kq.new _).put _ (.inr rfl),on⟩,(by (simp only [s_getp,Nat.reduceEqDiff,decide_false,iteN_false,t2]; try rfl))⟩⟩
theorem end_loop (Q : Orc) (n o r : Nat) (hn : 8 < n) (st : List Nat) (hst : st.length = 8) (h0 : H) (T : Tr V) (h : H) (I : EI o st h0 0 T h ∧ evO T (.t 2) = .ptr (some (r,0))) :
    ∃ T' h',loopN (evC Q 44 n none L_sha_Sum_End_0) n ⟨T,[],h⟩ = some (.exit 0,⟨T',[],h'⟩) ∧ (EI o st h0 8 T' h' ∧ evO T' (.t 2) = .ptr (some (r,0))) :=
  loop_go (fun i T h => EI o st h0 i T h ∧ evO T (.t 2) = .ptr (some (r,0))) 8 (.exit 0) (by intro h; cases h) _ (end_step Q n o r st hst h0) (fun T h I => by
    obtain ⟨⟨a,_,t4,t21,t22,go,kq,on⟩,t2⟩ := I
    have c0 : decide (((8 : Nat) : Int) < 8) = false := rfl
    refine ⟨_,_,by
      simp (config := {maxSteps := 2000000}) (disch := first | omega | (simp only [List.length_cons,List.length_nil,List.length_append,List.length_drop]; omega)) only [L_sha_Sum_End_0,t22,Int.reduceLT,Int.cast_ofNat_Int,↓s_ops,↓s_seq,↓s_cond,↓s_exit,↓s_nil,↓s_op,↓s_bindS,s_bindS,↓s_bindE,s_bindE,s_bindE_exit,s_norm,↓s_condV,s_condV,↓s_getp,↓s_con,↓s_bin,s_same,b_lss,↓iteN_true,↓iteN_false,iteN_true,iteN_false,decide_true,decide_false]
      exact rfl,⟨⟨a,rfl,(by (simp only [s_getp,Nat.reduceEqDiff,decide_false,iteN_false,t4]; try rfl)),(by (simp only [s_getp,Nat.reduceEqDiff,decide_false,iteN_false,t21]; try rfl)),(by (simp only [s_getp,Nat.reduceEqDiff,decide_false,iteN_false,t22]; try rfl)),go,kq,on⟩,(by (simp only [s_getp,Nat.reduceEqDiff,decide_false,iteN_false,t2]; try rfl))⟩⟩) 8 0 rfl n hn T h I
def shaV (l : List Nat) : List Nat := endV (absorb initS l)
theorem shend_go (e : EnSha E) (x : NoSha X) (M p : Nat) (s : Sm) (ok : SmOk s) (h : H) (hM : 100 < M) (hp : h.get p = some (.cells (sumC s.st s.blk s.len) .rw)) (hpn : p < h.next) :
    ∃ h',callX E X (M + 81) (.fn k_sha_Sum_End) [.ptr (some (p,0))] h = some (.agg (ofI .u8 (endV s)),h') ∧ Kp h h' := by
  rw [x_cfn e.fin _ _ (Nat.le_of_ble_eq_true rfl) (x.fin _ _)]
  have z32 : ofI .u8 (List.replicate 32 0) = [.int .u8 0,.int .u8 0,.int .u8 0,.int .u8 0,.int .u8 0,.int .u8 0,.int .u8 0,.int .u8 0,.int .u8 0,.int .u8 0,.int .u8 0,.int .u8 0,.int .u8 0,.int .u8 0,.int .u8 0,.int .u8 0,.int .u8 0,.int .u8 0,.int .u8 0,.int .u8 0,.int .u8 0,.int .u8 0,.int .u8 0,.int .u8 0,.int .u8 0,.int .u8 0,.int .u8 0,.int .u8 0,.int .u8 0,.int .u8 0,.int .u8 0,.int .u8 0] := rfl
  obtain ⟨z74,e74⟩ : ∃ z,([.int .u32 0,.int .u32 0,.int .u32 0,.int .u32 0,.int .u32 0,.int .u32 0,.int .u32 0,.int .u32 0,.int .u8 0,.int .u8 0,.int .u8 0,.int .u8 0,.int .u8 0,.int .u8 0,.int .u8 0,.int .u8 0,.int .u8 0,.int .u8 0,.int .u8 0,.int .u8 0,.int .u8 0,.int .u8 0,.int .u8 0,.int .u8 0,.int .u8 0,.int .u8 0,.int .u8 0,.int .u8 0,.int .u8 0,.int .u8 0,.int .u8 0,.int .u8 0,.int .u8 0,.int .u8 0,.int .u8 0,.int .u8 0,.int .u8 0,.int .u8 0,.int .u8 0,.int .u8 0,.int .u8 0,.int .u8 0,.int .u8 0,.int .u8 0,.int .u8 0,.int .u8 0,.int .u8 0,.int .u8 0,.int .u8 0,.int .u8 0,.int .u8 0,.int .u8 0,.int .u8 0,.int .u8 0,.int .u8 0,.int .u8 0,.int .u8 0,.int .u8 0,.int .u8 0,.int .u8 0,.int .u8 0,.int .u8 0,.int .u8 0,.int .u8 0,.int .u8 0,.int .u8 0,.int .u8 0,.int .u8 0,.int .u8 0,.int .u8 0,.int .u8 0,.int .u8 0,.int .u64 0,.bool false] : List V) = z := ⟨_,rfl⟩
  have l74 : z74.length = 74 := by rw [← e74]; rfl
  obtain ⟨h1,e1⟩ : ∃ h1,h.new (.cells (ofI .u8 (List.replicate 32 0)) .rw) = h1 := ⟨_,rfl⟩
  have n1 : h1.next = h.next + 1 := by rw [← e1]; rfl
  have g1 : h1.get p = some (.cells (sumC s.st s.blk s.len) .rw) := by rw [← e1,h_new_ne _ _ (by omega),hp]
  have su := sums_go e x (M + 79) p s.st s.blk s.len .rw h1 ok.1 ok.2.1 g1
  have sle := sumC_len s.st s.blk s.len ok.1 ok.2.1
  have ld : loadE (some (.cells (sumC s.st s.blk s.len) .rw)) (some 74) 0 = some (.agg (sumC s.st s.blk s.len)) := by rw [m_loadN,x_readAll _ 74 sle]
  have ll : loadE (some (.cells (sumC s.st s.blk s.len) .rw)) none 72 = some (.int .u64 (s.len : Int)) := by rw [m_load1,sumC_l _ _ _ ok.1 ok.2.1]
  have S74 : ∀ (h : H) (i : Nat),storeV h 74 (.ptr (some (i,0))) (.agg (sumC s.st s.blk s.len)) = storeE (h.get i) h i 0 (sumC s.st s.blk s.len) := fun h i => m_storeA h 74 i 0 _ (by rw [sle,sumC_plain]; rfl)
  have st74 : ∀ (h : H) (i : Nat),storeE (some (.cells z74 .rw)) h i 0 (sumC s.st s.blk s.len) = some (h.put i (.cells (sumC s.st s.blk s.len) .rw)) := fun h i => by rw [m_storeE _ _ _ _ _ (by omega),writeN_all _ _ (by omega)]
  obtain ⟨h2,e2⟩ : ∃ h2,(h1.new (.cells z74 .rw)).put (h.next + 1) (.cells (sumC s.st s.blk s.len) .rw) = h2 := ⟨_,rfl⟩
  have n2 : h2.next = h.next + 2 := by rw [← e2]; simp only [h_next_put,h_next_new,n1]
  have k2 : Kp h h2 := by rw [← e2,← e1]; exact (((Kp.new _ _).trans (Kp.new _ _))).put _ (by omega)
  obtain ⟨h3,r3,g3,k3,n3⟩ := pad_go e x (M + 70) s.len ok.2.2 h2
  rw [n2] at r3 g3 n3
  have k23 := k2.trans k3
  have g3q : h3.get (h.next + 1) = some (.cells (sumC s.st s.blk s.len) .rw) := by rw [k3.2 _ (by omega),← e2,h_put_same]
  obtain ⟨h4,r4,g4,k4⟩ := write_go e x M (h.next + 1) s ok (padV s.len) (some (h.next + 2,0)) (some (padV s.len).length) 1 h3 (by have := padSz_b s.len; rw [padV_len]; omega) (by have := padSz_b s.len; rw [padV_len]; omega) g3q (by omega) (.inr ⟨h.next + 2,0,_,_,rfl,rfl,by omega,by omega,g3,by rw [ofI_len]; omega,by rw [List.drop_zero,← ofI_len .u8,List.take_length]⟩)
  have ok2 := absorb_ok (padV s.len) s ok
  have aE : endV s = hashV (absorb s (padV s.len)).st := rfl
  obtain ⟨s2,es2⟩ : ∃ s2,absorb s (padV s.len) = s2 := ⟨_,rfl⟩
  rw [es2] at g4 ok2 aE
  have g4r : h4.get h.next = some (.cells (ofI .u8 (List.replicate 32 0)) .rw) := by
    rw [k4.2 _ (by omega) (by omega),k3.2 _ (by omega),← e2,h_put_ne _ _ (by omega),h_new_ne _ _ (by omega),← e1,h_new_same]
  have k4h : Kp h h4 := ⟨by have := k4.1; omega,fun i hi => by rw [k4.2 _ (by omega) (by omega),k23.2 _ hi]⟩
  have n4 : h.next + 3 ≤ h4.next := by have := k4.1; omega
  have fin : ∀ T,EI h4.next s2.st (h4.new (.cells (ofI .u8 (List.replicate 32 0)) .rw)) 0 T (h4.new (.cells (ofI .u8 (List.replicate 32 0)) .rw)) ∧ evO T (.t 2) = .ptr (some (h.next,0)) →
      ∃ h',fnEnd [.cell 2 (some 32)] (bindE (blockE 0 (loopN (evC (callX E X (M + 80)) 44 (M + 80) none L_sha_Sum_End_0) (M + 80) ⟨T,[],h4.new (.cells (ofI .u8 (List.replicate 32 0)) .rw)⟩)) (evC (callX E X (M + 80)) 44 (M + 80) none R_sha_Sum_End_0)) = some (.agg (ofI .u8 (endV s)),h') ∧ Kp h h' := by
    intro T I
    obtain ⟨T',h',r5,⟨a,_,t4,t21,t22,go,kq,on⟩,t2⟩ := end_loop (callX E X (M + 80)) (M + 80) h4.next h.next (by omega) s2.st ok2.1 _ T _ I
    rw [r5,aE]
    have go' : h'.get h4.next = some (.cells (ofI .u8 (hashV s2.st)) .rw) := go
    have hl : (ofI .u8 (hashV s2.st)).length = 32 := by rw [ofI_len]; exact outN_len _ _ (by omega)
    have gr : h'.get h.next = some (.cells (ofI .u8 (List.replicate 32 0)) .rw) := by rw [kq.2 _ (by rw [h_next_new]; omega) (by omega),h_new_ne _ _ (by omega),g4r]
    have l32 : loadE (some (.cells (ofI .u8 (hashV s2.st)) .rw)) (some 32) 0 = some (.agg (ofI .u8 (hashV s2.st))) := by rw [m_loadN,x_readAll _ 32 hl]
    have S32 : ∀ (h : H) (i : Nat),storeV h 32 (.ptr (some (i,0))) (.agg (ofI .u8 (hashV s2.st))) = storeE (h.get i) h i 0 (ofI .u8 (hashV s2.st)) := fun h i => m_storeA h 32 i 0 _ (by rw [hl,plain_ofI]; rfl)
    have st32 : ∀ (h : H) (i : Nat),storeE (some (.cells (ofI .u8 (List.replicate 32 0)) .rw)) h i 0 (ofI .u8 (hashV s2.st)) = some (h.put i (.cells (ofI .u8 (hashV s2.st)) .rw)) := fun h i => by rw [m_storeE _ _ _ _ _ (by rw [hl,ofI_len,List.length_replicate]; omega),writeN_all _ _ (by rw [hl,ofI_len,List.length_replicate])]
    generalize ofI .u8 (hashV s2.st) = R at *
    generalize ofI .u8 (List.replicate 32 0) = Z at *
    simp (config := {maxSteps := 2000000}) (disch := first | omega | (simp only [List.length_cons,List.length_nil,List.length_append,List.length_drop]; omega)) only [R_sha_Sum_End_0,t2,t4,go',gr,l32,S32,st32,↓h_put_get,↓s_load,m_load,↓m_st,m_stE,s_resc,s_consR,s_res0,↓s_ops,↓s_seq,↓s_ret,↓s_nil,↓s_op,↓s_bindS,s_bindS,↓s_bindE,s_bindE,s_norm,s_block_exit,↓s_getp,↓s_getp0,s_same,s_end,s_res0,s_tup1,↓iteN_true,↓iteN_false,iteN_true,iteN_false,Nat.reduceEqDiff,decide_true,decide_false,if_true]
    refine ⟨_,rfl,⟨by have := kq.1; rw [h_next_new] at this; simp only [h_next_put]; omega,fun i hi => ?_⟩⟩
    rw [h_put_ne _ _ (by omega),kq.2 _ (by rw [h_next_new]; omega) (by omega),h_new_ne _ _ (by omega),k4h.2 _ hi]
  have ld8 : loadE (some (.cells (sumC s2.st s2.blk s2.len) .rw)) (some 8) 0 = some (.agg (ofI .u32 s2.st)) := by
    have hs : (ofI .u32 s2.st).length = 8 := by rw [ofI_len,ok2.1]
    rw [m_loadN,readN_of _ _ _ (by rw [sumC_len _ _ _ ok2.1 ok2.2.1]; omega)]
    unfold sumC
    rw [List.drop_zero,List.take_left' hs]
  have g4q : (h4.new (.cells (ofI .u8 (List.replicate 32 0)) .rw)).get (h.next + 1) = some (.cells (sumC s2.st s2.blk s2.len) .rw) := by rw [h_new_ne _ _ (by omega),g4]
  have ng : (h.next = h.next + 1) = False := by simp
  have np : (h.next = p) = False := by simp; omega
  have np1 : (h.next + 1 = p) = False := by simp; omega
  have n4q : (h4.next = h.next + 1) = False := by simp; omega
  have x1 : ∀ v : V,V.cells (.agg [v]) = [v] := fun _ => rfl
  have gp2 : h2.get p = some (.cells (sumC s.st s.blk s.len) .rw) := by rw [k2.2 _ hpn,hp]
  obtain ⟨R,eR⟩ : ∃ R,R_sha_Sum_End_0 = R := ⟨_,rfl⟩
  obtain ⟨L,eL⟩ : ∃ R,L_sha_Sum_End_0 = R := ⟨_,rfl⟩
  have o0 : ofI .u8 (outN s2.st 0) = ofI .u8 (List.replicate 32 0) := rfl
  rw [eR,eL] at fin ⊢
  rw [e74,← z32]
  generalize ofI .u8 (List.replicate 32 0) = z at *
  generalize sumC s.st s.blk s.len = C at *
  generalize sumC s2.st s2.blk s2.len = C2 at *
  obtain ⟨pl,epl⟩ : ∃ l,padV s.len = l := ⟨_,rfl⟩
  rw [epl] at r3 r4
  simp (config := {maxSteps := 2000000}) (disch := first | omega | (simp only [List.length_cons,List.length_nil,List.length_append,List.length_drop]; omega)) only [e1,n1,su,g1,ld,ll,S74,st74,e2,gp2,r3,r4,g4,n4q,ld8,↓x_fieldAddr,x_fieldV,↓s_nilchk,x_nilchk,Nat.zero_add,Nat.add_zero,↓l_loop,↓l_succ,↓h_new_get,↓s_load,m_load,↓m_st,m_stE,↓s_alloc,↓s_skip,↓s_ops,↓s_seq,↓s_cond,↓s_block,↓s_nil,↓s_op,↓s_bindS,s_bindS,↓s_bindE,s_bindE,s_norm,↓s_condV,s_condV,↓s_getp,↓s_getp0,↓s_get,↓s_con,↓s_os0,↓s_os1,↓s_list0,↓s_list1,↓s_mov,↓s_un,↓s_call,s_same,u_not,↓iteN_true,↓iteN_false,iteN_true,iteN_false,Nat.zero_add,Nat.reduceEqDiff,decide_true,decide_false,Bool.not_true]
  exact fin _ ⟨⟨by omega,rfl,(by (simp only [s_getp,Nat.reduceEqDiff,decide_false,decide_true,iteN_false,iteN_true]; try rfl)),(by (simp only [s_getp,Nat.reduceEqDiff,decide_false,decide_true,iteN_false,iteN_true]; try rfl)),(by (simp only [s_getp,decide_true,iteN_true]; try rfl)),by rw [o0,h_new_same],Kq.refl _ _,by rw [h_next_new]; omega⟩,(by (simp only [s_getp,s_getp0,Nat.reduceEqDiff,decide_false,decide_true,iteN_false,iteN_true]; try rfl))⟩
theorem shaV_len (l : List Nat) : (shaV l).length = 32 := hashV_len _
theorem of_go (e : EnSha E) (x : NoSha X) (e1 : E k_sha_Of = some f_sha_Of) (x1 : ∀ a h,X (.fn k_sha_Of) a h = none) (M : Nat) (l : List Nat) (a : Option (Nat × Nat)) (c : Option Nat) (ez : Nat) (h : H) (hM : l.length < M) (hM0 : 100 < M) (hM2 : l.length < 9223372036854775808) (src : SrcH h a ez l) :
    ∃ h',callX E X (M + 82) (.fn k_sha_Of) [.slice a l.length c ez] h = some (.agg (ofI .u8 (shaV l)),h') ∧ Kp h h' := by
  rw [x_cfn e1 _ _ (Nat.le_of_ble_eq_true rfl) (x1 _ _)]
  obtain ⟨h1,eh1⟩ : ∃ h1,h.new (.cells (ofI .u8 (List.replicate 32 0)) .rw) = h1 := ⟨_,rfl⟩
  have n1 : h1.next = h.next + 1 := by rw [← eh1]; rfl
  have k1 : Kp h h1 := by rw [← eh1]; exact Kp.new _ _
  have g1 : h1.get h.next = some (.cells (ofI .u8 (List.replicate 32 0)) .rw) := by rw [← eh1,h_new_same]
  obtain ⟨h2,r2,g2,k2,n2⟩ := new_go e x (M + 79) h1
  obtain ⟨h3,r3,g3,k3⟩ := write_go e x (M + 1) (h2.next - 1) initS initS_ok l a c ez h2 (by omega) hM2 g2 (by omega) (src.src (k1.trans k2) _ (by omega))
  obtain ⟨h4,r4,k4⟩ := shend_go e x M (h2.next - 1) (absorb initS l) (absorb_ok l _ initS_ok) h3 hM0 g3 (by have := k3.1; omega)
  have K3 : Kp h1 h3 := ⟨by have := k3.1; have := k2.1; omega,fun i hi => by rw [k3.2 _ (by omega) (by omega),k2.2 _ hi]⟩
  have K4 : Kp h1 h4 := K3.trans k4
  have g4 : h4.get h.next = some (.cells (ofI .u8 (List.replicate 32 0)) .rw) := by rw [K4.2 _ (by omega),g1]
  obtain ⟨p1,p2,p3⟩ := put32 (shaV l) (shaV_len l)
  have es : endV (absorb initS l) = shaV l := rfl
  rw [es] at r4
  rw [← z32e]
  generalize ofI .u8 (shaV l) = R at *
  generalize ofI .u8 (List.replicate 32 0) = Z at *
  simp (config := {maxSteps := 2000000}) (disch := first | omega | (simp only [List.length_cons,List.length_nil,List.length_append,List.length_drop]; omega)) only [eh1,r2,r3,r4,g4,p1,p2,p3,↓h_put_get,m_load,↓m_st,m_stE,↓s_alloc,s_resc,s_consR,s_res0,↓s_ops,↓s_seq,↓s_ret,↓s_nil,↓s_op,↓s_bindS,s_bindS,↓s_bindE,s_bindE,s_norm,↓s_getp,↓s_getp0,↓s_get,↓s_os0,↓s_os1,↓s_list0,↓s_list1,↓s_mov,↓s_call,s_end,s_res0,s_tup1,↓iteN_true,↓iteN_false,iteN_true,iteN_false,Nat.reduceEqDiff,decide_true,decide_false]
  exact ⟨_,rfl,(k1.trans K4).put _ (Nat.le_refl _)⟩
def ofS (l : List Nat) : Option V := if decide (l.length ≤ 100000) then some (.agg (ofI .u8 (shaV l))) else none
theorem shaV_fold (l : List Nat) (hl : l.length < 2305843009213693952) : shaV l = hashV (fold64 squaresL ((l.length + padSz l.length) / 64) (l ++ padL l.length)) := by
  unfold shaV endV
  have ln : ∀ (l : List Nat) (s : Sm),SmOk s → s.len + l.length < 18446744073709551616 → (absorb s l).len = s.len + l.length := by
    intro l
    induction l with
    | nil => intro s _ _; rfl
    | cons b r ih =>
      intro s ok h
      simp only [List.length_cons] at h
      have := ih (eat1 s b) (eat1_ok s b ok) (by simp only [eat1]; omega)
      show (absorb (eat1 s b) r).len = _
      rw [this]; simp only [eat1,List.length_cons]; omega
  have e1 : (absorb initS l).len = l.length := by rw [ln l initS initS_ok (by simp only [initS]; omega)]; simp [initS]
  rw [e1,padV_eq,show (128 :: (List.replicate (padSz l.length - 9) 0 ++ be8 (l.length * 8 % 18446744073709551616))) = padL l.length from rfl,← absorb_app]
  have hm := padSz_mod l.length
  have hb := padSz_b l.length
  rw [absorb_fold ((l.length + padSz l.length) / 64) initS (l ++ padL l.length) initS_ok rfl (by simp only [padL,be8,List.length_append,List.length_cons,List.length_replicate,List.length_nil]; omega)]
  rfl
theorem shaV_byt (l : List Nat) : byt (shaV l) = true := by
  have : ∀ st i,byt (outN st i) = true := by
    intro st i
    induction i with
    | zero => rfl
    | succ i ih =>
      rw [byt_iff] at ih ⊢
      intro x hx
      unfold outN at hx
      rcases List.mem_append.1 hx with h | h
      · rcases List.mem_append.1 h with h | h
        · exact ih x (List.mem_of_mem_take h)
        · simp only [be4,List.mem_cons,List.not_mem_nil,or_false] at h; omega
      · exact ih x (List.mem_of_mem_drop h)
  exact this _ _
noncomputable def ofQ (r : Option (List Nat)) (fb : Option (V × H)) (h : H) : Option (V × H) := match r with
  | some l => match ofS l with
    | some v => some (v,h)
    | none => fb
  | none => fb
@[congr] theorem ofQ_congr {r r' : Option (List Nat)} {fb : Option (V × H)} {h : H} (e : r = r') : ofQ r fb h = ofQ r' fb h := by rw [e]
end Go.Eng
