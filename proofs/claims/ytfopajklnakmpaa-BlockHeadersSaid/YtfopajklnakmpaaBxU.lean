/- What functions of the program come to: own work. -/
import Derived.Test.YtfopajklnakmpaaBxT
namespace Go.Eng
open Go
variable {E : Nat → Option Fn} {X : Orc}
set_option linter.unusedSimpArgs false
set_option linter.unusedVariables false
structure NoRo (X : Orc) : Prop where
  turned : ∀ a h,X (.fn k_purserref04_turned) a h = none
  square : ∀ a h,X (.fn k_purserref04_Square) a h = none
  cube : ∀ a h,X (.fn k_purserref04_Cube) a h = none
  padded : ∀ a h,X (.fn k_purserref04_padded) a h = none
  of_ : ∀ a h,X (.fn k_purserref04_Of) a h = none
structure EnRo (E : Nat → Option Fn) : Prop where
  turned : E k_purserref04_turned = some f_purserref04_turned
  square : E k_purserref04_Square = some f_purserref04_Square
  cube : E k_purserref04_Cube = some f_purserref04_Cube
  padded : E k_purserref04_padded = some f_purserref04_padded
  of_ : E k_purserref04_Of = some f_purserref04_Of
theorem rturned_go (e : EnRo E) (x : NoRo X) (N a n : Nat) (hn : n ≤ 32) (h : H) : callX E X (N + 1) (.fn k_purserref04_turned) [.int .u32 (a : Int),.int .u64 (n : Int)] h = some (.int .u32 (rl a (32 - n) : Nat),h) := by
  rw [x_cfn e.turned _ _ (Nat.le_of_ble_eq_true rfl) (x.turned _ _)]
  have w1 : wr .u64 ((32 : Int) - (n : Int)) = ((32 - n : Nat) : Int) := by rw [wr_u64 (by omega)]; omega
  have er : rl a (32 - n) = orr (sr a n) (sl a (32 - n)) := by unfold rl; rw [orr_comm,show 32 - (32 - n) = n by omega]
  simp (config := {maxSteps := 2000000}) (disch := first | omega | (simp only [List.length_cons,List.length_nil,List.length_append,List.length_drop]; omega)) only [w1,b_shl32,b_shr32,↓b_or32,b_or32,Nat.zero_add,s_res0,↓s_ops,↓s_seq,↓s_ret,↓s_nil,↓s_op,↓s_bindS,s_bindS,↓s_bindE,s_bindE,s_norm,↓s_getp,↓s_get,↓s_con,↓s_list0,↓s_list1,↓s_mov,↓s_bin,s_same,b_sub,s_end,s_res0,s_res1,s_tup1,↓iteN_true,↓iteN_false,iteN_true,iteN_false,Nat.zero_add,Nat.reduceEqDiff,decide_true,decide_false]
  rw [er]
theorem rturnedL (e : EnRo E) (x : NoRo X) (N a : Nat) (h : H) :
    (callX E X (N + 1) (.fn k_purserref04_turned) [.int .u32 (a : Int),.int .u64 7] h = some (.int .u32 (rl a 25 : Nat),h)) ∧
    (callX E X (N + 1) (.fn k_purserref04_turned) [.int .u32 (a : Int),.int .u64 18] h = some (.int .u32 (rl a 14 : Nat),h)) ∧
    (callX E X (N + 1) (.fn k_purserref04_turned) [.int .u32 (a : Int),.int .u64 17] h = some (.int .u32 (rl a 15 : Nat),h)) ∧
    (callX E X (N + 1) (.fn k_purserref04_turned) [.int .u32 (a : Int),.int .u64 19] h = some (.int .u32 (rl a 13 : Nat),h)) ∧
    (callX E X (N + 1) (.fn k_purserref04_turned) [.int .u32 (a : Int),.int .u64 6] h = some (.int .u32 (rl a 26 : Nat),h)) ∧
    (callX E X (N + 1) (.fn k_purserref04_turned) [.int .u32 (a : Int),.int .u64 11] h = some (.int .u32 (rl a 21 : Nat),h)) ∧
    (callX E X (N + 1) (.fn k_purserref04_turned) [.int .u32 (a : Int),.int .u64 25] h = some (.int .u32 (rl a 7 : Nat),h)) ∧
    (callX E X (N + 1) (.fn k_purserref04_turned) [.int .u32 (a : Int),.int .u64 2] h = some (.int .u32 (rl a 30 : Nat),h)) ∧
    (callX E X (N + 1) (.fn k_purserref04_turned) [.int .u32 (a : Int),.int .u64 13] h = some (.int .u32 (rl a 19 : Nat),h)) ∧
    (callX E X (N + 1) (.fn k_purserref04_turned) [.int .u32 (a : Int),.int .u64 22] h = some (.int .u32 (rl a 10 : Nat),h)) :=
  ⟨rturned_go e x N a 7 (by omega) h,rturned_go e x N a 18 (by omega) h,rturned_go e x N a 17 (by omega) h,rturned_go e x N a 19 (by omega) h,rturned_go e x N a 6 (by omega) h,rturned_go e x N a 11 (by omega) h,rturned_go e x N a 25 (by omega) h,rturned_go e x N a 2 (by omega) h,rturned_go e x N a 13 (by omega) h,rturned_go e x N a 22 (by omega) h⟩
theorem rsquare_go (e : EnRo E) (x : NoRo X) (N : Nat) (h : H) : callX E X (N + 1) (.fn k_purserref04_Square) [] h = some (.slice (some (h.next,0)) 8 (some 8) 1,h.new (.cells (ofI .u32 squaresL) .rw)) := by
  rw [x_cfn e.square _ _ (Nat.le_of_ble_eq_true rfl) (x.square _ _)]
  have F : ∀ T : Tr V,fillV [.int .u32 0,.int .u32 0,.int .u32 0,.int .u32 0,.int .u32 0,.int .u32 0,.int .u32 0,.int .u32 0] (evP T [(0,1,(.c (.int .u32 1779033703))),(1,1,(.c (.int .u32 3144134277))),(2,1,(.c (.int .u32 1013904242))),(3,1,(.c (.int .u32 2773480762))),(4,1,(.c (.int .u32 1359893119))),(5,1,(.c (.int .u32 2600822924))),(6,1,(.c (.int .u32 528734635))),(7,1,(.c (.int .u32 1541459225)))]) = some (ofI .u32 squaresL) := fun T => by rw [show evP T _ = seqP .u32 0 squaresL from rfl]; exact fill_seq0 _ _ _ rfl
  generalize ofI .u32 squaresL = sq at *
  simp (config := {maxSteps := 2000000}) (disch := first | omega | (simp only [List.length_cons,List.length_nil,List.length_append,List.length_drop]; omega)) only [↓F,↓x_buildS,x_buildE,s_res0,↓s_ops,↓s_seq,↓s_ret,↓s_nil,↓s_op,↓s_bindS,s_bindS,↓s_bindE,s_bindE,s_norm,↓s_getp,↓s_con,↓s_list0,↓s_mov,s_end,s_res0,s_res1,s_tup1,↓iteN_true,iteN_true,decide_true]
theorem rcube_go (e : EnRo E) (x : NoRo X) (N : Nat) (h : H) : callX E X (N + 1) (.fn k_purserref04_Cube) [] h = some (.slice (some (h.next,0)) 64 (some 64) 1,h.new (.cells (ofI .u32 cubes) .rw)) := by
  rw [x_cfn e.cube _ _ (Nat.le_of_ble_eq_true rfl) (x.cube _ _)]
  have F : ∀ T : Tr V,fillV [.int .u32 0,.int .u32 0,.int .u32 0,.int .u32 0,.int .u32 0,.int .u32 0,.int .u32 0,.int .u32 0,.int .u32 0,.int .u32 0,.int .u32 0,.int .u32 0,.int .u32 0,.int .u32 0,.int .u32 0,.int .u32 0,.int .u32 0,.int .u32 0,.int .u32 0,.int .u32 0,.int .u32 0,.int .u32 0,.int .u32 0,.int .u32 0,.int .u32 0,.int .u32 0,.int .u32 0,.int .u32 0,.int .u32 0,.int .u32 0,.int .u32 0,.int .u32 0,.int .u32 0,.int .u32 0,.int .u32 0,.int .u32 0,.int .u32 0,.int .u32 0,.int .u32 0,.int .u32 0,.int .u32 0,.int .u32 0,.int .u32 0,.int .u32 0,.int .u32 0,.int .u32 0,.int .u32 0,.int .u32 0,.int .u32 0,.int .u32 0,.int .u32 0,.int .u32 0,.int .u32 0,.int .u32 0,.int .u32 0,.int .u32 0,.int .u32 0,.int .u32 0,.int .u32 0,.int .u32 0,.int .u32 0,.int .u32 0,.int .u32 0,.int .u32 0] (evP T [(0,1,(.c (.int .u32 1116352408))),(1,1,(.c (.int .u32 1899447441))),(2,1,(.c (.int .u32 3049323471))),(3,1,(.c (.int .u32 3921009573))),(4,1,(.c (.int .u32 961987163))),(5,1,(.c (.int .u32 1508970993))),(6,1,(.c (.int .u32 2453635748))),(7,1,(.c (.int .u32 2870763221))),(8,1,(.c (.int .u32 3624381080))),(9,1,(.c (.int .u32 310598401))),(10,1,(.c (.int .u32 607225278))),(11,1,(.c (.int .u32 1426881987))),(12,1,(.c (.int .u32 1925078388))),(13,1,(.c (.int .u32 2162078206))),(14,1,(.c (.int .u32 2614888103))),(15,1,(.c (.int .u32 3248222580))),(16,1,(.c (.int .u32 3835390401))),(17,1,(.c (.int .u32 4022224774))),(18,1,(.c (.int .u32 264347078))),(19,1,(.c (.int .u32 604807628))),(20,1,(.c (.int .u32 770255983))),(21,1,(.c (.int .u32 1249150122))),(22,1,(.c (.int .u32 1555081692))),(23,1,(.c (.int .u32 1996064986))),(24,1,(.c (.int .u32 2554220882))),(25,1,(.c (.int .u32 2821834349))),(26,1,(.c (.int .u32 2952996808))),(27,1,(.c (.int .u32 3210313671))),(28,1,(.c (.int .u32 3336571891))),(29,1,(.c (.int .u32 3584528711))),(30,1,(.c (.int .u32 113926993))),(31,1,(.c (.int .u32 338241895))),(32,1,(.c (.int .u32 666307205))),(33,1,(.c (.int .u32 773529912))),(34,1,(.c (.int .u32 1294757372))),(35,1,(.c (.int .u32 1396182291))),(36,1,(.c (.int .u32 1695183700))),(37,1,(.c (.int .u32 1986661051))),(38,1,(.c (.int .u32 2177026350))),(39,1,(.c (.int .u32 2456956037))),(40,1,(.c (.int .u32 2730485921))),(41,1,(.c (.int .u32 2820302411))),(42,1,(.c (.int .u32 3259730800))),(43,1,(.c (.int .u32 3345764771))),(44,1,(.c (.int .u32 3516065817))),(45,1,(.c (.int .u32 3600352804))),(46,1,(.c (.int .u32 4094571909))),(47,1,(.c (.int .u32 275423344))),(48,1,(.c (.int .u32 430227734))),(49,1,(.c (.int .u32 506948616))),(50,1,(.c (.int .u32 659060556))),(51,1,(.c (.int .u32 883997877))),(52,1,(.c (.int .u32 958139571))),(53,1,(.c (.int .u32 1322822218))),(54,1,(.c (.int .u32 1537002063))),(55,1,(.c (.int .u32 1747873779))),(56,1,(.c (.int .u32 1955562222))),(57,1,(.c (.int .u32 2024104815))),(58,1,(.c (.int .u32 2227730452))),(59,1,(.c (.int .u32 2361852424))),(60,1,(.c (.int .u32 2428436474))),(61,1,(.c (.int .u32 2756734187))),(62,1,(.c (.int .u32 3204031479))),(63,1,(.c (.int .u32 3329325298)))]) = some (ofI .u32 cubes) := fun T => by rw [show evP T _ = seqP .u32 0 cubes from rfl]; exact fill_seq0 _ _ _ rfl
  generalize ofI .u32 cubes = sq at *
  simp (config := {maxSteps := 2000000}) (disch := first | omega | (simp only [List.length_cons,List.length_nil,List.length_append,List.length_drop]; omega)) only [↓F,↓x_buildS,x_buildE,s_res0,↓s_ops,↓s_seq,↓s_ret,↓s_nil,↓s_op,↓s_bindS,s_bindS,↓s_bindE,s_bindE,s_norm,↓s_getp,↓s_con,↓s_list0,↓s_mov,s_end,s_res0,s_res1,s_tup1,↓iteN_true,iteN_true,decide_true]
theorem rpad_step (Q : Orc) (n : Nat) (h0 : H) (l : List Nat) (hl : l.length ≤ 400001) :
    ∀ i T h,i < padSz l.length - 9 → RI2 h0 l i T h → ∃ T' h',evC Q 38 n none L_purserref04_padded_0 ⟨T,[],h⟩ = some (.normal,⟨T',[],h'⟩) ∧ RI2 h0 l (i + 1) T' h' := by
  intro i T h hi ⟨_,⟨a,c,e,t0⟩,⟨p,md,t3,gp,hmd,hp0,hpn⟩,kp⟩
  have hb := padSz_b l.length
  have rm : ∀ e h,binV .rem e h (.int .i64 ((l.length + 1 + i : Nat) : Int)) (.int .i64 64) = some (.int .i64 (((l.length + 1 + i) % 64 : Nat) : Int)) := fun e h => by rw [b_rem _ _ _ _ _ (by omega)]; rfl
  have ne : (l.length + 1 + i) % 64 ≠ 56 := by unfold padSz at hi hb; split at hi <;> omega
  have c0 : decide ((((l.length + 1 + i) % 64 : Nat) : Int) = 56) = false := decide_eq_false (by omega)
  have lc : (l ++ 128 :: List.replicate i 0).length = l.length + 1 + i := by simp; omega
  have ap := app1 (h.new (.cells [.int .u8 ((0 : Nat) : Int)] .rw)) p (l.length + 1 + i) 0 _ md hmd (by rw [h_new_ne _ _ (by omega),gp]) lc (by omega)
  have sc := src1 h 0
  have er : l ++ 128 :: List.replicate i 0 ++ [0] = l ++ 128 :: List.replicate (i + 1) 0 := by
    rw [List.append_assoc,List.cons_append]; congr 2
    rw [show ([0] : List Nat) = List.replicate 1 0 from rfl,List.replicate_append_replicate]
  rw [er] at ap
  obtain ⟨C,eC⟩ : ∃ C,ofI .u8 (l ++ 128 :: List.replicate (i + 1) 0) = C := ⟨_,rfl⟩
  obtain ⟨m,em⟩ : ∃ m,l.length + 1 + i = m := ⟨_,rfl⟩
  rw [em] at t3 rm c0 ap
  rw [eC] at ap
  simp only [Int.cast_ofNat_Int] at ap sc
  refine ⟨_,_,by
    simp (config := {maxSteps := 2000000}) (disch := first | omega | (simp only [List.length_cons,List.length_nil,List.length_append,List.length_drop]; omega)) only [L_purserref04_padded_0,t3,rm,c0,sc,ap,↓s_append,↓s_len,x_lenS,Nat.zero_add,h_next_new,w_zero,x_lenS,↓s_len,↓x_buildS,x_buildE,↓x_P0,↓x_P1,x_fill0,x_filli,List.length_cons,List.length_nil,List.drop_succ_cons,List.drop_nil,↓s_skip,↓s_ops,↓s_seq,↓s_cond,↓s_block,↓s_nil,↓s_op,↓s_bindS,s_bindS,↓s_bindE,s_bindE,s_norm,↓s_condV,s_condV,s_block_normal,↓s_getp,↓s_con,↓s_mov,↓s_bin,s_same,b_neq,↓iteN_true,↓iteN_false,iteN_true,iteN_false,Nat.zero_add,List.append_nil,Nat.reduceEqDiff,decide_true,decide_false,Bool.not_false]
    exact rfl,⟨by omega,⟨a,c,e,(by (simp only [s_getp,Nat.reduceEqDiff,decide_false,iteN_false,t0]; try rfl))⟩,⟨h.next + 1,.sh,by rw [← Nat.add_assoc,em]; (simp only [s_getp,decide_true,iteN_true]; try rfl),by rw [eC]; exact h_new_same' _ _ rfl,rfl,by have := kp.1; omega,by simp only [h_next_new,h_next_del]; omega⟩,?_⟩⟩
  refine ⟨by have := kp.1; simp only [h_next_new,h_next_del]; omega,fun j hj => ?_⟩
  have := kp.1
  rw [h_new_ne _ _ (by simp only [h_next_new,h_next_del]; omega),h_del_ne _ (by omega),h_new_ne _ _ (by omega),kp.2 _ hj]
theorem rpad_loop (Q : Orc) (n : Nat) (h0 : H) (l : List Nat) (hl : l.length ≤ 400001) (hn : 100 < n) (T : Tr V) (h : H) (I : RI2 h0 l 0 T h) :
    ∃ T' h',loopN (evC Q 38 n none L_purserref04_padded_0) n ⟨T,[],h⟩ = some (.exit 0,⟨T',[],h'⟩) ∧ RI2 h0 l (padSz l.length - 9) T' h' :=
  loop_go (RI2 h0 l) (padSz l.length - 9) (.exit 0) (by intro h; cases h) _ (rpad_step Q n h0 l hl) (fun T h I => by
    obtain ⟨il,⟨a,c,e,t0⟩,⟨p,md,t3,gp,rest⟩,kp⟩ := I
    have hb := padSz_b l.length
    have rm : ∀ e h,binV .rem e h (.int .i64 ((l.length + 1 + (padSz l.length - 9) : Nat) : Int)) (.int .i64 64) = some (.int .i64 (((l.length + 1 + (padSz l.length - 9)) % 64 : Nat) : Int)) := fun e h => by rw [b_rem _ _ _ _ _ (by omega)]; rfl
    have c0 : decide ((((l.length + 1 + (padSz l.length - 9)) % 64 : Nat) : Int) = 56) = true := decide_eq_true (by have := padSz_mod l.length; omega)
    obtain ⟨m,em⟩ : ∃ m,l.length + 1 + (padSz l.length - 9) = m := ⟨_,rfl⟩
    rw [em] at t3 rm c0
    refine ⟨_,_,by
      simp (config := {maxSteps := 2000000}) (disch := first | omega | (simp only [List.length_cons,List.length_nil,List.length_append,List.length_drop]; omega)) only [L_purserref04_padded_0,t3,rm,c0,↓s_len,x_lenS,x_lenS,↓s_len,↓s_ops,↓s_seq,↓s_cond,↓s_exit,↓s_nil,↓s_op,↓s_bindS,s_bindS,↓s_bindE,s_bindE,s_bindE_exit,s_norm,↓s_condV,s_condV,↓s_getp,↓s_con,↓s_mov,↓s_bin,s_same,b_neq,↓iteN_true,↓iteN_false,iteN_true,iteN_false,decide_true,Bool.not_true]
      exact rfl,⟨il,⟨a,c,e,(by (simp only [s_getp,Nat.reduceEqDiff,decide_false,iteN_false,t0]; try rfl))⟩,⟨p,md,by rw [em]; (simp only [s_getp,Nat.reduceEqDiff,decide_false,iteN_false,t3]; try rfl),gp,rest⟩,kp⟩⟩) (padSz l.length - 9) 0 (by omega) n (by have := padSz_b l.length; omega) T h I
theorem rlen_step (Q : Orc) (n : Nat) (h0 : H) (base : List Nat) (v : Nat) (hl : base.length ≤ 800002) :
    ∀ i T h,i < 8 → RI3 h0 base v i T h → ∃ T' h',evC Q 38 n none L_purserref04_padded_1 ⟨T,[],h⟩ = some (.normal,⟨T',[],h'⟩) ∧ RI3 h0 base v (i + 1) T' h' := by
  intro i T h hi ⟨_,t4,t5,⟨p,md,t3,gp,hmd,hp0,hpn⟩,kp⟩
  have c0 : decide ((i : Int) < 8) = true := decide_eq_true (by omega)
  have wi : wr .i64 ((i : Int) + 1) = ((i + 1 : Nat) : Int) := by rw [wr_i64 (by omega)]; omega
  have w8 : wr .i64 (8 * (i : Int)) = ((8 * i : Nat) : Int) := by rw [wr_i64 (by omega)]; omega
  have w56 : wr .i64 (56 - ((8 * i : Nat) : Int)) = ((56 - 8 * i : Nat) : Int) := by rw [wr_i64 (by omega)]; omega
  have wu : wr .u64 ((56 - 8 * i : Nat) : Int) = ((56 - 8 * i : Nat) : Int) := u64n _ (by omega)
  have sh : ∀ e h,binV .shr e h (.int .u64 (v : Int)) (.int .u64 ((56 - 8 * i : Nat) : Int)) = some (.int .u64 ((v / 2 ^ (56 - 8 * i) : Nat) : Int)) := fun e h => b_shrN e h .u64 v (56 - 8 * i) (by omega)
  obtain ⟨y,ey⟩ : ∃ y,v / 2 ^ (56 - 8 * i) % 256 = y := ⟨_,rfl⟩
  have wy : wr .u8 ((v / 2 ^ (56 - 8 * i) : Nat) : Int) = (y : Int) := by rw [w8n,ey]
  have lc : (base ++ be8N v i).length = base.length + i := by rw [List.length_append,be8N_len]
  have ap := app1 (h.new (.cells [.int .u8 (y : Int)] .rw)) p (base.length + i) y _ md hmd (by rw [h_new_ne _ _ (by omega),gp]) lc (by omega)
  have sc := src1 h y
  have er : base ++ be8N v i ++ [y] = base ++ be8N v (i + 1) := by rw [List.append_assoc,← ey]; rfl
  rw [er] at ap
  obtain ⟨C,eC⟩ : ∃ C,ofI .u8 (base ++ be8N v (i + 1)) = C := ⟨_,rfl⟩
  obtain ⟨m,em⟩ : ∃ m,base.length + i = m := ⟨_,rfl⟩
  rw [em] at t3 ap
  rw [eC] at ap
  refine ⟨_,_,by
    simp (config := {maxSteps := 2000000}) (disch := first | omega | (simp only [List.length_cons,List.length_nil,List.length_append,List.length_drop]; omega)) only [L_purserref04_padded_1,t3,t4,t5,c0,wi,w8,w56,wu,sh,wy,sc,ap,↓s_append,↓x_conv,x_convV,Nat.zero_add,h_next_new,w_zero,↓x_buildS,x_buildE,↓x_P0,↓x_P1,x_fill0,x_filli,List.length_cons,List.length_nil,List.drop_succ_cons,List.drop_nil,↓s_skip,↓s_ops,↓s_seq,↓s_cond,↓s_block,↓s_nil,↓s_op,↓s_bindS,s_bindS,↓s_bindE,s_bindE,s_norm,↓s_condV,s_condV,s_block_normal,↓s_getp,↓s_con,↓s_mov,↓s_bin,s_same,b_lss,b_add,b_sub,b_mul,↓iteN_true,↓iteN_false,iteN_true,iteN_false,Nat.zero_add,List.append_nil,Nat.reduceEqDiff,decide_true,decide_false]
    exact rfl,⟨by omega,(by (simp only [s_getp,Nat.reduceEqDiff,decide_false,iteN_false,t4]; try rfl)),(by (simp only [s_getp,decide_true,iteN_true]; try rfl)),⟨h.next + 1,.sh,by rw [← Nat.add_assoc,em]; (simp only [s_getp,Nat.reduceEqDiff,decide_false,decide_true,iteN_false,iteN_true]; try rfl),by rw [eC]; exact h_new_same' _ _ rfl,rfl,by have := kp.1; omega,by simp only [h_next_new,h_next_del]; omega⟩,?_⟩⟩
  refine ⟨by have := kp.1; simp only [h_next_new,h_next_del]; omega,fun j hj => ?_⟩
  have := kp.1
  rw [h_new_ne _ _ (by simp only [h_next_new,h_next_del]; omega),h_del_ne _ (by omega),h_new_ne _ _ (by omega),kp.2 _ hj]
theorem rlen_loop (Q : Orc) (n : Nat) (hn : 8 < n) (h0 : H) (base : List Nat) (v : Nat) (hl : base.length ≤ 800002) (T : Tr V) (h : H) (I : RI3 h0 base v 0 T h) :
    ∃ T' h',loopN (evC Q 38 n none L_purserref04_padded_1) n ⟨T,[],h⟩ = some (.exit 2,⟨T',[],h'⟩) ∧ RI3 h0 base v 8 T' h' :=
  loop_go (RI3 h0 base v) 8 (.exit 2) (by intro h; cases h) _ (rlen_step Q n h0 base v hl) (fun T h I => by
    obtain ⟨i8,t4,t5,⟨p,md,t3,rest⟩,kp⟩ := I
    have c0 : decide (((8 : Nat) : Int) < 8) = false := rfl
    refine ⟨_,_,by
      simp (config := {maxSteps := 2000000}) (disch := first | omega | (simp only [List.length_cons,List.length_nil,List.length_append,List.length_drop]; omega)) only [L_purserref04_padded_1,t5,Int.reduceLT,Int.cast_ofNat_Int,↓s_ops,↓s_seq,↓s_cond,↓s_exit,↓s_nil,↓s_op,↓s_bindS,s_bindS,↓s_bindE,s_bindE,s_bindE_exit,s_norm,↓s_condV,s_condV,↓s_getp,↓s_con,↓s_mov,↓s_bin,s_same,b_lss,↓iteN_true,↓iteN_false,iteN_true,iteN_false,decide_true,decide_false]
      exact rfl,⟨i8,(by (simp only [s_getp,Nat.reduceEqDiff,decide_false,iteN_false,t4]; try rfl)),(by (simp only [s_getp,Nat.reduceEqDiff,decide_false,iteN_false,t5]; try rfl)),⟨p,md,(by (simp only [s_getp,Nat.reduceEqDiff,decide_false,iteN_false,t3]; try rfl)),rest⟩,kp⟩⟩) 8 0 (by omega) n hn T h I
theorem padded_go (e : EnRo E) (x : NoRo X) (N : Nat) (l : List Nat) (hl : l.length ≤ 400001) (a : Option (Nat × Nat)) (c : Option Nat) (h : H) {ez : Nat} (src : SrcH h a ez l) :
    ∃ h' p md,callX E X (N + 200) (.fn k_purserref04_padded) [.slice a l.length c ez] h = some (.slice (some (p,0)) (l ++ padL l.length).length none 1,h') ∧ h'.get p = some (.cells (ofI .u8 (l ++ padL l.length)) md) ∧ Kp h h' ∧ h.next ≤ p ∧ p < h'.next := by
  rw [x_cfn e.padded _ _ (Nat.le_of_ble_eq_true rfl) (x.padded _ _)]
  have hb := padSz_b l.length
  have fin2 : ∀ T h1,RI3 h (l ++ 128 :: List.replicate (padSz l.length - 9) 0) (l.length * 8 % 18446744073709551616) 0 T h1 →
      ∃ h' p md,fnEnd [.tmp 2] (bindE (blockE 2 (loopN (evC (callX E X (N + 199)) 38 (N + 199) none L_purserref04_padded_1) (N + 199) ⟨T,[],h1⟩)) (evC (callX E X (N + 199)) 38 (N + 199) none R_purserref04_padded_0)) = some (.slice (some (p,0)) (l ++ padL l.length).length none 1,h') ∧ h'.get p = some (.cells (ofI .u8 (l ++ padL l.length)) md) ∧ Kp h h' ∧ h.next ≤ p ∧ p < h'.next := by
    intro T h1 I
    obtain ⟨T',h',r1,i8,t4,t5,⟨p,md,t3,gp,hmd,hp0,hpn⟩,kp⟩ := rlen_loop (callX E X (N + 199)) (N + 199) (by omega) h _ _ (by simp only [List.length_append,List.length_cons,List.length_replicate]; omega) T h1 I
    have ep : l ++ 128 :: List.replicate (padSz l.length - 9) 0 ++ be8N (l.length * 8 % 18446744073709551616) 8 = l ++ padL l.length := by
      unfold padL; rw [List.append_assoc,List.cons_append]; rfl
    rw [ep] at gp
    have el : (l ++ 128 :: List.replicate (padSz l.length - 9) 0).length + 8 = (l ++ padL l.length).length := by
      rw [← ep,List.length_append (bs := be8N _ _),be8N_len]
    rw [el] at t3
    rw [r1]
    generalize (l ++ padL l.length).length = m at *
    simp (config := {maxSteps := 2000000}) (disch := first | omega | (simp only [List.length_cons,List.length_nil,List.length_append,List.length_drop]; omega)) only [R_purserref04_padded_0,t3,s_res0,↓s_ops,↓s_seq,↓s_ret,↓s_nil,↓s_op,↓s_bindS,s_bindS,↓s_bindE,s_bindE,s_norm,s_block_exit,↓s_getp,↓s_mov,s_end,s_res0,s_res1,s_tup1,↓iteN_true,iteN_true,decide_true,if_true]
    exact ⟨_,_,md,rfl,gp,kp,hp0,hpn⟩
  have w64 : wr .u64 ((l.length : Int)) = (l.length : Int) := u64n _ (by omega)
  have w8 : wr .u64 ((l.length : Int) * 8) = ((l.length * 8 % 18446744073709551616 : Nat) : Int) := by
    rw [show (l.length : Int) * 8 = ((l.length * 8 : Nat) : Int) by omega,w64n']
  have fin1 : ∀ T h1,RI2 h l 0 T h1 →
      ∃ h' p md,fnEnd [.tmp 2] (bindE (blockE 0 (loopN (evC (callX E X (N + 199)) 38 (N + 199) none L_purserref04_padded_0) (N + 199) ⟨T,[],h1⟩)) (evC (callX E X (N + 199)) 38 (N + 199) none R_purserref04_padded_1)) = some (.slice (some (p,0)) (l ++ padL l.length).length none 1,h') ∧ h'.get p = some (.cells (ofI .u8 (l ++ padL l.length)) md) ∧ Kp h h' ∧ h.next ≤ p ∧ p < h'.next := by
    intro T h1 I
    obtain ⟨T',h',r1,il,⟨a,c,e,t0⟩,⟨p,md,t3,gp,hmd,hp0,hpn⟩,kp⟩ := rpad_loop (callX E X (N + 199)) (N + 199) h l hl (by omega) T h1 I
    rw [r1]
    obtain ⟨R,eR⟩ : ∃ R,R_purserref04_padded_0 = R := ⟨_,rfl⟩
    obtain ⟨Lo,eL⟩ : ∃ R,L_purserref04_padded_1 = R := ⟨_,rfl⟩
    rw [eR,eL] at fin2
    have lb : (l ++ 128 :: List.replicate (padSz l.length - 9) 0).length + 0 = l.length + 1 + (padSz l.length - 9) := by simp only [List.length_append,List.length_cons,List.length_replicate]; omega
    generalize hLL : l.length = LL at *
    simp (config := {maxSteps := 2000000}) (disch := first | omega | (simp only [List.length_cons,List.length_nil,List.length_append,List.length_drop]; omega)) only [R_purserref04_padded_1,eR,eL,t0,w64,w8,↓s_len,x_lenS,↓x_conv,x_convV,↓l_loop,↓l_succ,x_lenS,↓s_len,↓s_ops,↓s_seq,↓s_block,↓s_nil,↓s_op,↓s_bindS,s_bindS,↓s_bindE,s_bindE,s_norm,s_block_exit,↓s_getp,↓s_con,↓s_mov,↓s_bin,s_same,b_mul,↓iteN_true,iteN_true,decide_true,if_true]
    exact fin2 _ _ ⟨by omega,(by (simp only [s_getp,Nat.reduceEqDiff,decide_false,decide_true,iteN_false,iteN_true]; try rfl)),(by (simp only [s_getp,decide_true,iteN_true]; try rfl)),⟨p,md,by rw [lb]; (simp only [s_getp,Nat.reduceEqDiff,decide_false,iteN_false,t3]; try rfl),by rw [show be8N (LL * 8 % 18446744073709551616) 0 = [] from rfl,List.append_nil]; exact gp,hmd,hp0,hpn⟩,kp⟩
  obtain ⟨R,eR⟩ : ∃ R,R_purserref04_padded_1 = R := ⟨_,rfl⟩
  obtain ⟨Lo,eL⟩ : ∃ R,L_purserref04_padded_0 = R := ⟨_,rfl⟩
  rw [eR,eL] at fin1 ⊢
  have sc := src.cellz c
  by_cases l0 : l = []
  · subst l0
    have s1 := src1 h 128
    have a1 : appendC (h.new (.cells [.int .u8 128] .rw)) 1 1 (.slice none 0 (some 0) 0) (some (1,[.int .u8 128])) = some (.slice (some (h.next + 1,0)) 1 none 1,(h.new (.cells [.int .u8 128] .rw)).new (.cells (ofI .u8 [128]) .rw)) := by
      have := app0 (h.new (.cells [.int .u8 128] .rw)) 0 0 .u8 [128] (some 0) (by omega)
      exact this
    have a0 := appN h none 0 (some 0) 0 (ofI .u8 [])
    simp only [List.length_nil] at sc ⊢
    simp only [Int.cast_ofNat_Int] at s1
    simp (config := {maxSteps := 2000000}) (disch := first | omega | (simp only [List.length_cons,List.length_nil,List.length_append,List.length_drop]; omega)) only [sc,s1,a1,a0,↓s_append,Nat.zero_add,↓l_loop,↓l_succ,w_zero,↓x_buildS,x_buildE,↓x_P0,↓x_P1,x_fill0,x_filli,List.length_cons,List.length_nil,List.drop_succ_cons,List.drop_nil,List.nil_append,↓s_ops,↓s_seq,↓s_block,↓s_nil,↓s_op,↓s_bindS,s_bindS,↓s_bindE,s_bindE,s_norm,↓s_getp,↓s_get,↓s_con,↓s_list0,↓s_list1,↓s_mov,↓iteN_true,↓iteN_false,iteN_true,iteN_false,Nat.zero_add,List.nil_append,List.append_nil,Nat.reduceEqDiff,decide_true,decide_false]
    exact fin1 _ _ ⟨by omega,⟨a,c,ez,(by (simp only [s_getp,Nat.reduceEqDiff,decide_false,iteN_false]; try rfl))⟩,⟨h.next + 1,.rw,(by (simp only [s_getp,decide_true,iteN_true]; try rfl)),h_new_same' _ _ rfl,rfl,by omega,by simp only [h_next_new]; omega⟩,(Kp.new _ _).trans (Kp.new _ _)⟩
  · obtain ⟨m,em⟩ : ∃ n,l.length = n + 1 := ⟨l.length - 1,by have := List.length_pos_iff.2 l0; omega⟩
    have a0 := app0 h m 0 .u8 l (some 0) (by omega)
    rw [← em] at a0
    obtain ⟨h1,e1⟩ : ∃ h1,h.new (.cells (ofI .u8 l) .rw) = h1 := ⟨_,rfl⟩
    have n1 : h1.next = h.next + 1 := by rw [← e1]; rfl
    rw [e1] at a0
    have s1 := src1 h1 128
    have a1 := app1 (h1.new (.cells [.int .u8 ((128 : Nat) : Int)] .rw)) h.next l.length 128 l .rw rfl (by rw [h_new_ne _ _ (by omega),← e1,h_new_same]) rfl (by omega)
    simp only [Int.cast_ofNat_Int,n1] at s1 a1
    generalize hLL : l.length = LL at *
    obtain ⟨h2,e2⟩ : ∃ h2,((h1.new (.cells [.int .u8 128] .rw)).del h.next).new (.cells (ofI .u8 (l ++ [128])) .sh) = h2 := ⟨_,rfl⟩
    have nx : (h1.new (.cells [.int .u8 128] .rw)).next = h.next + 2 := by rw [h_next_new,n1]
    rw [e2,nx] at a1
    simp (config := {maxSteps := 2000000}) (disch := first | omega | (simp only [List.length_cons,List.length_nil,List.length_append,List.length_drop]; omega)) only [sc,a0,s1,a1,n1,↓s_append,Nat.zero_add,↓l_loop,↓l_succ,w_zero,↓x_buildS,x_buildE,↓x_P0,↓x_P1,x_fill0,x_filli,List.length_cons,List.length_nil,List.drop_succ_cons,List.drop_nil,↓s_ops,↓s_seq,↓s_block,↓s_nil,↓s_op,↓s_bindS,s_bindS,↓s_bindE,s_bindE,s_norm,↓s_getp,↓s_get,↓s_con,↓s_list0,↓s_list1,↓s_mov,↓iteN_true,↓iteN_false,iteN_true,iteN_false,Nat.zero_add,List.append_nil,Nat.reduceEqDiff,decide_true,decide_false]
    refine fin1 _ _ ⟨by omega,⟨a,c,ez,by rw [hLL]; (simp only [s_getp,Nat.reduceEqDiff,decide_false,iteN_false]; try rfl)⟩,⟨h.next + 2,.sh,by rw [hLL]; (simp only [s_getp,decide_true,iteN_true]; try rfl),by rw [← e2]; exact h_new_same' _ _ (by rw [h_next_del,nx]),rfl,by omega,by rw [← e2,h_next_new,h_next_del,nx]; omega⟩,?_⟩
    rw [← e2,← e1]
    refine ⟨by simp only [h_next_new,h_next_del]; omega,fun j hj => ?_⟩
    rw [h_new_ne _ _ (by simp only [h_next_new,h_next_del]; omega),h_del_ne _ (by omega),h_new_ne _ _ (by simp only [h_next_new]; omega),h_new_ne _ _ (by omega)]
theorem w0_step (Q : Orc) (n mq wq hq kq r : Nat) (hmw : mq ≠ wq) (m : List Nat) (bm : byt m = true) (md : Md) (at_ : Nat) (hat : at_ + 64 ≤ m.length) (hm : m.length ≤ 800002) (h0 : H) (gm : h0.get mq = some (.cells (ofI .u8 m) md)) :
    ∀ i T h,i < 16 → (WI mq wq m at_ h0 i T h ∧ evO T (.t 8) = .int .i64 (i : Int) ∧ Keep4 hq kq T ∧ evO T (.t 2) = .ptr (some (r,0))) → ∃ T' h',evC Q 292 n none L_purserref04_Of_0 ⟨T,[],h⟩ = some (.normal,⟨T',[],h'⟩) ∧ (WI mq wq m at_ h0 (i + 1) T' h' ∧ evO T' (.t 8) = .int .i64 ((i + 1 : Nat) : Int) ∧ Keep4 hq kq T' ∧ evO T' (.t 2) = .ptr (some (r,0))) := by
  intro i T h hi ⟨⟨_,t5,t6,t7,gw,eq⟩,t8,⟨_,t3,t4⟩,t2⟩
  have gm' : h.get mq = some (.cells (ofI .u8 m) md) := by rw [eq.2 mq hmw,gm]
  have c0 : decide ((i : Int) < 16) = true := decide_eq_true (by omega)
  have wi : wr .i64 ((i : Int) + 1) = ((i + 1 : Nat) : Int) := by rw [wr_i64 (by omega)]; omega
  have w4 : wr .i64 (4 * (i : Int)) = ((4 * i : Nat) : Int) := by rw [wr_i64 (by omega)]; omega
  have wa : wr .i64 ((at_ : Int) + ((4 * i : Nat) : Int)) = ((at_ + 4 * i : Nat) : Int) := by rw [wr_i64 (by omega)]; omega
  have wb : wr .i64 (((at_ + 4 * i : Nat) : Int) + 1) = ((at_ + 4 * i + 1 : Nat) : Int) := by rw [wr_i64 (by omega)]; omega
  have wc : wr .i64 (((at_ + 4 * i : Nat) : Int) + 2) = ((at_ + 4 * i + 2 : Nat) : Int) := by rw [wr_i64 (by omega)]; omega
  have wd : wr .i64 (((at_ + 4 * i : Nat) : Int) + 3) = ((at_ + 4 * i + 3 : Nat) : Int) := by rw [wr_i64 (by omega)]; omega
  have ix : idx (i : Int) 64 = some i := idxn (by omega)
  have xa : idx ((at_ + 4 * i : Nat) : Int) m.length = some (at_ + 4 * i) := idxn (by omega)
  have xb : idx ((at_ + 4 * i + 1 : Nat) : Int) m.length = some (at_ + 4 * i + 1) := idxn (by omega)
  have xc : idx ((at_ + 4 * i + 2 : Nat) : Int) m.length = some (at_ + 4 * i + 2) := idxn (by omega)
  have xd : idx ((at_ + 4 * i + 3 : Nat) : Int) m.length = some (at_ + 4 * i + 3) := idxn (by omega)
  have gt : ∀ j,j < 64 → m.getD (at_ + j) 0 = ((m.drop at_).take 64).getD j 0 := by
    intro j hj
    rw [List.getD_eq_getElem?_getD,List.getD_eq_getElem?_getD,List.getElem?_take_of_lt hj,List.getElem?_drop]
  have b256 : ∀ j,j < m.length → m.getD j 0 < 256 := fun j hj => byt_iff.1 bm _ (by rw [List.getD_eq_getElem?_getD,List.getElem?_eq_getElem hj]; exact List.getElem_mem _)
  have ga := ofI_get .u8 m (at_ + 4 * i) (by omega)
  have gb := ofI_get .u8 m (at_ + 4 * i + 1) (by omega)
  have gc := ofI_get .u8 m (at_ + 4 * i + 2) (by omega)
  have gd := ofI_get .u8 m (at_ + 4 * i + 3) (by omega)
  have ew : ad (ad (ad (sl (m.getD (at_ + 4 * i) 0 % 4294967296) 24) (sl (m.getD (at_ + 4 * i + 1) 0 % 4294967296) 16)) (sl (m.getD (at_ + 4 * i + 2) 0 % 4294967296) 8)) (m.getD (at_ + 4 * i + 3) 0 % 4294967296) = wnx ((m.drop at_).take 64) (wsN ((m.drop at_).take 64) i) i := by
    rw [word_eq _ _ _ _ (b256 _ (by omega)) (b256 _ (by omega)) (b256 _ (by omega)) (b256 _ (by omega))]
    unfold wnx
    rw [if_pos hi,← gt (4 * i) (by omega),← gt (4 * i + 1) (by omega),← gt (4 * i + 2) (by omega),← gt (4 * i + 3) (by omega)]
    simp only [Nat.add_assoc]
  have wp := wCells_put ((m.drop at_).take 64) i (by omega)
  rw [← ew] at wp
  have wl := wCells_len ((m.drop at_).take 64) i (by omega)
  generalize m.getD (at_ + 4 * i) 0 = va at *
  generalize m.getD (at_ + 4 * i + 1) 0 = vb at *
  generalize m.getD (at_ + 4 * i + 2) 0 = vc at *
  generalize m.getD (at_ + 4 * i + 3) 0 = vd at *
  obtain ⟨cw,ecw⟩ : ∃ c,wCells ((m.drop at_).take 64) i = c := ⟨_,rfl⟩
  rw [ecw] at gw wp wl
  have ste : ∀ (h : H) (v : V),storeE (some (.cells cw .rw)) h wq i [v] = some (h.put wq (.cells (writeN cw i [v]) .rw)) := fun h v => m_storeE _ _ _ _ _ (by rw [wl]; simp only [List.length_cons,List.length_nil]; omega)
  obtain ⟨cm,ecm⟩ : ∃ c,ofI .u8 m = c := ⟨_,rfl⟩
  rw [ecm] at gm' ga gb gc gd
  obtain ⟨ml,eml⟩ : ∃ l,m.length = l := ⟨_,rfl⟩
  rw [eml] at t5 xa xb xc xd
  obtain ⟨pa,epa⟩ : ∃ p,at_ + 4 * i = p := ⟨_,rfl⟩
  simp only [epa] at wa wb wc wd xa xb xc xd ga gb gc gd
  have s24 : ∀ e h (a : Nat),binV .shl e h (.int .u32 (a : Int)) (.int .u64 24) = some (.int .u32 (sl a 24 : Nat)) := fun e h a => b_shl32 e h a 24 (by omega)
  have s16 : ∀ e h (a : Nat),binV .shl e h (.int .u32 (a : Int)) (.int .u64 16) = some (.int .u32 (sl a 16 : Nat)) := fun e h a => b_shl32 e h a 16 (by omega)
  have s8 : ∀ e h (a : Nat),binV .shl e h (.int .u32 (a : Int)) (.int .u64 8) = some (.int .u32 (sl a 8 : Nat)) := fun e h a => b_shl32 e h a 8 (by omega)
  refine ⟨_,_,by
    simp (config := {maxSteps := 2000000}) (disch := first | omega | (simp only [List.length_cons,List.length_nil,List.length_append,List.length_drop]; omega)) only [L_purserref04_Of_0,t5,t6,t7,t8,gm',gw,c0,wi,w4,wa,wb,wc,wd,ix,xa,xb,xc,xd,ga,gb,gc,gd,s24,s16,s8,w32,ste,wp,w32ad,↓x_conv,x_convV,Nat.zero_add,Nat.mul_one,↓s_evD,↓s_dnil,↓s_dL,↓s_dR,↓s_dB,↓s_bindD,s_bindD,s_finD,s_addP0,↓s_bump0,↓s_load,m_load,↓m_load1,m_load1,↓m_st,m_stE,m_storeI,↓x_idxS,x_idxSE,x_addrE,↓s_skip,↓s_ops,↓s_dops,↓s_seq,↓s_cond,↓s_block,↓s_nil,↓s_op,↓s_bindS,s_bindS,↓s_bindE,s_bindE,s_norm,↓s_condV,s_condV,s_block_normal,↓s_getp,↓s_getp0,↓s_con,↓s_mov,↓s_bin,s_same,b_lss,b_add,b_mul,↓iteN_true,↓iteN_false,iteN_true,iteN_false,Nat.zero_add,Nat.reduceEqDiff,decide_true,decide_false]
    exact rfl,⟨⟨by omega,by rw [eml]; (simp only [s_getp,s_getp0,Nat.reduceEqDiff,decide_false,iteN_false,t5]; try rfl),(by (simp only [s_getp,s_getp0,Nat.reduceEqDiff,decide_false,iteN_false,t6]; try rfl)),(by (simp only [s_getp,s_getp0,Nat.reduceEqDiff,decide_false,iteN_false,t7]; try rfl)),by rw [h_put_same],eq.put _⟩,(by (simp only [s_getp,decide_true,iteN_true]; try rfl)),⟨rfl,(by (simp only [s_getp,s_getp0,Nat.reduceEqDiff,decide_false,iteN_false,t3]; try rfl)),(by (simp only [s_getp,s_getp0,Nat.reduceEqDiff,decide_false,iteN_false,t4]; try rfl))⟩,(by (simp only [s_getp,s_getp0,Nat.reduceEqDiff,decide_false,iteN_false,t2]; try rfl))⟩⟩
theorem w0_loop (Q : Orc) (n mq wq hq kq r : Nat) (hn : 64 < n) (hmw : mq ≠ wq) (m : List Nat) (bm : byt m = true) (md : Md) (at_ : Nat) (hat : at_ + 64 ≤ m.length) (hm : m.length ≤ 800002) (h0 : H) (gm : h0.get mq = some (.cells (ofI .u8 m) md)) (T : Tr V) (h : H) (I : WI mq wq m at_ h0 0 T h ∧ evO T (.t 8) = .int .i64 ((0 : Nat) : Int) ∧ Keep4 hq kq T ∧ evO T (.t 2) = .ptr (some (r,0))) :
    ∃ T' h',loopN (evC Q 292 n none L_purserref04_Of_0) n ⟨T,[],h⟩ = some (.exit 2,⟨T',[],h'⟩) ∧ (WI mq wq m at_ h0 16 T' h' ∧ Keep4 hq kq T' ∧ evO T' (.t 2) = .ptr (some (r,0))) :=
  loop_go (fun i T h => WI mq wq m at_ h0 i T h ∧ evO T (.t 8) = .int .i64 (i : Int) ∧ Keep4 hq kq T ∧ evO T (.t 2) = .ptr (some (r,0))) 16 (.exit 2) (by intro h; cases h) (fun T' h' => WI mq wq m at_ h0 16 T' h' ∧ Keep4 hq kq T' ∧ evO T' (.t 2) = .ptr (some (r,0)))
   (w0_step Q n mq wq hq kq r hmw m bm md at_ hat hm h0 gm) (fun T h I => by
    obtain ⟨⟨a,t5,t6,t7,gw,eq⟩,t8,⟨_,t3,t4⟩,t2⟩ := I
    have c0 : decide (((16 : Nat) : Int) < 16) = false := rfl
    refine ⟨_,_,by
      simp (config := {maxSteps := 2000000}) (disch := first | omega | (simp only [List.length_cons,List.length_nil,List.length_append,List.length_drop]; omega)) only [L_purserref04_Of_0,t8,Int.reduceLT,Int.cast_ofNat_Int,↓s_ops,↓s_seq,↓s_cond,↓s_exit,↓s_nil,↓s_op,↓s_bindS,s_bindS,↓s_bindE,s_bindE,s_bindE_exit,s_norm,↓s_condV,s_condV,↓s_getp,↓s_con,↓s_mov,↓s_bin,s_same,b_lss,↓iteN_true,↓iteN_false,iteN_true,iteN_false,decide_true,decide_false]
      exact rfl,⟨⟨a,(by (simp only [s_getp,Nat.reduceEqDiff,decide_false,iteN_false,t5]; try rfl)),(by (simp only [s_getp,Nat.reduceEqDiff,decide_false,iteN_false,t6]; try rfl)),(by (simp only [s_getp,Nat.reduceEqDiff,decide_false,iteN_false,t7]; try rfl)),gw,eq⟩,⟨rfl,(by (simp only [s_getp,Nat.reduceEqDiff,decide_false,iteN_false,t3]; try rfl)),(by (simp only [s_getp,Nat.reduceEqDiff,decide_false,iteN_false,t4]; try rfl))⟩,(by (simp only [s_getp,Nat.reduceEqDiff,decide_false,iteN_false,t2]; try rfl))⟩⟩) 16 0 (by omega) n (by omega) T h I
theorem w1_step (e : EnRo E) (x : NoRo X) (N n mq wq hq kq r : Nat) (m : List Nat) (at_ : Nat) (h0 : H) :
    ∀ i T h,i < 64 → ((WI mq wq m at_ h0 i T h ∧ evO T (.t 9) = .int .i64 (i : Int) ∧ Keep4 hq kq T ∧ evO T (.t 2) = .ptr (some (r,0))) ∧ 16 ≤ i) → ∃ T' h',evC (callX E X (N + 1)) 292 n none L_purserref04_Of_1 ⟨T,[],h⟩ = some (.normal,⟨T',[],h'⟩) ∧ ((WI mq wq m at_ h0 (i + 1) T' h' ∧ evO T' (.t 9) = .int .i64 ((i + 1 : Nat) : Int) ∧ Keep4 hq kq T' ∧ evO T' (.t 2) = .ptr (some (r,0))) ∧ 16 ≤ i + 1) := by
  intro i T h hi ⟨⟨⟨_,t5,t6,t7,gw,eq⟩,t9,⟨_,t3,t4⟩,t2⟩,h16⟩
  have c0 : decide ((i : Int) < 64) = true := decide_eq_true (by omega)
  have wi : wr .i64 ((i : Int) + 1) = ((i + 1 : Nat) : Int) := by rw [wr_i64 (by omega)]; omega
  have ix : idx (i : Int) 64 = some i := idxn hi
  have w15 : wr .i64 ((i : Int) - 15) = ((i - 15 : Nat) : Int) := by rw [wr_i64 (by omega)]; omega
  have w2 : wr .i64 ((i : Int) - 2) = ((i - 2 : Nat) : Int) := by rw [wr_i64 (by omega)]; omega
  have w16 : wr .i64 ((i : Int) - 16) = ((i - 16 : Nat) : Int) := by rw [wr_i64 (by omega)]; omega
  have w7 : wr .i64 ((i : Int) - 7) = ((i - 7 : Nat) : Int) := by rw [wr_i64 (by omega)]; omega
  have x15 : idx ((i - 15 : Nat) : Int) 64 = some (i - 15) := idxn (by omega)
  have x2 : idx ((i - 2 : Nat) : Int) 64 = some (i - 2) := idxn (by omega)
  have x16 : idx ((i - 16 : Nat) : Int) 64 = some (i - 16) := idxn (by omega)
  have x7 : idx ((i - 7 : Nat) : Int) 64 = some (i - 7) := idxn (by omega)
  have g15 := wCells_get ((m.drop at_).take 64) i (i - 15) (by omega)
  have g2 := wCells_get ((m.drop at_).take 64) i (i - 2) (by omega)
  have g16 := wCells_get ((m.drop at_).take 64) i (i - 16) (by omega)
  have g7 := wCells_get ((m.drop at_).take 64) i (i - 7) (by omega)
  have s3 : ∀ e h (a : Nat),binV .shr e h (.int .u32 (a : Int)) (.int .u64 3) = some (.int .u32 (sr a 3 : Nat)) := fun e h a => b_shr32 e h a 3 (by omega)
  have s10 : ∀ e h (a : Nat),binV .shr e h (.int .u32 (a : Int)) (.int .u64 10) = some (.int .u32 (sr a 10 : Nat)) := fun e h a => b_shr32 e h a 10 (by omega)
  have r7 := fun a h => (rturnedL e x N a h).1
  have r18 := fun a h => (rturnedL e x N a h).2.1
  have r17 := fun a h => (rturnedL e x N a h).2.2.1
  have r19 := fun a h => (rturnedL e x N a h).2.2.2.1
  obtain ⟨w,ew⟩ : ∃ w,wnx ((m.drop at_).take 64) (wsN ((m.drop at_).take 64) i) i = w := ⟨_,rfl⟩
  have wp := wCells_put ((m.drop at_).take 64) i (by omega)
  rw [ew] at wp
  unfold wnx at ew
  rw [if_neg (by omega)] at ew
  have wl := wCells_len ((m.drop at_).take 64) i (by omega)
  obtain ⟨cw,ecw⟩ : ∃ c,wCells ((m.drop at_).take 64) i = c := ⟨_,rfl⟩
  rw [ecw] at gw wp wl g15 g2 g16 g7
  generalize wsN ((m.drop at_).take 64) i = ws at *
  have ste : ∀ (h : H) (v : V),storeE (some (.cells cw .rw)) h wq i [v] = some (h.put wq (.cells (writeN cw i [v]) .rw)) := fun h v => m_storeE _ _ _ _ _ (by rw [wl]; simp only [List.length_cons,List.length_nil]; omega)
  refine ⟨_,_,by
    simp (config := {maxSteps := 2000000}) (disch := first | omega | (simp only [List.length_cons,List.length_nil,List.length_append,List.length_drop]; omega)) only [L_purserref04_Of_1,t7,t9,gw,c0,wi,ix,w15,w2,w16,w7,x15,x2,x16,x7,g15,g2,g16,g7,s3,s10,r7,r18,r17,r19,ew,ste,wp,vbeq_int,↓b_xor32,b_xor32,w32ad,Nat.zero_add,Nat.mul_one,↓s_evD,↓s_dnil,↓s_dL,↓s_dR,↓s_dRj,↓s_dB,↓s_bindD,s_bindD,s_finD,s_finDx,s_addP0,↓s_bump0,s_ok0,↓s_ok1,s_okR0,↓s_okR1,↓s_okE,s_okE,s_okE1,s_nth0,s_nthS,Bool.and_self,↓s_load,m_load,↓m_load1,m_load1,↓m_st,m_stE,m_storeI,↓x_idxS,x_idxSE,x_addrE,↓s_skip,↓s_ops,↓s_dops,↓s_seq,↓s_cond,↓s_block,↓s_nil,↓s_op,↓s_bindS,s_bindS,↓s_bindE,s_bindE,s_norm,↓s_condV,s_condV,s_block_normal,↓s_getp,↓s_getp0,↓s_con,↓s_os0,↓s_os1,↓s_mov,↓s_bin,↓s_call,s_same,b_lss,b_add,b_sub,↓iteN_true,↓iteN_false,iteN_true,iteN_false,Nat.zero_add,Nat.reduceEqDiff,decide_true,decide_false]
    exact rfl,⟨⟨⟨by omega,(by (simp only [s_getp,s_getp0,Nat.reduceEqDiff,decide_false,iteN_false,t5]; try rfl)),(by (simp only [s_getp,s_getp0,Nat.reduceEqDiff,decide_false,iteN_false,t6]; try rfl)),(by (simp only [s_getp,s_getp0,Nat.reduceEqDiff,decide_false,iteN_false,t7]; try rfl)),by rw [h_put_same],eq.put _⟩,(by (simp only [s_getp,decide_true,iteN_true]; try rfl)),⟨rfl,(by (simp only [s_getp,s_getp0,Nat.reduceEqDiff,decide_false,iteN_false,t3]; try rfl)),(by (simp only [s_getp,s_getp0,Nat.reduceEqDiff,decide_false,iteN_false,t4]; try rfl))⟩,(by (simp only [s_getp,s_getp0,Nat.reduceEqDiff,decide_false,iteN_false,t2]; try rfl))⟩,by omega⟩⟩
theorem w1_loop (e : EnRo E) (x : NoRo X) (N n mq wq hq kq r : Nat) (hn : 64 < n) (m : List Nat) (at_ : Nat) (h0 : H) (T : Tr V) (h : H) (I : WI mq wq m at_ h0 16 T h ∧ evO T (.t 9) = .int .i64 ((16 : Nat) : Int) ∧ Keep4 hq kq T ∧ evO T (.t 2) = .ptr (some (r,0))) :
    ∃ T' h',loopN (evC (callX E X (N + 1)) 292 n none L_purserref04_Of_1) n ⟨T,[],h⟩ = some (.exit 4,⟨T',[],h'⟩) ∧ (WI mq wq m at_ h0 64 T' h' ∧ Keep4 hq kq T' ∧ evO T' (.t 2) = .ptr (some (r,0))) :=
  loop_go (fun i T h => (WI mq wq m at_ h0 i T h ∧ evO T (.t 9) = .int .i64 (i : Int) ∧ Keep4 hq kq T ∧ evO T (.t 2) = .ptr (some (r,0))) ∧ 16 ≤ i) 64 (.exit 4) (by intro h; cases h) (fun T' h' => WI mq wq m at_ h0 64 T' h' ∧ Keep4 hq kq T' ∧ evO T' (.t 2) = .ptr (some (r,0)))
   (w1_step e x N n mq wq hq kq r m at_ h0) (fun T h I => by
    obtain ⟨⟨⟨a,t5,t6,t7,gw,eq⟩,t9,⟨_,t3,t4⟩,t2⟩,_⟩ := I
    have c0 : decide (((64 : Nat) : Int) < 64) = false := rfl
    refine ⟨_,_,by
      simp (config := {maxSteps := 2000000}) (disch := first | omega | (simp only [List.length_cons,List.length_nil,List.length_append,List.length_drop]; omega)) only [L_purserref04_Of_1,t9,Int.reduceLT,Int.cast_ofNat_Int,↓s_ops,↓s_seq,↓s_cond,↓s_exit,↓s_nil,↓s_op,↓s_bindS,s_bindS,↓s_bindE,s_bindE,s_bindE_exit,s_norm,↓s_condV,s_condV,↓s_getp,↓s_con,↓s_mov,↓s_bin,s_same,b_lss,↓iteN_true,↓iteN_false,iteN_true,iteN_false,decide_true,decide_false]
      exact rfl,⟨⟨a,(by (simp only [s_getp,Nat.reduceEqDiff,decide_false,iteN_false,t5]; try rfl)),(by (simp only [s_getp,Nat.reduceEqDiff,decide_false,iteN_false,t6]; try rfl)),(by (simp only [s_getp,Nat.reduceEqDiff,decide_false,iteN_false,t7]; try rfl)),gw,eq⟩,⟨rfl,(by (simp only [s_getp,Nat.reduceEqDiff,decide_false,iteN_false,t3]; try rfl)),(by (simp only [s_getp,Nat.reduceEqDiff,decide_false,iteN_false,t4]; try rfl))⟩,(by (simp only [s_getp,Nat.reduceEqDiff,decide_false,iteN_false,t2]; try rfl))⟩⟩) 48 16 (by omega) n (by omega) T h ⟨I,by omega⟩
theorem rr_step (e : EnRo E) (x : NoRo X) (N n mq wq ml hq kq r : Nat) (at_ : Nat) (ws : List Nat) (hws : ws.length = 64) (s : S8) (h0 : H) (hwq : wq < h0.next) (hkq : kq < h0.next) (gw : h0.get wq = some (.cells (ofI .u32 ws) .rw)) (gk : h0.get kq = some (.cells (ofI .u32 cubes) .rw)) :
    ∀ i T h,i < 64 → (RR mq wq ml at_ ws s h0 i T h ∧ Keep4 hq kq T ∧ evO T (.t 2) = .ptr (some (r,0))) → ∃ T' h',evC (callX E X (N + 1)) 292 n none L_purserref04_Of_2 ⟨T,[],h⟩ = some (.normal,⟨T',[],h'⟩) ∧ (RR mq wq ml at_ ws s h0 (i + 1) T' h' ∧ Keep4 hq kq T' ∧ evO T' (.t 2) = .ptr (some (r,0))) := by
  intro i T h hi ⟨⟨_,t5,t6,t7,t13,⟨p,c,md,t12,gp,hp0,hpn⟩,kp⟩,⟨_,t3,t4⟩,t2⟩
  have gw' : h.get wq = some (.cells (ofI .u32 ws) .rw) := by rw [kp.2 _ hwq,gw]
  have gk' : h.get kq = some (.cells (ofI .u32 cubes) .rw) := by rw [kp.2 _ hkq,gk]
  have c0 : decide ((i : Int) < 64) = true := decide_eq_true (by omega)
  have wi : wr .i64 ((i : Int) + 1) = ((i + 1 : Nat) : Int) := by rw [wr_i64 (by omega)]; omega
  have ix : idx (i : Int) 64 = some i := idxn hi
  have kg : (ofI .u32 cubes)[i]? = some (.int .u32 (cubes.getD i 0 : Nat)) := ofI_get _ _ _ (by rw [show cubes.length = 64 from rfl]; exact hi)
  have wg : (ofI .u32 ws)[i]? = some (.int .u32 (ws.getD i 0 : Nat)) := ofI_get _ _ _ (by omega)
  have en : rnds ws s (i + 1) = rnd (rnds ws s i) (cubes.getD i 0) (ws.getD i 0) := rfl
  have r6 := fun a h => (rturnedL e x N a h).2.2.2.2.1
  have r11 := fun a h => (rturnedL e x N a h).2.2.2.2.2.1
  have r25 := fun a h => (rturnedL e x N a h).2.2.2.2.2.2.1
  have r2 := fun a h => (rturnedL e x N a h).2.2.2.2.2.2.2.1
  have r13 := fun a h => (rturnedL e x N a h).2.2.2.2.2.2.2.2.1
  have r22 := fun a h => (rturnedL e x N a h).2.2.2.2.2.2.2.2.2
  generalize ofI .u32 cubes = cC at *
  generalize ofI .u32 ws = cW at *
  generalize cubes.getD i 0 = kv at *
  generalize ws.getD i 0 = wv at *
  obtain ⟨s',es⟩ : ∃ s',rnds ws s i = s' := ⟨_,rfl⟩
  rw [es] at gp en
  obtain ⟨a,b,c',d,f,g,u,v⟩ := s'
  have F := fun vals : List Nat => fill_seq0 .u32 vals
  obtain ⟨o,eo⟩ : ∃ o,rnd ⟨a,b,c',d,f,g,u,v⟩ kv wv = o := ⟨_,rfl⟩
  rw [eo] at en
  have eo2 := eo
  unfold rnd trn at eo2
  simp only at eo2
  simp only [s8l,ofI] at gp
  have x0 : idx (0:Int) 8 = some 0 := rfl
  have x1 : idx (1:Int) 8 = some 1 := rfl
  have x2 : idx (2:Int) 8 = some 2 := rfl
  have x3 : idx (3:Int) 8 = some 3 := rfl
  have x4 : idx (4:Int) 8 = some 4 := rfl
  have x5 : idx (5:Int) 8 = some 5 := rfl
  have x6 : idx (6:Int) 8 = some 6 := rfl
  have x7 : idx (7:Int) 8 = some 7 := rfl
  refine ⟨_,_,by
    simp (config := {maxSteps := 2000000}) (disch := first | omega | (simp only [List.length_cons,List.length_nil,List.length_append,List.length_drop]; omega)) only [L_purserref04_Of_2,t7,t12,t13,t4,gp,gw',gk',kg,wg,c0,wi,ix,x0,x1,x2,x3,x4,x5,x6,x7,r6,r11,r25,r2,r13,r22,vbeq_int,↓s_dBuildS,s_dbE,↓b_xor32,↓b_and32,↓u_not32,b_xor32,b_and32,u_not32,w32ad,Nat.zero_add,Nat.add_zero,Nat.mul_one,↓s_evD,↓s_dnil,↓s_dL,↓s_dR,↓s_dRj,↓s_dB,↓s_bindD,s_bindD,s_finD,s_finDx,s_addP0,s_addP1,s_addB,s_lookP,↓s_bump0,↓s_bump_get,s_ok0,↓s_ok1,s_okR0,↓s_okR1,↓s_okE,s_okE,s_okE1,s_nth0,s_nthS,Nat.add_zero,Bool.and_self,↓s_load,m_load,↓m_load1,m_load1,w_zero,w_succ,↓x_idxS,x_idxSE,x_addrE,↓x_P0,↓x_P1,x_fill0,x_filli,List.length_cons,List.length_nil,List.cons_append,List.drop_succ_cons,List.drop_zero,List.drop_nil,List.nil_append,↓s_skip,↓s_ops,↓s_dops,↓s_seq,↓s_cond,↓s_block,↓s_nil,↓s_op,↓s_bindS,s_bindS,↓s_bindE,s_bindE,s_norm,↓s_condV,s_condV,s_block_normal,↓s_getp,↓s_con,↓s_os0,↓s_os1,↓s_mov,↓s_bin,↓s_un,↓s_call,s_same,b_lss,b_add,↓iteN_true,↓iteN_false,iteN_true,iteN_false,Nat.zero_add,List.nil_append,List.append_nil,Nat.reduceEqDiff,decide_true,decide_false,List.getElem?_cons_zero,List.getElem?_cons_succ]
    exact rfl,⟨⟨by omega,(by (simp only [s_getp,Nat.reduceEqDiff,decide_false,iteN_false,t5]; try rfl)),(by (simp only [s_getp,Nat.reduceEqDiff,decide_false,iteN_false,t6]; try rfl)),(by (simp only [s_getp,Nat.reduceEqDiff,decide_false,iteN_false,t7]; try rfl)),(by (simp only [s_getp,decide_true,iteN_true]; try rfl)),⟨h.next,some 8,.rw,(by (simp only [s_getp,Nat.reduceEqDiff,decide_false,decide_true,iteN_false,iteN_true]; try rfl)),?_,by have := kp.1; omega,by simp only [h_next_put,s_bump_next]; omega⟩,?_⟩,⟨rfl,(by (simp only [s_getp,Nat.reduceEqDiff,decide_false,iteN_false,t3]; try rfl)),(by (simp only [s_getp,Nat.reduceEqDiff,decide_false,iteN_false,t4]; try rfl))⟩,(by (simp only [s_getp,Nat.reduceEqDiff,decide_false,iteN_false,t2]; try rfl))⟩⟩
  · rw [h_put_same,en,← eo2]
    rfl
  · refine ⟨by have := kp.1; simp only [h_next_put,s_bump_next]; omega,fun j hj => ?_⟩
    have := kp.1
    rw [h_put_ne _ _ (by omega),s_bump_get,kp.2 _ hj]
theorem rr_loop (e : EnRo E) (x : NoRo X) (N n mq wq ml hq kq r : Nat) (hn : 64 < n) (at_ : Nat) (ws : List Nat) (hws : ws.length = 64) (s : S8) (h0 : H) (hwq : wq < h0.next) (hkq : kq < h0.next) (gw : h0.get wq = some (.cells (ofI .u32 ws) .rw)) (gk : h0.get kq = some (.cells (ofI .u32 cubes) .rw)) (T : Tr V) (h : H) (I : RR mq wq ml at_ ws s h0 0 T h ∧ Keep4 hq kq T ∧ evO T (.t 2) = .ptr (some (r,0))) :
    ∃ T' h',loopN (evC (callX E X (N + 1)) 292 n none L_purserref04_Of_2) n ⟨T,[],h⟩ = some (.exit 6,⟨T',[],h'⟩) ∧ (RR mq wq ml at_ ws s h0 64 T' h' ∧ Keep4 hq kq T' ∧ evO T' (.t 2) = .ptr (some (r,0))) :=
  loop_go (fun i T h => RR mq wq ml at_ ws s h0 i T h ∧ Keep4 hq kq T ∧ evO T (.t 2) = .ptr (some (r,0))) 64 (.exit 6) (by intro h; cases h) _
   (rr_step e x N n mq wq ml hq kq r at_ ws hws s h0 hwq hkq gw gk) (fun T h I => by
    obtain ⟨⟨a,t5,t6,t7,t13,⟨p,c,md,t12,rest⟩,kp⟩,⟨_,t3,t4⟩,t2⟩ := I
    have c0 : decide (((64 : Nat) : Int) < 64) = false := rfl
    refine ⟨_,_,by
      simp (config := {maxSteps := 2000000}) (disch := first | omega | (simp only [List.length_cons,List.length_nil,List.length_append,List.length_drop]; omega)) only [L_purserref04_Of_2,t13,Int.reduceLT,Int.cast_ofNat_Int,↓s_ops,↓s_seq,↓s_cond,↓s_exit,↓s_nil,↓s_op,↓s_bindS,s_bindS,↓s_bindE,s_bindE,s_bindE_exit,s_norm,↓s_condV,s_condV,↓s_getp,↓s_con,↓s_mov,↓s_bin,s_same,b_lss,↓iteN_true,↓iteN_false,iteN_true,iteN_false,decide_true,decide_false]
      exact rfl,⟨⟨a,(by (simp only [s_getp,Nat.reduceEqDiff,decide_false,iteN_false,t5]; try rfl)),(by (simp only [s_getp,Nat.reduceEqDiff,decide_false,iteN_false,t6]; try rfl)),(by (simp only [s_getp,Nat.reduceEqDiff,decide_false,iteN_false,t7]; try rfl)),(by (simp only [s_getp,Nat.reduceEqDiff,decide_false,iteN_false,t13]; try rfl)),⟨p,c,md,(by (simp only [s_getp,Nat.reduceEqDiff,decide_false,iteN_false,t12]; try rfl)),rest⟩,kp⟩,⟨rfl,(by (simp only [s_getp,Nat.reduceEqDiff,decide_false,iteN_false,t3]; try rfl)),(by (simp only [s_getp,Nat.reduceEqDiff,decide_false,iteN_false,t4]; try rfl))⟩,(by (simp only [s_getp,Nat.reduceEqDiff,decide_false,iteN_false,t2]; try rfl))⟩⟩) 64 0 (by omega) n (by omega) T h I
theorem ra_step (Q : Orc) (n mq ml at_ hq kq p r : Nat) (hpq : p ≠ hq) (c : Option Nat) (vs st : List Nat) (hv : vs.length = 8) (h1 : st.length = 8) (h0 : H) (md : Md) (gp : h0.get p = some (.cells (ofI .u32 vs) md)) :
    ∀ i T h,i < 8 → RA mq ml at_ hq kq p r c vs st h0 i T h → ∃ T' h',evC Q 292 n none L_purserref04_Of_3 ⟨T,[],h⟩ = some (.normal,⟨T',[],h'⟩) ∧ RA mq ml at_ hq kq p r c vs st h0 (i + 1) T' h' := by
  intro i T h hi ⟨_,t2,t3,t4,t5,t6,t12,t16,gh,eq⟩
  have gp' : h.get p = some (.cells (ofI .u32 vs) md) := by rw [eq.2 p hpq,gp]
  have c0 : decide ((i : Int) < 8) = true := decide_eq_true (by omega)
  have wi : wr .i64 ((i : Int) + 1) = ((i + 1 : Nat) : Int) := by rw [wr_i64 (by omega)]; omega
  have ix : idx (i : Int) 8 = some i := idxn hi
  have ul : (updN st vs i).length = 8 := by rw [updN_len,h1]
  have vg : (ofI .u32 vs)[i]? = some (.int .u32 (vs.getD i 0 : Nat)) := ofI_get _ _ _ (by omega)
  have ug : (ofI .u32 (updN st vs i))[i]? = some (.int .u32 ((updN st vs i).getD i 0 : Nat)) := ofI_get _ _ _ (by omega)
  have su : writeN (ofI .u32 (updN st vs i)) i [.int .u32 (ad ((updN st vs i).getD i 0) (vs.getD i 0) : Nat)] = ofI .u32 (updN st vs (i + 1)) := by
    rw [wr1I _ _ _ _ (by omega)]; rfl
  have ste : ∀ (h : H) (v : V),storeE (some (.cells (ofI .u32 (updN st vs i)) .rw)) h hq i [v] = some (h.put hq (.cells (writeN (ofI .u32 (updN st vs i)) i [v]) .rw)) := fun h v => m_storeE _ _ _ _ _ (by rw [ofI_len,ul]; simp only [List.length_cons,List.length_nil]; omega)
  generalize ofI .u32 (updN st vs i) = C at *
  generalize ofI .u32 vs = cv at *
  refine ⟨_,_,by
    simp (config := {maxSteps := 2000000}) (disch := first | omega | (simp only [List.length_cons,List.length_nil,List.length_append,List.length_drop]; omega)) only [L_purserref04_Of_3,t3,t12,t16,gh,gp',vg,ug,c0,wi,ix,ste,su,w32ad,Nat.zero_add,Nat.mul_one,↓s_evD,↓s_dnil,↓s_dL,↓s_dR,↓s_dB,↓s_bindD,s_bindD,s_finD,s_addP0,↓s_bump0,↓s_load,m_load,↓m_load1,m_load1,↓m_st,m_stE,m_storeI,↓x_idxS,x_idxSE,x_addrE,↓s_skip,↓s_ops,↓s_dops,↓s_seq,↓s_cond,↓s_block,↓s_nil,↓s_op,↓s_bindS,s_bindS,↓s_bindE,s_bindE,s_norm,↓s_condV,s_condV,s_block_normal,↓s_getp,↓s_getp0,↓s_con,↓s_mov,↓s_bin,s_same,b_lss,b_add,↓iteN_true,↓iteN_false,iteN_true,iteN_false,Nat.zero_add,Nat.reduceEqDiff,decide_true,decide_false]
    exact rfl,⟨by omega,(by (simp only [s_getp,s_getp0,Nat.reduceEqDiff,decide_false,iteN_false,t2]; try rfl)),(by (simp only [s_getp,s_getp0,Nat.reduceEqDiff,decide_false,iteN_false,t3]; try rfl)),(by (simp only [s_getp,s_getp0,Nat.reduceEqDiff,decide_false,iteN_false,t4]; try rfl)),(by (simp only [s_getp,s_getp0,Nat.reduceEqDiff,decide_false,iteN_false,t5]; try rfl)),(by (simp only [s_getp,s_getp0,Nat.reduceEqDiff,decide_false,iteN_false,t6]; try rfl)),(by (simp only [s_getp,s_getp0,Nat.reduceEqDiff,decide_false,iteN_false,t12]; try rfl)),(by (simp only [s_getp,decide_true,iteN_true]; try rfl)),by rw [h_put_same],eq.put _⟩⟩
theorem ra_loop (Q : Orc) (n mq ml at_ hq kq p r : Nat) (hn : 8 < n) (hpq : p ≠ hq) (c : Option Nat) (vs st : List Nat) (hv : vs.length = 8) (h1 : st.length = 8) (h0 : H) (md : Md) (gp : h0.get p = some (.cells (ofI .u32 vs) md)) (T : Tr V) (h : H) (I : RA mq ml at_ hq kq p r c vs st h0 0 T h) :
    ∃ T' h',loopN (evC Q 292 n none L_purserref04_Of_3) n ⟨T,[],h⟩ = some (.exit 8,⟨T',[],h'⟩) ∧ RA mq ml at_ hq kq p r c vs st h0 8 T' h' :=
  loop_go (RA mq ml at_ hq kq p r c vs st h0) 8 (.exit 8) (by intro h; cases h) _ (ra_step Q n mq ml at_ hq kq p r hpq c vs st hv h1 h0 md gp) (fun T h I => by
    obtain ⟨a,t2,t3,t4,t5,t6,t12,t16,gh,eq⟩ := I
    have c0 : decide (((8 : Nat) : Int) < 8) = false := rfl
    refine ⟨_,_,by
      simp (config := {maxSteps := 2000000}) (disch := first | omega | (simp only [List.length_cons,List.length_nil,List.length_append,List.length_drop]; omega)) only [L_purserref04_Of_3,t16,Int.reduceLT,Int.cast_ofNat_Int,↓s_ops,↓s_seq,↓s_cond,↓s_exit,↓s_nil,↓s_op,↓s_bindS,s_bindS,↓s_bindE,s_bindE,s_bindE_exit,s_norm,↓s_condV,s_condV,↓s_getp,↓s_con,↓s_mov,↓s_bin,s_same,b_lss,↓iteN_true,↓iteN_false,iteN_true,iteN_false,decide_true,decide_false]
      exact rfl,⟨a,(by (simp only [s_getp,Nat.reduceEqDiff,decide_false,iteN_false,t2]; try rfl)),(by (simp only [s_getp,Nat.reduceEqDiff,decide_false,iteN_false,t3]; try rfl)),(by (simp only [s_getp,Nat.reduceEqDiff,decide_false,iteN_false,t4]; try rfl)),(by (simp only [s_getp,Nat.reduceEqDiff,decide_false,iteN_false,t5]; try rfl)),(by (simp only [s_getp,Nat.reduceEqDiff,decide_false,iteN_false,t6]; try rfl)),(by (simp only [s_getp,Nat.reduceEqDiff,decide_false,iteN_false,t12]; try rfl)),(by (simp only [s_getp,Nat.reduceEqDiff,decide_false,iteN_false,t16]; try rfl)),gh,eq⟩⟩) 8 0 rfl n hn T h I
theorem ro_step (e : EnRo E) (x : NoRo X) (N mq hq kq r : Nat) (m st0 : List Nat) (bm : byt m = true) (hm : m.length ≤ 800002) (h8 : st0.length = 8) (md : Md) (h0 : H) (hmq : mq < h0.next) (hhq : hq < h0.next) (hkq : kq < h0.next) (q1 : mq ≠ hq) (q2 : kq ≠ hq) (gm : h0.get mq = some (.cells (ofI .u8 m) md)) (gk : h0.get kq = some (.cells (ofI .u32 cubes) .rw)) (L : Nat) (hL : m.length = 64 * L) :
    ∀ j T h,j < L → RO mq hq kq r m st0 md h0 j T h → ∃ T' h',evC (callX E X (N + 101)) 292 (N + 101) none L_purserref04_Of_4 ⟨T,[],h⟩ = some (.normal,⟨T',[],h'⟩) ∧ RO mq hq kq r m st0 md h0 (j + 1) T' h' := by
  intro j T h hj ⟨_,t2,t3,t4,t5,t6,gh,kq'⟩
  have gm' : h.get mq = some (.cells (ofI .u8 m) md) := by rw [kq'.2 _ hmq q1,gm]
  have gk' : h.get kq = some (.cells (ofI .u32 cubes) .rw) := by rw [kq'.2 _ hkq q2,gk]
  have hle := kq'.1
  have c0 : decide (((64 * j : Nat) : Int) < (m.length : Int)) = true := decide_eq_true (by omega)
  obtain ⟨st,est⟩ : ∃ s,fold64 st0 j m = s := ⟨_,rfl⟩
  have l8 : st.length = 8 := by rw [← est]; exact fold64_len _ _ _ h8
  rw [est] at gh
  obtain ⟨blk,eblk⟩ : ∃ b,(m.drop (64 * j)).take 64 = b := ⟨_,rfl⟩
  -- the sums
  have fin4 : ∀ T1 h1 p c mdp,RA mq m.length (64 * j) hq kq p r c (s8l (rnds (wsN blk 64) (s8of st) 64)) st h1 0 T1 h1 → h1.get p = some (.cells (ofI .u32 (s8l (rnds (wsN blk 64) (s8of st) 64))) mdp) → p ≠ hq → Kq hq h0 h1 →
      ∃ T' h',bindE (blockE 1 (blockE 8 (loopN (evC (callX E X (N + 101)) 292 (N + 101) none L_purserref04_Of_3) (N + 101) ⟨T1,[],h1⟩))) (evC (callX E X (N + 101)) 292 (N + 101) none R_purserref04_Of_3) = some (.normal,⟨T',[],h'⟩) ∧ RO mq hq kq r m st0 md h0 (j + 1) T' h' := by
    intro T1 h1 p c mdp I gp hp K
    obtain ⟨T2,h2,r1,a,u2,u3,u4,u5,u6,u12,u16,g2,e2⟩ := ra_loop (callX E X (N + 101)) (N + 101) mq m.length (64 * j) hq kq p r (by omega) hp c _ st rfl l8 h1 mdp gp T1 h1 I
    rw [r1]
    have w64 : wr .i64 (((64 * j : Nat) : Int) + 64) = ((64 * (j + 1) : Nat) : Int) := by rw [wr_i64 (by omega)]; omega
    refine ⟨_,_,by
      simp (config := {maxSteps := 2000000}) (disch := first | omega | (simp only [List.length_cons,List.length_nil,List.length_append,List.length_drop]; omega)) only [R_purserref04_Of_3,u6,w64,↓s_ops,↓s_nil,↓s_op,↓s_bindS,s_bindS,↓s_bindE,s_bindE,s_norm,s_block_normal,s_block_exit,↓s_getp,↓s_con,↓s_mov,↓s_bin,s_same,b_add,↓iteN_true,iteN_true,decide_true,if_true]
      exact rfl,⟨by omega,(by (simp only [s_getp,Nat.reduceEqDiff,decide_false,iteN_false,u2]; try rfl)),(by (simp only [s_getp,Nat.reduceEqDiff,decide_false,iteN_false,u3]; try rfl)),(by (simp only [s_getp,Nat.reduceEqDiff,decide_false,iteN_false,u4]; try rfl)),(by (simp only [s_getp,Nat.reduceEqDiff,decide_false,iteN_false,u5]; try rfl)),(by (simp only [s_getp,decide_true,iteN_true]; try rfl)),?_,⟨by rw [e2.1]; exact K.1,fun i hi hip => by rw [e2.2 _ hip,K.2 _ hi hip]⟩⟩⟩
    rw [g2,fold64_succ,est,eblk]; rfl
  have fin3 : ∀ T1 h2 h1,h2.get h.next = some (.cells (ofI .u32 (wsN blk 64)) .rw) → h.next < h2.next → h2.get kq = some (.cells (ofI .u32 cubes) .rw) → Kq hq h0 h2 → h2.get hq = some (.cells (ofI .u32 st) .rw) → (RR mq h.next m.length (64 * j) (wsN blk 64) (s8of st) h2 0 T1 h1 ∧ Keep4 hq kq T1 ∧ evO T1 (.t 2) = .ptr (some (r,0))) →
      ∃ T' h',bindE (blockE 1 (bindE (blockE 6 (loopN (evC (callX E X (N + 101)) 292 (N + 101) none L_purserref04_Of_2) (N + 101) ⟨T1,[],h1⟩)) (evC (callX E X (N + 101)) 292 (N + 101) none R_purserref04_Of_0))) (evC (callX E X (N + 101)) 292 (N + 101) none R_purserref04_Of_3) = some (.normal,⟨T',[],h'⟩) ∧ RO mq hq kq r m st0 md h0 (j + 1) T' h' := by
    intro T1 h2 h1 gw hn2 gk2 K2 gh2 I
    obtain ⟨T2,h4,r1,⟨a,u5,u6,u7,u13,⟨p,c,mdp,u12,gp,hp0,hpn⟩,kp⟩,⟨_,u3,u4⟩,u2⟩ := rr_loop e x (N + 100) (N + 101) mq h.next m.length hq kq r (by omega) (64 * j) _ (wsN_len _ _) _ h2 hn2 (Nat.lt_of_lt_of_le hkq K2.1) gw gk2 T1 h1 I
    rw [r1]
    have pne : p ≠ hq := by have := K2.1; omega
    obtain ⟨R,eR⟩ : ∃ R,R_purserref04_Of_3 = R := ⟨_,rfl⟩
    obtain ⟨Lo,eL⟩ : ∃ R,L_purserref04_Of_3 = R := ⟨_,rfl⟩
    rw [eR,eL] at fin4
    have K4 : Kq hq h0 h4 := K2.trans kp.q
    have gh4 : h4.get hq = some (.cells (ofI .u32 st) .rw) := by rw [kp.2 _ (Nat.lt_of_lt_of_le hhq K2.1),gh2]
    rw [eR]
    generalize rnds (wsN blk 64) (s8of st) 64 = sf at *
    generalize hml : m.length = ml at *
    simp (config := {maxSteps := 2000000}) (disch := first | omega | (simp only [List.length_cons,List.length_nil,List.length_append,List.length_drop]; omega)) only [R_purserref04_Of_0,eL,↓l_loop,↓l_succ,↓s_ops,↓s_seq,↓s_block,↓s_nil,↓s_op,↓s_bindS,s_bindS,↓s_bindE,s_bindE,s_norm,s_block_exit,↓s_con,↓s_mov,if_true]
    exact fin4 _ h4 p c mdp ⟨by omega,(by (simp only [s_getp,Nat.reduceEqDiff,decide_false,iteN_false,u2]; try rfl)),(by (simp only [s_getp,Nat.reduceEqDiff,decide_false,iteN_false,u3]; try rfl)),(by (simp only [s_getp,Nat.reduceEqDiff,decide_false,iteN_false,u4]; try rfl)),(by (simp only [s_getp,Nat.reduceEqDiff,decide_false,iteN_false,u5]; try rfl)),(by (simp only [s_getp,Nat.reduceEqDiff,decide_false,iteN_false,u6]; try rfl)),(by (simp only [s_getp,Nat.reduceEqDiff,decide_false,iteN_false,u12]; try rfl)),(by (simp only [s_getp,decide_true,iteN_true]; try rfl)),gh4,Eqx.refl _ _⟩ gp pne K4
  have fin2 : ∀ T1 h1,Kp h h1 → h.next < h1.next → (WI mq h.next m (64 * j) h1 16 T1 h1 ∧ evO T1 (.t 9) = .int .i64 ((16 : Nat) : Int) ∧ Keep4 hq kq T1 ∧ evO T1 (.t 2) = .ptr (some (r,0))) →
      ∃ T' h',bindE (blockE 1 (bindE (blockE 4 (loopN (evC (callX E X (N + 101)) 292 (N + 101) none L_purserref04_Of_1) (N + 101) ⟨T1,[],h1⟩)) (evC (callX E X (N + 101)) 292 (N + 101) none R_purserref04_Of_1))) (evC (callX E X (N + 101)) 292 (N + 101) none R_purserref04_Of_3) = some (.normal,⟨T',[],h'⟩) ∧ RO mq hq kq r m st0 md h0 (j + 1) T' h' := by
    intro T1 h1 K1 hn1 I
    obtain ⟨T2,h2,r1,⟨a,u5,u6,u7,gw,eq⟩,⟨_,u3,u4⟩,u2⟩ := w1_loop e x (N + 100) (N + 101) mq h.next hq kq r (by omega) m (64 * j) h1 T1 h1 I
    have hhn : hq ≠ h.next := by omega
    have hkn : kq ≠ h.next := by omega
    have K2 : Kq hq h0 h2 := ⟨by rw [eq.1]; exact Nat.le_trans hle K1.1,fun i hi hip => by rw [eq.2 _ (by omega),K1.2 _ (by omega),kq'.2 _ hi hip]⟩
    have gh2 : h2.get hq = some (.cells (ofI .u32 st) .rw) := by rw [eq.2 _ hhn,K1.2 _ (by omega),gh]
    have gk2 : h2.get kq = some (.cells (ofI .u32 cubes) .rw) := by rw [eq.2 _ hkn,K1.2 _ (by omega),gk']
    have gw2 : h2.get h.next = some (.cells (ofI .u32 (wsN blk 64)) .rw) := by
      rw [eblk] at gw
      rw [gw]; unfold wCells; simp
    have n2 : h.next < h2.next := by rw [eq.1]; exact hn1
    rw [r1]
    obtain ⟨R3,eR3⟩ : ∃ R,R_purserref04_Of_3 = R := ⟨_,rfl⟩
    obtain ⟨R0,eR0⟩ : ∃ R,R_purserref04_Of_0 = R := ⟨_,rfl⟩
    obtain ⟨Lo,eL⟩ : ∃ R,L_purserref04_Of_2 = R := ⟨_,rfl⟩
    rw [eR3,eR0,eL] at fin3
    rw [eR3]
    have sc : srcCells h2 1 (.slice (some (hq,0)) 8 (some 8) 1) = some (8,ofI .u32 st) := by rw [m_src,gh2,srcI _ _ _ _ _ (by omega),List.drop_zero,take_all _ _ (by omega)]
    have ap := app0_4 h2 st l8 (some 0) 0
    have s88 : s8l (s8of st) = st := by obtain ⟨a,b,c,d,e,f,g,h,rfl⟩ := list8 st l8; rfl
    generalize hml : m.length = ml at *
    simp (config := {maxSteps := 2000000}) (disch := first | omega | (simp only [List.length_cons,List.length_nil,List.length_append,List.length_drop]; omega)) only [R_purserref04_Of_1,eR0,eL,u3,sc,ap,↓s_append,↓l_loop,↓l_succ,↓s_ops,↓s_seq,↓s_block,↓s_nil,↓s_op,↓s_bindS,s_bindS,↓s_bindE,s_bindE,s_norm,s_block_exit,↓s_getp,↓s_con,↓s_mov,↓iteN_true,↓iteN_false,iteN_true,iteN_false,Nat.reduceEqDiff,decide_true,decide_false,if_true]
    refine fin3 _ h2 _ gw2 n2 gk2 K2 gh2 ⟨⟨by omega,(by (simp only [s_getp,Nat.reduceEqDiff,decide_false,iteN_false,u5]; try rfl)),(by (simp only [s_getp,Nat.reduceEqDiff,decide_false,iteN_false,u6]; try rfl)),(by (simp only [s_getp,Nat.reduceEqDiff,decide_false,iteN_false,u7]; try rfl)),(by (simp only [s_getp,decide_true,iteN_true]; try rfl)),⟨h2.next,none,.rw,(by (simp only [s_getp,Nat.reduceEqDiff,decide_false,decide_true,iteN_false,iteN_true]; try rfl)),?_,Nat.le_refl _,by rw [h_next_new]; omega⟩,Kp.new _ _⟩,⟨rfl,(by (simp only [s_getp,Nat.reduceEqDiff,decide_false,iteN_false,u3]; try rfl)),(by (simp only [s_getp,Nat.reduceEqDiff,decide_false,iteN_false,u4]; try rfl))⟩,(by (simp only [s_getp,Nat.reduceEqDiff,decide_false,iteN_false,u2]; try rfl))⟩
    rw [h_new_same]
    show some (Blk.cells (ofI .u32 st) .rw) = some (Blk.cells (ofI .u32 (s8l (s8of st))) .rw)
    rw [s88]
  have zz : wCells ((m.drop (64 * j)).take 64) 0 = List.replicate 64 (.int .u32 0) := rfl
  have fin1 : ∀ T1,(WI mq h.next m (64 * j) (h.new (.cells (List.replicate 64 (.int .u32 0)) .rw)) 0 T1 (h.new (.cells (List.replicate 64 (.int .u32 0)) .rw)) ∧ evO T1 (.t 8) = .int .i64 ((0 : Nat) : Int) ∧ Keep4 hq kq T1 ∧ evO T1 (.t 2) = .ptr (some (r,0))) →
      ∃ T' h',bindE (blockE 1 (bindE (blockE 2 (loopN (evC (callX E X (N + 101)) 292 (N + 101) none L_purserref04_Of_0) (N + 101) ⟨T1,[],h.new (.cells (List.replicate 64 (.int .u32 0)) .rw)⟩)) (evC (callX E X (N + 101)) 292 (N + 101) none R_purserref04_Of_2))) (evC (callX E X (N + 101)) 292 (N + 101) none R_purserref04_Of_3) = some (.normal,⟨T',[],h'⟩) ∧ RO mq hq kq r m st0 md h0 (j + 1) T' h' := by
    intro T1 I
    obtain ⟨T2,h2,r1,⟨a,u5,u6,u7,gw,eq⟩,⟨_,u3,u4⟩,u2⟩ := w0_loop (callX E X (N + 101)) (N + 101) mq h.next hq kq r (by omega) (by omega) m bm md (64 * j) (by omega) hm _ (by rw [h_new_ne _ _ (by omega),gm']) T1 _ I
    have K1 : Kp h h2 := ⟨by rw [eq.1,h_next_new]; omega,fun i hi => by rw [eq.2 _ (by omega),h_new_ne _ _ (by omega)]⟩
    have n2 : h.next < h2.next := by rw [eq.1,h_next_new]; omega
    rw [r1]
    obtain ⟨R3,eR3⟩ : ∃ R,R_purserref04_Of_3 = R := ⟨_,rfl⟩
    obtain ⟨R1,eR1⟩ : ∃ R,R_purserref04_Of_1 = R := ⟨_,rfl⟩
    obtain ⟨Lo,eL⟩ : ∃ R,L_purserref04_Of_1 = R := ⟨_,rfl⟩
    rw [eR3,eR1,eL] at fin2
    rw [eR3]
    simp (config := {maxSteps := 2000000}) (disch := first | omega | (simp only [List.length_cons,List.length_nil,List.length_append,List.length_drop]; omega)) only [R_purserref04_Of_2,eR1,eL,↓l_loop,↓l_succ,↓s_ops,↓s_seq,↓s_block,↓s_nil,↓s_op,↓s_bindS,s_bindS,↓s_bindE,s_bindE,s_norm,s_block_exit,↓s_con,↓s_mov,if_true]
    exact fin2 _ h2 K1 n2 ⟨⟨a,(by (simp only [s_getp,Nat.reduceEqDiff,decide_false,iteN_false,u5]; try rfl)),(by (simp only [s_getp,Nat.reduceEqDiff,decide_false,iteN_false,u6]; try rfl)),(by (simp only [s_getp,Nat.reduceEqDiff,decide_false,iteN_false,u7]; try rfl)),gw,Eqx.refl _ _⟩,(by (simp only [s_getp,decide_true,iteN_true]; try rfl)),⟨rfl,(by (simp only [s_getp,Nat.reduceEqDiff,decide_false,iteN_false,u3]; try rfl)),(by (simp only [s_getp,Nat.reduceEqDiff,decide_false,iteN_false,u4]; try rfl))⟩,(by (simp only [s_getp,Nat.reduceEqDiff,decide_false,iteN_false,u2]; try rfl))⟩
  obtain ⟨R3,eR3⟩ : ∃ R,R_purserref04_Of_3 = R := ⟨_,rfl⟩
  obtain ⟨R2,eR2⟩ : ∃ R,R_purserref04_Of_2 = R := ⟨_,rfl⟩
  obtain ⟨Lo,eL⟩ : ∃ R,L_purserref04_Of_0 = R := ⟨_,rfl⟩
  rw [eR3,eR2,eL] at fin1
  have mk := mks4 h
  generalize List.replicate 64 (V.int .u32 0) = Z at *
  generalize hml : m.length = ml at *
  simp (config := {maxSteps := 2000000}) (disch := first | omega | (simp only [List.length_cons,List.length_nil,List.length_append,List.length_drop]; omega)) only [L_purserref04_Of_4,eR3,eR2,eL,t5,t6,c0,↓x_mkslice,mk,↓s_len,x_lenS,↓l_loop,↓l_succ,x_lenS,↓s_len,↓s_skip,↓s_ops,↓s_seq,↓s_cond,↓s_block,↓s_nil,↓s_op,↓s_bindS,s_bindS,↓s_bindE,s_bindE,s_norm,↓s_condV,s_condV,↓s_getp,↓s_con,↓s_mov,↓s_bin,s_same,b_lss,↓iteN_true,↓iteN_false,iteN_true,iteN_false,Nat.reduceEqDiff,decide_true,decide_false]
  exact fin1 _ ⟨⟨by omega,by rw [hml]; (simp only [s_getp,Nat.reduceEqDiff,decide_false,iteN_false,t5]; try rfl),(by (simp only [s_getp,Nat.reduceEqDiff,decide_false,iteN_false,t6]; try rfl)),(by (simp only [s_getp,Nat.reduceEqDiff,decide_false,decide_true,iteN_false,iteN_true]; try rfl)),by rw [zz]; exact h_new_same _ _,Eqx.refl _ _⟩,(by (simp only [s_getp,decide_true,iteN_true]; try rfl)),⟨rfl,(by (simp only [s_getp,Nat.reduceEqDiff,decide_false,iteN_false,t3]; try rfl)),(by (simp only [s_getp,Nat.reduceEqDiff,decide_false,iteN_false,t4]; try rfl))⟩,(by (simp only [s_getp,Nat.reduceEqDiff,decide_false,iteN_false,t2]; try rfl))⟩
def hbyte (st : List Nat) (i : Nat) : Nat := st.getD (i / 4) 0 / 2 ^ (24 - 8 * (i % 4)) % 256
def rhoB (st : List Nat) : Nat → List Nat
  | 0 => List.replicate 32 0
  | i + 1 => (rhoB st i).set i (hbyte st i)
theorem rhoB_len (st : List Nat) (i : Nat) : (rhoB st i).length = 32 := by
  induction i with
  | zero => rfl
  | succ i ih => simp [rhoB,ih]
theorem rhoB_get (st : List Nat) : ∀ i j,j < i → i ≤ 32 → (rhoB st i)[j]? = some (hbyte st j) := by
  intro i
  induction i with
  | zero => intro j h; omega
  | succ i ih =>
    intro j h h32
    unfold rhoB
    by_cases hj : j = i
    · subst hj; rw [List.getElem?_set_self (by rw [rhoB_len]; omega)]
    · rw [List.getElem?_set_ne (by omega),ih j (by omega) (by omega)]
theorem rhoB_eq (st : List Nat) (h : st.length = 8) : rhoB st 32 = hashV st := by
  rw [hashV_eq st h]
  obtain ⟨a,b,c,d,e,f,g,i,rfl⟩ := list8 st h
  apply List.ext_getElem?
  intro j
  by_cases hj : j < 32
  · rw [rhoB_get _ 32 j hj (Nat.le_refl _)]
    match j,hj with
    | 0,_ | 1,_ | 2,_ | 3,_ | 4,_ | 5,_ | 6,_ | 7,_ | 8,_ | 9,_ | 10,_ | 11,_ | 12,_ | 13,_ | 14,_ | 15,_ | 16,_ | 17,_ | 18,_ | 19,_ | 20,_ | 21,_ | 22,_ | 23,_ | 24,_ | 25,_ | 26,_ | 27,_ | 28,_ | 29,_ | 30,_ | 31,_ => simp [hbyte,be4,sr]
    | n + 32,hj => exact absurd hj (by omega)
  · rw [List.getElem?_eq_none (by rw [rhoB_len]; omega),List.getElem?_eq_none (by simp [be4]; omega)]
structure RB (hq o r : Nat) (st : List Nat) (h0 : H) (i : Nat) (T : Tr V) (h : H) : Prop where
  il : i ≤ 32
  t2 : evO T (.t 2) = .ptr (some (r,0))
  t3 : evO T (.t 3) = .slice (some (hq,0)) 8 (some 8) 1
  t17 : evO T (.t 17) = .ptr (some (o,0))
  t18 : evO T (.t 18) = .int .i64 (i : Int)
  go : h.get o = some (.cells (ofI .u8 (rhoB st i)) .rw)
  eq : Eqx o h0 h
theorem b_quo64 (e : EqK) (h : H) (a b : Nat) (hb : 0 < b) (ha : a < 9223372036854775808) : binV .quo e h (.int .i64 (a : Int)) (.int .i64 (b : Int)) = some (.int .i64 ((a / b : Nat) : Int)) := by
  rw [b_quo _ _ _ _ _ (by omega)]
  have : (a : Int).tdiv (b : Int) = ((a / b : Nat) : Int) := rfl
  rw [this,w64n (Nat.lt_of_le_of_lt (Nat.div_le_self _ _) ha)]
theorem rb_step (Q : Orc) (n hq o r : Nat) (hqo : hq ≠ o) (st : List Nat) (hst : st.length = 8) (md : Md) (h0 : H) (gh : h0.get hq = some (.cells (ofI .u32 st) md)) :
    ∀ i T h,i < 32 → RB hq o r st h0 i T h → ∃ T' h',evC Q 292 n none L_purserref04_Of_5 ⟨T,[],h⟩ = some (.normal,⟨T',[],h'⟩) ∧ RB hq o r st h0 (i + 1) T' h' := by
  intro i T h hi ⟨_,t2,t3,t17,t18,go,eq⟩
  have gh' : h.get hq = some (.cells (ofI .u32 st) md) := by rw [eq.2 _ hqo,gh]
  have c0 : decide ((i : Int) < 32) = true := decide_eq_true (by omega)
  have wi : wr .i64 ((i : Int) + 1) = ((i + 1 : Nat) : Int) := by rw [wr_i64 (by omega)]; omega
  have ix : idx (i : Int) 32 = some i := idxn hi
  have qu : ∀ e h,binV .quo e h (.int .i64 (i : Int)) (.int .i64 4) = some (.int .i64 ((i / 4 : Nat) : Int)) := fun e h => b_quo64 e h i 4 (by omega) (by omega)
  have re : ∀ e h,binV .rem e h (.int .i64 (i : Int)) (.int .i64 4) = some (.int .i64 ((i % 4 : Nat) : Int)) := fun e h => by rw [b_rem _ _ _ _ _ (by omega)]; rfl
  have iq : idx ((i / 4 : Nat) : Int) 8 = some (i / 4) := idxn (by omega)
  have w8 : wr .i64 (8 * ((i % 4 : Nat) : Int)) = ((8 * (i % 4) : Nat) : Int) := by rw [wr_i64 (by omega)]; omega
  have w24 : wr .i64 (24 - ((8 * (i % 4) : Nat) : Int)) = ((24 - 8 * (i % 4) : Nat) : Int) := by rw [wr_i64 (by omega)]; omega
  have wu : wr .u64 ((24 - 8 * (i % 4) : Nat) : Int) = ((24 - 8 * (i % 4) : Nat) : Int) := u64n _ (by omega)
  have sg : (ofI .u32 st)[i / 4]? = some (.int .u32 (st.getD (i / 4) 0 : Nat)) := ofI_get _ _ _ (by omega)
  have sh : ∀ e h,binV .shr e h (.int .u32 (st.getD (i / 4) 0 : Nat)) (.int .u64 ((24 - 8 * (i % 4) : Nat) : Int)) = some (.int .u32 ((st.getD (i / 4) 0 / 2 ^ (24 - 8 * (i % 4)) : Nat) : Int)) := fun e h => b_shr32 e h _ _ (by omega)
  have wb : wr .u8 ((st.getD (i / 4) 0 / 2 ^ (24 - 8 * (i % 4)) : Nat) : Int) = ((hbyte st i : Nat) : Int) := by rw [w8n]; rfl
  have su : writeN (ofI .u8 (rhoB st i)) i [.int .u8 (hbyte st i : Nat)] = ofI .u8 (rhoB st (i + 1)) := by rw [wr1I _ _ _ _ (by rw [rhoB_len]; omega)]; rfl
  have ste : ∀ (h : H) (v : V),storeE (some (.cells (ofI .u8 (rhoB st i)) .rw)) h o i [v] = some (h.put o (.cells (writeN (ofI .u8 (rhoB st i)) i [v]) .rw)) := fun h v => m_storeE _ _ _ _ _ (by rw [ofI_len,rhoB_len]; simp only [List.length_cons,List.length_nil]; omega)
  generalize hbyte st i = hb at *
  generalize ofI .u8 (rhoB st i) = C at *
  generalize ofI .u32 st = cs at *
  refine ⟨_,_,by
    simp (config := {maxSteps := 2000000}) (disch := first | omega | (simp only [List.length_cons,List.length_nil,List.length_append,List.length_drop]; omega)) only [L_purserref04_Of_5,t3,t17,t18,go,gh',c0,wi,ix,qu,re,iq,w8,w24,wu,sg,sh,wb,ste,su,↓x_conv,x_convV,Nat.zero_add,Nat.mul_one,↓s_load,m_load,↓m_load1,m_load1,↓m_st,m_stE,m_storeI,↓x_idxA,↓x_idxS,x_idxAE,x_idxSE,x_addrE,↓s_skip,↓s_ops,↓s_seq,↓s_cond,↓s_block,↓s_nil,↓s_op,↓s_bindS,s_bindS,↓s_bindE,s_bindE,s_norm,↓s_condV,s_condV,s_block_normal,↓s_getp,↓s_getp0,↓s_con,↓s_mov,↓s_bin,s_same,b_lss,b_add,b_sub,b_mul,↓iteN_true,↓iteN_false,iteN_true,iteN_false,Nat.zero_add,Nat.reduceEqDiff,decide_true,decide_false]
    exact rfl,⟨by omega,(by (simp only [s_getp,s_getp0,Nat.reduceEqDiff,decide_false,iteN_false,t2]; try rfl)),(by (simp only [s_getp,s_getp0,Nat.reduceEqDiff,decide_false,iteN_false,t3]; try rfl)),(by (simp only [s_getp,s_getp0,Nat.reduceEqDiff,decide_false,iteN_false,t17]; try rfl)),(by (simp only [s_getp,decide_true,iteN_true]; try rfl)),by rw [h_put_same],eq.put _⟩⟩
theorem rb_loop (Q : Orc) (n hq o r : Nat) (hn : 32 < n) (hqo : hq ≠ o) (st : List Nat) (hst : st.length = 8) (md : Md) (h0 : H) (gh : h0.get hq = some (.cells (ofI .u32 st) md)) (T : Tr V) (h : H) (I : RB hq o r st h0 0 T h) :
    ∃ T' h',loopN (evC Q 292 n none L_purserref04_Of_5) n ⟨T,[],h⟩ = some (.exit 10,⟨T',[],h'⟩) ∧ RB hq o r st h0 32 T' h' :=
  loop_go (RB hq o r st h0) 32 (.exit 10) (by intro h; cases h) _ (rb_step Q n hq o r hqo st hst md h0 gh) (fun T h I => by
    obtain ⟨a,t2,t3,t17,t18,go,eq⟩ := I
    have c0 : decide (((32 : Nat) : Int) < 32) = false := rfl
    refine ⟨_,_,by
      simp (config := {maxSteps := 2000000}) (disch := first | omega | (simp only [List.length_cons,List.length_nil,List.length_append,List.length_drop]; omega)) only [L_purserref04_Of_5,t18,Int.reduceLT,Int.cast_ofNat_Int,↓s_ops,↓s_seq,↓s_cond,↓s_exit,↓s_nil,↓s_op,↓s_bindS,s_bindS,↓s_bindE,s_bindE,s_bindE_exit,s_norm,↓s_condV,s_condV,↓s_getp,↓s_con,↓s_mov,↓s_bin,s_same,b_lss,↓iteN_true,↓iteN_false,iteN_true,iteN_false,decide_true,decide_false]
      exact rfl,⟨a,(by (simp only [s_getp,Nat.reduceEqDiff,decide_false,iteN_false,t2]; try rfl)),(by (simp only [s_getp,Nat.reduceEqDiff,decide_false,iteN_false,t3]; try rfl)),(by (simp only [s_getp,Nat.reduceEqDiff,decide_false,iteN_false,t17]; try rfl)),(by (simp only [s_getp,Nat.reduceEqDiff,decide_false,iteN_false,t18]; try rfl)),go,eq⟩⟩) 32 0 rfl n hn T h I
theorem ro_loop (e : EnRo E) (x : NoRo X) (N mq hq kq r : Nat) (m st0 : List Nat) (bm : byt m = true) (hm : m.length ≤ 800002) (h8 : st0.length = 8) (md : Md) (h0 : H) (hmq : mq < h0.next) (hhq : hq < h0.next) (hkq : kq < h0.next) (q1 : mq ≠ hq) (q2 : kq ≠ hq) (gm : h0.get mq = some (.cells (ofI .u8 m) md)) (gk : h0.get kq = some (.cells (ofI .u32 cubes) .rw)) (L : Nat) (hL : m.length = 64 * L) (hn : L < N + 101) (T : Tr V) (h : H) (I : RO mq hq kq r m st0 md h0 0 T h) :
    ∃ T' h',loopN (evC (callX E X (N + 101)) 292 (N + 101) none L_purserref04_Of_4) (N + 101) ⟨T,[],h⟩ = some (.exit 0,⟨T',[],h'⟩) ∧ RO mq hq kq r m st0 md h0 L T' h' :=
  loop_go (RO mq hq kq r m st0 md h0) L (.exit 0) (by intro h; cases h) _ (ro_step e x N mq hq kq r m st0 bm hm h8 md h0 hmq hhq hkq q1 q2 gm gk L hL) (fun T h I => by
    obtain ⟨jl,t2,t3,t4,t5,t6,gh,kq'⟩ := I
    have c0 : decide (((64 * L : Nat) : Int) < (m.length : Int)) = false := decide_eq_false (by omega)
    refine ⟨_,_,by
      simp (config := {maxSteps := 2000000}) (disch := first | omega | (simp only [List.length_cons,List.length_nil,List.length_append,List.length_drop]; omega)) only [L_purserref04_Of_4,t5,t6,c0,↓s_len,x_lenS,x_lenS,↓s_len,↓s_ops,↓s_seq,↓s_cond,↓s_exit,↓s_nil,↓s_op,↓s_bindS,s_bindS,↓s_bindE,s_bindE,s_bindE_exit,s_norm,↓s_condV,s_condV,↓s_getp,↓s_mov,↓s_bin,s_same,b_lss,↓iteN_true,↓iteN_false,iteN_true,iteN_false,Nat.reduceEqDiff,decide_true,decide_false]
      exact rfl,⟨jl,(by (simp only [s_getp,Nat.reduceEqDiff,decide_false,iteN_false,t2]; try rfl)),(by (simp only [s_getp,Nat.reduceEqDiff,decide_false,iteN_false,t3]; try rfl)),(by (simp only [s_getp,Nat.reduceEqDiff,decide_false,iteN_false,t4]; try rfl)),(by (simp only [s_getp,Nat.reduceEqDiff,decide_false,iteN_false,t5]; try rfl)),(by (simp only [s_getp,Nat.reduceEqDiff,decide_false,iteN_false,t6]; try rfl)),gh,kq'⟩⟩) L 0 (by omega) (N + 101) hn T h I
theorem byt_pad (l : List Nat) (bl : byt l = true) : byt (l ++ padL l.length) = true := by
  rw [byt_iff] at *
  intro x hx
  rcases List.mem_append.1 hx with h | h
  · exact bl x h
  · unfold padL be8 at h
    simp only [List.mem_cons,List.mem_append,List.mem_replicate,List.not_mem_nil,or_false] at h
    omega
theorem rof_goz (e : EnRo E) (x : NoRo X) (N : Nat) (l : List Nat) (bl : byt l = true) (hl : l.length ≤ 400001) (hN : 8000 < N) (a : Option (Nat × Nat)) (c : Option Nat) (ez : Nat) (h : H) (src : SrcH h a ez l) :
    ∃ h',callX E X (N + 300) (.fn k_purserref04_Of) [.slice a l.length c ez] h = some (.agg (ofI .u8 (shaV l)),h') ∧ Kp h h' := by
  rw [x_cfn e.of_ _ _ (Nat.le_of_ble_eq_true rfl) (x.of_ _ _)]
  have hb := padSz_b l.length
  have hmod := padSz_mod l.length
  have lm : (l ++ padL l.length).length = l.length + padSz l.length := by simp only [padL,be8,List.length_append,List.length_cons,List.length_replicate,List.length_nil]; omega
  obtain ⟨h1,e1⟩ : ∃ h1,h.new (.cells (ofI .u8 (List.replicate 32 0)) .rw) = h1 := ⟨_,rfl⟩
  have n1 : h1.next = h.next + 1 := by rw [← e1]; rfl
  have sq := rsquare_go e x (N + 298) h1
  obtain ⟨h2,e2⟩ : ∃ h2,h1.new (.cells (ofI .u32 squaresL) .rw) = h2 := ⟨_,rfl⟩
  have n2 : h2.next = h.next + 2 := by rw [← e2,h_next_new,n1]
  have cu := rcube_go e x (N + 298) h2
  obtain ⟨h3,e3⟩ : ∃ h3,h2.new (.cells (ofI .u32 cubes) .rw) = h3 := ⟨_,rfl⟩
  have n3 : h3.next = h.next + 3 := by rw [← e3,h_next_new,n2]
  have K3 : Kp h h3 := by rw [← e3,← e2,← e1]; exact ((Kp.new _ _).trans (Kp.new _ _)).trans (Kp.new _ _)
  obtain ⟨h4,p,md,rp,gp,k4,hp0,hpn⟩ := padded_go e x (N + 99) l hl a c h3 (src.mono K3)
  have g3r : h3.get h.next = some (.cells (ofI .u8 (List.replicate 32 0)) .rw) := by rw [← e3,h_new_ne _ _ (by omega),← e2,h_new_ne _ _ (by omega),← e1,h_new_same]
  have g3h : h3.get (h.next + 1) = some (.cells (ofI .u32 squaresL) .rw) := by rw [← e3,h_new_ne _ _ (by omega),← e2]; exact h_new_same' _ _ n1
  have g3k : h3.get (h.next + 2) = some (.cells (ofI .u32 cubes) .rw) := by rw [← e3]; exact h_new_same' _ _ n2
  have le4 := k4.1
  have g4r : h4.get h.next = some (.cells (ofI .u8 (List.replicate 32 0)) .rw) := by rw [k4.2 _ (by omega),g3r]
  have g4h : h4.get (h.next + 1) = some (.cells (ofI .u32 squaresL) .rw) := by rw [k4.2 _ (by omega),g3h]
  have g4k : h4.get (h.next + 2) = some (.cells (ofI .u32 cubes) .rw) := by rw [k4.2 _ (by omega),g3k]
  obtain ⟨m,em⟩ : ∃ m,l ++ padL l.length = m := ⟨_,rfl⟩
  obtain ⟨L,eL⟩ : ∃ L,(l.length + padSz l.length) / 64 = L := ⟨_,rfl⟩
  have hL : m.length = 64 * L := by rw [← em,lm]; omega
  have bm : byt m = true := by rw [← em]; exact byt_pad l bl
  have hsha : shaV l = hashV (fold64 squaresL L m) := by rw [shaV_fold l (by omega),eL,em]
  have l8 : (fold64 squaresL L m).length = 8 := fold64_len _ _ _ rfl
  rw [em] at rp gp
  rw [hsha]
  -- the end
  have fin2 : ∀ T h5,Kq (h.next + 1) h4 h5 → RB (h.next + 1) h5.next h.next (fold64 squaresL L m) (h5.new (.cells (ofI .u8 (List.replicate 32 0)) .rw)) 0 T (h5.new (.cells (ofI .u8 (List.replicate 32 0)) .rw)) → h5.get (h.next + 1) = some (.cells (ofI .u32 (fold64 squaresL L m)) .rw) →
      ∃ h',fnEnd [.cell 2 (some 32)] (bindE (blockE 10 (loopN (evC (callX E X (N + 299)) 292 (N + 299) none L_purserref04_Of_5) (N + 299) ⟨T,[],h5.new (.cells (ofI .u8 (List.replicate 32 0)) .rw)⟩)) (evC (callX E X (N + 299)) 292 (N + 299) none R_purserref04_Of_4)) = some (.agg (ofI .u8 (hashV (fold64 squaresL L m))),h') ∧ Kp h h' := by
    intro T h5 K5 I gh5
    have le5 := K5.1
    obtain ⟨T',h6,r1,a',t2,t3,t17,t18,go,eq⟩ := rb_loop (callX E X (N + 299)) (N + 299) (h.next + 1) h5.next h.next (by omega) (by omega) _ l8 .rw _ (by rw [h_new_ne _ _ (by omega),gh5]) T _ I
    rw [r1]
    rw [rhoB_eq _ l8] at go
    have g6r : h6.get h.next = some (.cells (ofI .u8 (List.replicate 32 0)) .rw) := by rw [eq.2 _ (by omega),h_new_ne _ _ (by omega),K5.2 _ (by omega) (by omega),g4r]
    obtain ⟨s32,st32',l32⟩ := put32 (hashV (fold64 squaresL L m)) (hashV_len _)
    generalize ofI .u8 (hashV (fold64 squaresL L m)) = R at *
    generalize ofI .u8 (List.replicate 32 0) = Z at *
    simp (config := {maxSteps := 2000000}) (disch := first | omega | (simp only [List.length_cons,List.length_nil,List.length_append,List.length_drop]; omega)) only [R_purserref04_Of_4,t2,t17,go,g6r,s32,st32',l32,↓h_put_get,↓s_load,m_load,↓m_st,m_stE,s_resc,s_consR,s_res0,↓s_ops,↓s_seq,↓s_ret,↓s_nil,↓s_op,↓s_bindS,s_bindS,↓s_bindE,s_bindE,s_norm,s_block_exit,↓s_getp,↓s_getp0,s_same,s_end,s_res0,s_tup1,↓iteN_true,↓iteN_false,iteN_true,iteN_false,Nat.reduceEqDiff,decide_true,decide_false,if_true]
    refine ⟨_,rfl,Kp.put ⟨by rw [eq.1,h_next_new]; omega,fun i hi => ?_⟩ _ (Nat.le_refl _)⟩
    rw [eq.2 _ (by omega),h_new_ne _ _ (by omega),K5.2 _ (by omega) (by omega),k4.2 _ (by omega),K3.2 _ hi]
  have o0 : rhoB (fold64 squaresL L m) 0 = List.replicate 32 0 := rfl
  have fin1 : ∀ T,RO p (h.next + 1) (h.next + 2) h.next m squaresL md h4 0 T h4 →
      ∃ h',fnEnd [.cell 2 (some 32)] (bindE (blockE 0 (loopN (evC (callX E X (N + 299)) 292 (N + 299) none L_purserref04_Of_4) (N + 299) ⟨T,[],h4⟩)) (evC (callX E X (N + 299)) 292 (N + 299) none R_purserref04_Of_5)) = some (.agg (ofI .u8 (hashV (fold64 squaresL L m))),h') ∧ Kp h h' := by
    intro T I
    obtain ⟨T',h5,r1,jl,t2,t3,t4,t5,t6,gh,kq'⟩ := ro_loop e x (N + 198) p (h.next + 1) (h.next + 2) h.next m squaresL bm (by omega) rfl md h4 hpn (by omega) (by omega) (by omega) (by omega) gp g4k L hL (by omega) T h4 I
    replace r1 : loopN (evC (callX E X (N + 299)) 292 (N + 299) none L_purserref04_Of_4) (N + 299) ⟨T,[],h4⟩ = some (.exit 0,⟨T',[],h5⟩) := r1
    rw [r1]
    obtain ⟨R4,eR4⟩ : ∃ R,R_purserref04_Of_4 = R := ⟨_,rfl⟩
    obtain ⟨Lo,eLo⟩ : ∃ R,L_purserref04_Of_5 = R := ⟨_,rfl⟩
    rw [eR4,eLo] at fin2
    have z := z32e
    simp (config := {maxSteps := 2000000}) (disch := first | omega | (simp only [List.length_cons,List.length_nil,List.length_append,List.length_drop]; omega)) only [R_purserref04_Of_5,eR4,eLo,← z,↓l_loop,↓l_succ,↓s_alloc,↓s_ops,↓s_seq,↓s_block,↓s_nil,↓s_op,↓s_bindS,s_bindS,↓s_bindE,s_bindE,s_norm,s_block_exit,↓s_con,↓s_mov,if_true]
    exact fin2 _ h5 kq' ⟨by omega,(by (simp only [s_getp,Nat.reduceEqDiff,decide_false,iteN_false,t2]; try rfl)),(by (simp only [s_getp,Nat.reduceEqDiff,decide_false,iteN_false,t3]; try rfl)),(by (simp only [s_getp,Nat.reduceEqDiff,decide_false,decide_true,iteN_false,iteN_true]; try rfl)),(by (simp only [s_getp,decide_true,iteN_true]; try rfl)),by rw [o0]; exact h_new_same _ _,Eqx.refl _ _⟩ gh
  obtain ⟨R5,eR5⟩ : ∃ R,R_purserref04_Of_5 = R := ⟨_,rfl⟩
  obtain ⟨Lo,eLo⟩ : ∃ R,L_purserref04_Of_4 = R := ⟨_,rfl⟩
  rw [eR5,eLo] at fin1 ⊢
  rw [← z32e]
  replace sq : callX E X (N + 299) (.fn k_purserref04_Square) [] h1 = some (.slice (some (h.next + 1,0)) 8 (some 8) 1,h2) := by rw [← n1,← e2]; exact sq
  replace cu : callX E X (N + 299) (.fn k_purserref04_Cube) [] h2 = some (.slice (some (h.next + 2,0)) 64 (some 64) 1,h3) := by rw [← n2,← e3]; exact cu
  replace rp : callX E X (N + 299) (.fn k_purserref04_padded) [.slice a l.length c ez] h3 = some (.slice (some (p,0)) m.length none 1,h4) := rp
  generalize hll : l.length = ll at *
  simp (config := {maxSteps := 2000000}) (disch := first | omega | (simp only [List.length_cons,List.length_nil,List.length_append,List.length_drop]; omega)) only [e1,sq,cu,rp,↓l_loop,↓l_succ,↓s_alloc,↓s_ops,↓s_seq,↓s_block,↓s_nil,↓s_op,↓s_bindS,s_bindS,↓s_bindE,s_bindE,s_norm,↓s_getp,↓s_get,↓s_con,↓s_os0,↓s_os1,↓s_list0,↓s_list1,↓s_mov,↓s_call,↓iteN_true,↓iteN_false,iteN_true,iteN_false,Nat.reduceEqDiff,decide_true,decide_false]
  exact fin1 _ ⟨by omega,(by (simp only [s_getp,Nat.reduceEqDiff,decide_false,decide_true,iteN_false,iteN_true]; try rfl)),(by (simp only [s_getp,Nat.reduceEqDiff,decide_false,decide_true,iteN_false,iteN_true]; try rfl)),(by (simp only [s_getp,Nat.reduceEqDiff,decide_false,decide_true,iteN_false,iteN_true]; try rfl)),(by (simp only [s_getp,Nat.reduceEqDiff,decide_false,decide_true,iteN_false,iteN_true]; try rfl)),(by (simp only [s_getp,decide_true,iteN_true]; try rfl)),g4h,Kq.refl _ _⟩
end Go.Eng
