/- What functions of the program come to: own work. -/
import Derived.Test.YtfopajklnakmpaaBtYc
namespace Go.Eng
open Go
variable {E : Nat → Option Fn} {X : Orc}
set_option linter.unusedSimpArgs false
set_option linter.unusedVariables false
structure LiInW (ep rp : Nat) (l : List Nat) (ay : Option (Nat × Nat)) (n : Nat) (x : List InQ × Nat × Bool) (h0 : H) (T : Tr V) (h : H) : Prop where
  t0 : evO T (.t 0) = .ptr (some (rp,0))
  t1 : evO T (.t 1) = .fn k_tx_reader_in [.ptr (some (rp,0))] []
  t5 : evO T (.t 5) = .int .u64 (n : Int)
  r : RdH ep rp l ay x.2 h
  kr : Kr ep rp h0 h
  row : ∃ a c e,evO T (.t 7) = .slice a x.1.length c e ∧ RowF (fun j => h0.next ≤ j) h0.next 35 InX h x.1 a c e
theorem liIn_stepw (e : EnRr E) (x : NoRr X) (K m : Nat) (ep rp : Nat) (l : List Nat) (bl : byt l = true) (hl : l.length ≤ 100000000) (ay : Option (Nat × Nat)) (n : Nat) (hn : n ≤ 50) (h0 : H) (he : ep < h0.next) (hr : rp < h0.next) (ha : ∀ q o,ay = some (q,o) → q < h0.next) (y : List InQ × Nat × Bool) (hy : y.1.length < n) (hf : y.2.2 = false) (T : Tr V) (h : H) (I : LiInW ep rp l ay n y h0 T h) :
    ∃ T' h',evC (callX E X (K + 19)) 46 m none L_tx_list_api_In_0 ⟨T,[],h⟩ = some (.normal,⟨T',[],h'⟩) ∧ LiInW ep rp l ay n (rxS (rxI l) y) h0 T' h' := by
  obtain ⟨t0,t1,t5,r,kr,a,c,ez,t7,row⟩ := I
  obtain ⟨h1,P,c1,r1,kr1,ic⟩ := in_gow e x K ep rp l bl hl ay y.2 h r
  have n0 := kr.1
  have n1 := kr1.1
  have fi := ic.fit
  obtain ⟨h2,eh2⟩ : ∃ h2,h1.new (.cells P .rw) = h2 := ⟨_,rfl⟩
  have k2 : Kp h1 h2 := by rw [← eh2]; exact Kp.new _ _
  have n2 : h2.next = h1.next + 1 := by rw [← eh2]; rfl
  have row2 : RowF (fun j => h0.next ≤ j) h0.next 35 InX h2 y.1 a c ez := row.mono itInX (by omega) (fun i hk hi => by
    have : h0.next ≤ i := hk
    rw [k2.2 _ (by omega),kr1.2 _ hi (by omega) (by omega)]) (fun q o eq => by
    have := row.lt eq
    rw [k2.2 _ (by omega),kr1.2 _ (by omega) (by omega) (by omega)])
  have ic2 : InX (fun j => h0.next ≤ j ∧ a ≠ some (j,0)) h2 (rxI l y.2).1 P := itInX.mono ic (by omega) (fun i _ hi => k2.2 _ hi) (fun j hj _ => ⟨by have : h.next ≤ j := hj; omega,fun eq => by have := row.lt eq; have : h.next ≤ j := hj; omega⟩)
  obtain ⟨h3,ap,row3,n3,f3⟩ := rowF_app itInX (by omega) 72 (by omega) (fun j => h0.next ≤ j) h0.next h2 (by omega) y.1 (by omega) a c ez row2 (rxI l y.2).1 P ic2
  have src := src_1 h1 fi (by omega)
  rw [eh2] at src
  have ff := fit_fill fi [.int .u8 0,.int .u8 0,.int .u8 0,.int .u8 0,.int .u8 0,.int .u8 0,.int .u8 0,.int .u8 0,.int .u8 0,.int .u8 0,.int .u8 0,.int .u8 0,.int .u8 0,.int .u8 0,.int .u8 0,.int .u8 0,.int .u8 0,.int .u8 0,.int .u8 0,.int .u8 0,.int .u8 0,.int .u8 0,.int .u8 0,.int .u8 0,.int .u8 0,.int .u8 0,.int .u8 0,.int .u8 0,.int .u8 0,.int .u8 0,.int .u8 0,.int .u8 0,.int .u32 0,.slice none 0 (some 0) 0,.int .u32 0] rfl
  have g := r.g
  have wl : wr .u64 (y.1.length : Int) = (y.1.length : Int) := u64n _ (by omega)
  have c0 : decide ((y.1.length : Int) < (n : Int)) = true := decide_eq_true (by omega)
  have alt : ∀ o,a ≠ some (ep,o) ∧ a ≠ some (rp,o) := fun o => ⟨fun eq => by have := row.lt eq; omega,fun eq => by have := row.lt eq; omega⟩
  have r2 := r1.kp k2
  have r3 : RdH ep rp l ay (rxI l y.2).2 h3 := ⟨r2.y.mono (by omega) (f3 _ r2.y.lt (alt 0).1) (fun q hq eq => f3 _ hq (fun eq' => by
      have h1' := row.lt eq'
      have h2' := ha _ _ eq
      omega)),by rw [f3 _ r2.lt (alt 0).2]; exact r2.g,by have := r2.lt; omega,r2.ne,r2.na⟩
  obtain ⟨T',e1,q0,q1,q5,q7⟩ : ∃ T',evC (callX E X (K + 19)) 46 m none L_tx_list_api_In_0 ⟨T,[],h⟩ = some (.normal,⟨T',[],h3⟩) ∧ evO T' (.t 0) = .ptr (some (rp,0)) ∧ evO T' (.t 1) = .fn k_tx_reader_in [.ptr (some (rp,0))] [] ∧ evO T' (.t 5) = .int .u64 (n : Int) ∧ evO T' (.t 7) = .slice (some (h2.next,0)) (y.1.length + 1) none 35 := by
    generalize y.1.length = ln at *
    rw [hf] at g
    obtain ⟨z,ez2⟩ : ∃ z : List V,[.int .u8 0,.int .u8 0,.int .u8 0,.int .u8 0,.int .u8 0,.int .u8 0,.int .u8 0,.int .u8 0,.int .u8 0,.int .u8 0,.int .u8 0,.int .u8 0,.int .u8 0,.int .u8 0,.int .u8 0,.int .u8 0,.int .u8 0,.int .u8 0,.int .u8 0,.int .u8 0,.int .u8 0,.int .u8 0,.int .u8 0,.int .u8 0,.int .u8 0,.int .u8 0,.int .u8 0,.int .u8 0,.int .u8 0,.int .u8 0,.int .u8 0,.int .u8 0,.int .u32 0,.slice none 0 (some 0) 0,.int .u32 0] = z := ⟨_,rfl⟩
    rw [ez2] at ff
    exact ⟨_,by
      simp (config := {maxSteps := 2000000}) (disch := first | omega | (simp only [List.length_cons,List.length_nil,List.length_append,List.length_drop]; omega)) only [L_tx_list_api_In_0,ez2,t0,t1,t5,t7,wl,c0,g,c1,ff,eh2,src,ap,Bool.not_false,↓s_append,↓s_len,x_lenS,↓x_conv,x_convV,↓s_nilchk,x_nilchk,↓x_conv,x_convV,↓x_fieldAddr,x_fieldV,↓s_nilchk,x_nilchk,Nat.zero_add,↓s_load,m_load,↓m_load1,m_load1,x_lenS,↓s_len,↓x_buildS,x_buildE,↓x_P0,↓x_P1,↓s_skip,↓s_ops,↓s_seq,↓s_cond,↓s_block,↓s_nil,↓s_op,↓s_opg,↓s_wanted',↓s_wantV,s_wantV,↓s_bindS,s_bindS,↓s_bindE,s_bindE,s_norm,↓s_condV,s_condV,s_block_normal,↓s_getp,↓s_os0,↓s_mov,↓s_pick,↓s_pickE,s_pickE,↓s_bin,↓s_un,↓s_callv,↓s_callV,s_same,b_lss,u_not,↓iteN_true,↓iteN_false,iteN_true,iteN_false,Nat.zero_add,List.append_nil,Nat.reduceEqDiff,decide_true,decide_false,Bool.not_false,List.getElem?_cons_zero,List.getElem?_cons_succ,beq_self_eq_true]
      exact rfl,(by (simp only [s_getp,Nat.reduceEqDiff,decide_false,iteN_false,t0]; try rfl)),(by (simp only [s_getp,Nat.reduceEqDiff,decide_false,iteN_false,t1]; try rfl)),(by (simp only [s_getp,Nat.reduceEqDiff,decide_false,iteN_false,t5]; try rfl)),(by (simp only [s_getp,decide_true,iteN_true]; try rfl))⟩
  refine ⟨T',h3,e1,q0,q1,q5,r3,?_,?_⟩
  · refine ⟨by omega,fun j hj a1 a2 => ?_⟩
    rw [f3 _ (by omega) (fun eq => by have := row.lt eq; omega),k2.2 _ (by omega),kr1.2 _ (by omega) a1 a2,kr.2 _ hj a1 a2]
  · refine ⟨_,_,_,?_,row3⟩
    rw [q7]; unfold rxS; rw [List.length_append]; rfl
theorem listIn_gow (e : EnRr E) (x : NoRr X) (K : Nat) (hK : 100 < K) (ep rp : Nat) (l : List Nat) (bl : byt l = true) (hl : l.length ≤ 100000000) (ay : Option (Nat × Nat)) (s : Nat × Bool) (h : H) (r : RdH ep rp l ay s h) :
    ∃ h' a c ez,callX E X (K + 20) (.fn k_tx_list_api_In) [.ptr (some (rp,0)),.fn k_tx_reader_in [.ptr (some (rp,0))] []] h = some (.slice a (rxL rxI l s).1.length c ez,h') ∧ RdH ep rp l ay (rxL rxI l s).2 h' ∧ Kr ep rp h h' ∧ RowF (fun j => h.next ≤ j) h.next 35 InX h' (rxL rxI l s).1 a c ez := by
  rw [x_cfn e.li _ _ (Nat.le_of_ble_eq_true rfl) (x.li _ _)]
  have g := r.g
  have lte := r.y.lt
  have ltr := r.lt
  have ha : ∀ q o,ay = some (q,o) → q < h.next := fun q o eq => r.y.alt eq
  obtain ⟨h1,c1,k1,y1,zl⟩ := eysiz_go e.ey x.ey (K + 2) ep l bl hl s.1 ay h r.y
  obtain ⟨r1,kr1⟩ := r.eye k1 _ y1
  obtain ⟨h2,c2,r2,kr2,_⟩ := note_go e x (K + 18) (eySiz l s.1).2.1 ep rp l ay _ h1 r1
  replace c1 : callX E X (K + 19) (.fn k_octet_Eye_Size) _ h = _ := c1
  replace c2 : callX E X (K + 19) (.fn k_tx_reader_note) _ h1 = _ := c2
  have kr12 := kr1.trans kr2
  -- how it begins
  obtain ⟨h3,r3,kr3,en3⟩ : ∃ h3,RdH ep rp l ay (rxB l s) h3 ∧ Kr ep rp h h3 ∧ h3 = (if (eySiz l s.1).1 < 1 ∨ 50 < (eySiz l s.1).1 then h2.put rp (.cells [.ptr (some (ep,0)),.bool true] .rw) else h2) := by
    by_cases hc : (eySiz l s.1).1 < 1 ∨ 50 < (eySiz l s.1).1
    · have b1 : rxB l s = ((eySiz l s.1).2.2,true) := by
        unfold rxB
        have : (decide ((eySiz l s.1).1 < 1) || decide (50 < (eySiz l s.1).1)) = true := by simpa using hc
        rw [this,Bool.or_true]
      refine ⟨h2.put rp (.cells [.ptr (some (ep,0)),.bool true] .rw),?_,?_,by rw [if_pos hc]⟩
      · rw [b1]
        exact ⟨r2.y.mono (Nat.le_refl _) (h_put_ne _ _ r2.ne) (fun q hq ea => h_put_ne _ _ (fun e' => r2.na 0 (by rw [ea,e']))),h_put_same _ _ _,r2.lt,r2.ne,r2.na⟩
      · exact ⟨kr12.1,fun j hj a1 a2 => by rw [h_put_ne _ _ (fun e => a2 e.symm),kr12.2 j hj a1 a2]⟩
    · have b1 : rxB l s = ((eySiz l s.1).2.2,s.2 || decide ((eySiz l s.1).2.1 ≠ 0)) := by
        unfold rxB
        have : (decide ((eySiz l s.1).1 < 1) || decide (50 < (eySiz l s.1).1)) = false := by simpa using hc
        rw [this,Bool.or_false]
      exact ⟨h2,by rw [b1]; exact r2,kr12,by rw [if_neg hc]⟩
  have n3 := kr3.1
  have n3e : h.next ≤ h3.next := n3
  obtain ⟨N,eN⟩ : ∃ N,(eySiz l s.1).1 = N := ⟨_,rfl⟩
  rw [eN] at zl
  have en3' := en3
  obtain ⟨L,l1,l2,l3,l4⟩ := rxR_stop (rxI l) ([],rxB l s) N
  have eL : rxL rxI l s = rxR (rxI l) ([],rxB l s) L := by unfold rxL; rw [eN,l4]
  have L50 : L ≤ 50 ∧ (0 < L → N ≤ 50) := by
    by_cases hL : L = 0
    · exact ⟨by omega,by omega⟩
    · have f0 := l2 0 (by omega)
      have f0' : (rxB l s).2 = false := f0
      unfold rxB at f0'
      rw [eN] at f0'
      simp only [Bool.or_eq_false_iff,decide_eq_false_iff_not] at f0'
      exact ⟨by omega,fun _ => by omega⟩
  have fin : ∀ T,LiInW ep rp l ay N (rxR (rxI l) ([],rxB l s) 0) h3 T h3 → ∃ h' a c ez,fnEnd [.tmp 4] (bindE (blockE 0 (loopN (evC (callX E X (K + 19)) 46 (K + 19) none L_tx_list_api_In_0) (K + 19) ⟨T,[],h3⟩)) (evC (callX E X (K + 19)) 46 (K + 19) none R_tx_list_api_In_0)) = some (.slice a (rxL rxI l s).1.length c ez,h') ∧ RdH ep rp l ay (rxL rxI l s).2 h' ∧ Kr ep rp h h' ∧ RowF (fun j => h.next ≤ j) h.next 35 InX h' (rxL rxI l s).1 a c ez := by
    intro T I
    obtain ⟨T',h',rr,J⟩ := loop_go (f := evC (callX E X (K + 19)) 46 (K + 19) none L_tx_list_api_In_0) (fun i T h' => LiInW ep rp l ay N (rxR (rxI l) ([],rxB l s) i) h3 T h') L (.exit 0) (by intro h; cases h) (fun T h' => LiInW ep rp l ay N (rxR (rxI l) ([],rxB l s) L) h3 T h') (fun i T h' hi I => by
      have ln := rxR_len (rxI l) ([],rxB l s) i (fun j hj => l2 j (by omega))
      obtain ⟨T',h'',e1,I'⟩ := liIn_stepw e x K (K + 19) ep rp l bl hl ay N (L50.2 (by omega)) h3 (by omega) (by omega) (fun q o eq => by have := ha q o eq; omega) (rxR (rxI l) ([],rxB l s) i) (by rw [ln]; simp; omega) (l2 i hi) T h' I
      refine ⟨T',h'',e1,?_⟩
      rw [rxR,if_neg (by rw [l2 i hi]; simp)]
      exact I') (fun T h' I => by
      have ln := rxR_len (rxI l) ([],rxB l s) L (fun j hj => l2 j (by omega))
      have Iw := I
      obtain ⟨t0,t1,t5,r,kr,a,c,ez,t7,row⟩ := I
      have g := r.g
      generalize hy : rxR (rxI l) ([],rxB l s) L = y at *
      have wl : wr .u64 (y.1.length : Int) = (y.1.length : Int) := u64n _ (by rw [ln]; simp; omega)
      have cc : (decide ((y.1.length : Int) < (N : Int)) = false) ∨ (decide ((y.1.length : Int) < (N : Int)) = true ∧ y.2.2 = true) := by
        by_cases hlt : (y.1.length : Int) < (N : Int)
        · right
          refine ⟨decide_eq_true hlt,?_⟩
          rcases l3 with l3 | l3
          · rw [ln] at hlt; simp at hlt; omega
          · exact l3
        · left; exact decide_eq_false hlt
      obtain ⟨ln',eln⟩ : ∃ n,y.1.length = n := ⟨_,rfl⟩
      rw [eln] at t7 wl cc
      rcases cc with c0 | ⟨c0,cf⟩
      · exact ⟨_,h',by
          simp (config := {maxSteps := 2000000}) (disch := first | omega | (simp only [List.length_cons,List.length_nil,List.length_append,List.length_drop]; omega)) only [L_tx_list_api_In_0,t5,t7,wl,c0,↓s_len,x_lenS,↓x_conv,x_convV,↓x_conv,x_convV,x_lenS,↓s_len,↓s_ops,↓s_seq,↓s_cond,↓s_exit,↓s_nil,↓s_op,↓s_opg,↓s_wanted',↓s_wantV,s_wantV,beq_true,↓s_bindS,s_bindS,↓s_bindE,s_bindE,s_bindE_exit,s_norm,↓s_condV,s_condV,↓s_getp,↓s_con,↓s_mov,↓s_pick,↓s_pickE,s_pickE,↓s_bin,s_same,b_lss,↓iteN_true,↓iteN_false,iteN_true,iteN_false,Nat.reduceEqDiff,decide_true,decide_false]
          exact rfl,⟨(by (simp only [s_getp,Nat.reduceEqDiff,decide_false,iteN_false,t0]; try rfl)),(by (simp only [s_getp,Nat.reduceEqDiff,decide_false,iteN_false,t1]; try rfl)),(by (simp only [s_getp,Nat.reduceEqDiff,decide_false,iteN_false,t5]; try rfl)),r,kr,a,c,ez,by rw [eln]; exact (by (simp only [s_getp,Nat.reduceEqDiff,decide_false,iteN_false,t7]; try rfl)),row⟩⟩
      · rw [cf] at g
        exact ⟨_,h',by
          simp (config := {maxSteps := 2000000}) (disch := first | omega | (simp only [List.length_cons,List.length_nil,List.length_append,List.length_drop]; omega)) only [L_tx_list_api_In_0,t0,t5,t7,wl,c0,g,Bool.not_true,↓s_len,x_lenS,↓x_conv,x_convV,↓s_nilchk,x_nilchk,↓x_conv,x_convV,↓x_fieldAddr,x_fieldV,↓s_nilchk,x_nilchk,Nat.zero_add,↓s_load,m_load,↓m_load1,m_load1,x_lenS,↓s_len,↓s_ops,↓s_seq,↓s_cond,↓s_exit,↓s_nil,↓s_op,↓s_opg,↓s_wanted',↓s_wantV,s_wantV,↓s_bindS,s_bindS,↓s_bindE,s_bindE,s_bindE_exit,s_norm,↓s_condV,s_condV,↓s_getp,↓s_mov,↓s_pick,↓s_pickE,s_pickE,↓s_bin,↓s_un,s_same,b_lss,u_not,↓iteN_true,↓iteN_false,iteN_true,iteN_false,Nat.zero_add,Nat.reduceEqDiff,decide_true,decide_false,Bool.not_true,List.getElem?_cons_zero,List.getElem?_cons_succ,beq_self_eq_true]
          exact rfl,⟨(by (simp only [s_getp,Nat.reduceEqDiff,decide_false,iteN_false,t0]; try rfl)),(by (simp only [s_getp,Nat.reduceEqDiff,decide_false,iteN_false,t1]; try rfl)),(by (simp only [s_getp,Nat.reduceEqDiff,decide_false,iteN_false,t5]; try rfl)),r,kr,a,c,ez,by rw [eln]; exact (by (simp only [s_getp,Nat.reduceEqDiff,decide_false,iteN_false,t7]; try rfl)),row⟩⟩) L 0 (by omega) (K + 19) (by omega) T h3 I
    rw [rr,eL]
    obtain ⟨t0,t1,t5,r,kr,a,c,ez,t7,row⟩ := J
    generalize rxR (rxI l) ([],rxB l s) L = y at *
    refine ⟨h',a,c,ez,?_,r,kr3.trans kr,?_⟩
    · generalize y.1.length = n at *
      simp (config := {maxSteps := 2000000}) (disch := first | omega | (simp only [List.length_cons,List.length_nil,List.length_append,List.length_drop]; omega)) only [R_tx_list_api_In_0,t7,s_res0,↓s_ops,↓s_seq,↓s_ret,↓s_nil,↓s_op,↓s_bindS,s_bindS,↓s_bindE,s_bindE,s_norm,s_block_exit,↓s_getp,↓s_mov,s_end,s_res0,s_res1,s_tup1,↓iteN_true,iteN_true,decide_true,if_true]
      try rfl
    · rcases row with row | ⟨q1,q,md,ps,q2,q3,q4,q5,al,q6,q7,q8⟩
      · exact .inl row
      · exact .inr ⟨q1,q,md,ps,q2,q3,q4,q5,al.imp (fun _ _ x => itInX.mono x (Nat.le_refl _) (fun _ _ _ => rfl) (fun j hj _ => ⟨by have : h3.next ≤ j := hj.1; omega,hj.2⟩)),q6,by omega,q8⟩
  have fin' := fun T q0 q1 q5 q7 => fin T ⟨q0,q1,q5,r3,Kr.refl _ _ _,none,some 0,0,q7,RowF.nil _ _ _ _ _⟩
  clear fin
  obtain ⟨R,eR⟩ : ∃ R,R_tx_list_api_In_0 = R := ⟨_,rfl⟩
  obtain ⟨Lo,eLo⟩ : ∃ R,L_tx_list_api_In_0 = R := ⟨_,rfl⟩
  rw [eR,eLo] at fin' ⊢
  have g2 := r2.g
  have q0 : ((rxR (rxI l) ([],rxB l s) 0).1.length) = 0 := rfl
  rw [q0] at fin'
  rw [eN] at c1 en3
  generalize (rxL rxI l s).1.length = LL at *
  generalize (eySiz l s.1).2.1 = er at *
  by_cases h1' : N < 1
  · have d1 : decide ((N : Int) < 1) = true := decide_eq_true (by omega)
    rw [if_pos (.inl h1')] at en3
    rw [en3] at fin'
    simp (config := {maxSteps := 2000000}) (disch := first | omega | (simp only [List.length_cons,List.length_nil,List.length_append,List.length_drop]; omega)) only [g,g2,c1,c2,d1,m_storeB,↓s_nilchk,x_nilchk,↓x_fieldAddr,x_fieldV,↓s_nilchk,x_nilchk,Nat.zero_add,Nat.add_zero,↓l_loop,↓l_succ,↓s_load,m_load,↓m_load1,m_load1,↓m_st,m_stE,m_storeE,w_zero,w_succ,List.length_cons,List.length_nil,List.drop_succ_cons,List.drop_nil,↓s_ops,↓s_seq,↓s_cond,↓s_block,↓s_nil,↓s_op,↓s_opg,↓s_wanted',↓s_wantV,s_wantV,beq_false,↓s_bindS,s_bindS,↓s_bindE,s_bindE,s_norm,↓s_condV,s_condV,↓s_getp,↓s_get,↓s_con,↓s_os0,↓s_os1,↓s_list0,↓s_list1,↓s_mov,↓s_pick,↓s_pickE,s_pickE,↓s_bin,↓s_call,↓s_ext,s_same,b_lss,↓iteN_true,↓iteN_false,iteN_true,iteN_false,Nat.zero_add,List.append_nil,Nat.reduceEqDiff,decide_true,decide_false,Bool.not_true,List.getElem?_cons_zero,List.getElem?_cons_succ]
    exact fin' _ (by (simp only [s_getp,s_getp0,Nat.reduceEqDiff,decide_false,iteN_false]; try rfl)) (by (simp only [s_getp,s_getp0,Nat.reduceEqDiff,decide_false,iteN_false]; try rfl)) (by (simp only [s_getp,s_getp0,Nat.reduceEqDiff,decide_false,decide_true,iteN_false,iteN_true]; try rfl)) (by (simp only [s_getp,decide_true,iteN_true]; try rfl))
  · have d1 : decide ((N : Int) < 1) = false := decide_eq_false (by omega)
    by_cases h2' : 50 < N
    · have d2 : decide ((50 : Int) < (N : Int)) = true := decide_eq_true (by omega)
      rw [if_pos (.inr h2')] at en3
      rw [en3] at fin'
      simp (config := {maxSteps := 2000000}) (disch := first | omega | (simp only [List.length_cons,List.length_nil,List.length_append,List.length_drop]; omega)) only [g,g2,c1,c2,d1,d2,m_storeB,↓s_nilchk,x_nilchk,↓x_fieldAddr,x_fieldV,↓s_nilchk,x_nilchk,Nat.zero_add,Nat.add_zero,↓l_loop,↓l_succ,↓s_load,m_load,↓m_load1,m_load1,↓m_st,m_stE,m_storeE,w_zero,w_succ,List.length_cons,List.length_nil,List.drop_succ_cons,List.drop_nil,↓s_ops,↓s_seq,↓s_cond,↓s_block,↓s_nil,↓s_op,↓s_opg,↓s_wanted',↓s_wantV,s_wantV,↓s_bindS,s_bindS,↓s_bindE,s_bindE,s_norm,↓s_condV,s_condV,↓s_getp,↓s_get,↓s_con,↓s_os0,↓s_os1,↓s_list0,↓s_list1,↓s_mov,↓s_pick,↓s_pickE,s_pickE,↓s_bin,↓s_call,↓s_ext,s_same,b_lss,b_gtr,↓iteN_true,↓iteN_false,iteN_true,iteN_false,Nat.zero_add,List.append_nil,Nat.reduceEqDiff,decide_true,decide_false,List.getElem?_cons_zero,List.getElem?_cons_succ,beq_self_eq_true]
      exact fin' _ (by (simp only [s_getp,s_getp0,Nat.reduceEqDiff,decide_false,iteN_false]; try rfl)) (by (simp only [s_getp,s_getp0,Nat.reduceEqDiff,decide_false,iteN_false]; try rfl)) (by (simp only [s_getp,s_getp0,Nat.reduceEqDiff,decide_false,decide_true,iteN_false,iteN_true]; try rfl)) (by (simp only [s_getp,decide_true,iteN_true]; try rfl))
    · have d2 : decide ((50 : Int) < (N : Int)) = false := decide_eq_false (by omega)
      rw [if_neg (by omega)] at en3
      rw [en3] at fin'
      simp (config := {maxSteps := 2000000}) (disch := first | omega | (simp only [List.length_cons,List.length_nil,List.length_append,List.length_drop]; omega)) only [g,c1,c2,d1,d2,↓s_nilchk,x_nilchk,↓x_fieldAddr,x_fieldV,↓s_nilchk,x_nilchk,Nat.zero_add,Nat.add_zero,↓l_loop,↓l_succ,↓s_load,m_load,↓m_load1,m_load1,↓s_skip,↓s_ops,↓s_seq,↓s_cond,↓s_block,↓s_nil,↓s_op,↓s_opg,↓s_wanted',↓s_wantV,s_wantV,↓s_bindS,s_bindS,↓s_bindE,s_bindE,s_norm,↓s_condV,s_condV,↓s_getp,↓s_get,↓s_con,↓s_os0,↓s_os1,↓s_list0,↓s_list1,↓s_mov,↓s_pick,↓s_pickE,s_pickE,↓s_bin,↓s_call,↓s_ext,s_same,b_lss,b_gtr,↓iteN_true,↓iteN_false,iteN_true,iteN_false,Nat.zero_add,Nat.reduceEqDiff,decide_true,decide_false,List.getElem?_cons_zero,List.getElem?_cons_succ,beq_self_eq_true]
      exact fin' _ (by (simp only [s_getp,Nat.reduceEqDiff,decide_false,iteN_false]; try rfl)) (by (simp only [s_getp,Nat.reduceEqDiff,decide_false,iteN_false]; try rfl)) (by (simp only [s_getp,Nat.reduceEqDiff,decide_false,decide_true,iteN_false,iteN_true]; try rfl)) (by (simp only [s_getp,decide_true,iteN_true]; try rfl))
structure LiOutW (ep rp : Nat) (l : List Nat) (ay : Option (Nat × Nat)) (n : Nat) (x : List OutQ × Nat × Bool) (h0 : H) (T : Tr V) (h : H) : Prop where
  t0 : evO T (.t 0) = .ptr (some (rp,0))
  t1 : evO T (.t 1) = .fn k_tx_reader_out [.ptr (some (rp,0))] []
  t5 : evO T (.t 5) = .int .u64 (n : Int)
  r : RdH ep rp l ay x.2 h
  kr : Kr ep rp h0 h
  row : ∃ a c e,evO T (.t 7) = .slice a x.1.length c e ∧ RowF (fun j => h0.next ≤ j) h0.next 2 OutX h x.1 a c e
theorem liOut_stepw (e : EnRr E) (x : NoRr X) (K m : Nat) (ep rp : Nat) (l : List Nat) (bl : byt l = true) (hl : l.length ≤ 100000000) (ay : Option (Nat × Nat)) (n : Nat) (hn : n ≤ 50) (h0 : H) (he : ep < h0.next) (hr : rp < h0.next) (ha : ∀ q o,ay = some (q,o) → q < h0.next) (y : List OutQ × Nat × Bool) (hy : y.1.length < n) (hf : y.2.2 = false) (T : Tr V) (h : H) (I : LiOutW ep rp l ay n y h0 T h) :
    ∃ T' h',evC (callX E X (K + 19)) 46 m none L_tx_list_api_Out_0 ⟨T,[],h⟩ = some (.normal,⟨T',[],h'⟩) ∧ LiOutW ep rp l ay n (rxS (rxO l) y) h0 T' h' := by
  obtain ⟨t0,t1,t5,r,kr,a,c,ez,t7,row⟩ := I
  obtain ⟨h1,P,c1,r1,kr1,ic⟩ := out_gow e x K ep rp l bl hl ay y.2 h r
  have n0 := kr.1
  have n1 := kr1.1
  have fi := ic.fit
  obtain ⟨h2,eh2⟩ : ∃ h2,h1.new (.cells P .rw) = h2 := ⟨_,rfl⟩
  have k2 : Kp h1 h2 := by rw [← eh2]; exact Kp.new _ _
  have n2 : h2.next = h1.next + 1 := by rw [← eh2]; rfl
  have row2 : RowF (fun j => h0.next ≤ j) h0.next 2 OutX h2 y.1 a c ez := row.mono itOutX (by omega) (fun i hk hi => by
    have : h0.next ≤ i := hk
    rw [k2.2 _ (by omega),kr1.2 _ hi (by omega) (by omega)]) (fun q o eq => by
    have := row.lt eq
    rw [k2.2 _ (by omega),kr1.2 _ (by omega) (by omega) (by omega)])
  have ic2 : OutX (fun j => h0.next ≤ j ∧ a ≠ some (j,0)) h2 (rxO l y.2).1 P := itOutX.mono ic (by omega) (fun i _ hi => k2.2 _ hi) (fun j hj _ => ⟨by have : h.next ≤ j := hj; omega,fun eq => by have := row.lt eq; have : h.next ≤ j := hj; omega⟩)
  obtain ⟨h3,ap,row3,n3,f3⟩ := rowF_app itOutX (by omega) 32 (by omega) (fun j => h0.next ≤ j) h0.next h2 (by omega) y.1 (by omega) a c ez row2 (rxO l y.2).1 P ic2
  have src := src_1 h1 fi (by omega)
  rw [eh2] at src
  have ff := fit_fill fi [.int .i64 0,.slice none 0 (some 0) 0] rfl
  have g := r.g
  have wl : wr .u64 (y.1.length : Int) = (y.1.length : Int) := u64n _ (by omega)
  have c0 : decide ((y.1.length : Int) < (n : Int)) = true := decide_eq_true (by omega)
  have alt : ∀ o,a ≠ some (ep,o) ∧ a ≠ some (rp,o) := fun o => ⟨fun eq => by have := row.lt eq; omega,fun eq => by have := row.lt eq; omega⟩
  have r2 := r1.kp k2
  have r3 : RdH ep rp l ay (rxO l y.2).2 h3 := ⟨r2.y.mono (by omega) (f3 _ r2.y.lt (alt 0).1) (fun q hq eq => f3 _ hq (fun eq' => by
      have h1' := row.lt eq'
      have h2' := ha _ _ eq
      omega)),by rw [f3 _ r2.lt (alt 0).2]; exact r2.g,by have := r2.lt; omega,r2.ne,r2.na⟩
  obtain ⟨T',e1,q0,q1,q5,q7⟩ : ∃ T',evC (callX E X (K + 19)) 46 m none L_tx_list_api_Out_0 ⟨T,[],h⟩ = some (.normal,⟨T',[],h3⟩) ∧ evO T' (.t 0) = .ptr (some (rp,0)) ∧ evO T' (.t 1) = .fn k_tx_reader_out [.ptr (some (rp,0))] [] ∧ evO T' (.t 5) = .int .u64 (n : Int) ∧ evO T' (.t 7) = .slice (some (h2.next,0)) (y.1.length + 1) none 2 := by
    generalize y.1.length = ln at *
    rw [hf] at g
    obtain ⟨z,ez2⟩ : ∃ z : List V,[.int .i64 0,.slice none 0 (some 0) 0] = z := ⟨_,rfl⟩
    rw [ez2] at ff
    exact ⟨_,by
      simp (config := {maxSteps := 2000000}) (disch := first | omega | (simp only [List.length_cons,List.length_nil,List.length_append,List.length_drop]; omega)) only [L_tx_list_api_Out_0,ez2,t0,t1,t5,t7,wl,c0,g,c1,ff,eh2,src,ap,Bool.not_false,↓s_append,↓s_len,x_lenS,↓x_conv,x_convV,↓s_nilchk,x_nilchk,↓x_conv,x_convV,↓x_fieldAddr,x_fieldV,↓s_nilchk,x_nilchk,Nat.zero_add,↓s_load,m_load,↓m_load1,m_load1,x_lenS,↓s_len,↓x_buildS,x_buildE,↓x_P0,↓x_P1,↓s_skip,↓s_ops,↓s_seq,↓s_cond,↓s_block,↓s_nil,↓s_op,↓s_opg,↓s_wanted',↓s_wantV,s_wantV,↓s_bindS,s_bindS,↓s_bindE,s_bindE,s_norm,↓s_condV,s_condV,s_block_normal,↓s_getp,↓s_os0,↓s_mov,↓s_pick,↓s_pickE,s_pickE,↓s_bin,↓s_un,↓s_callv,↓s_callV,s_same,b_lss,u_not,↓iteN_true,↓iteN_false,iteN_true,iteN_false,Nat.zero_add,List.append_nil,Nat.reduceEqDiff,decide_true,decide_false,Bool.not_false,List.getElem?_cons_zero,List.getElem?_cons_succ,beq_self_eq_true]
      exact rfl,(by (simp only [s_getp,Nat.reduceEqDiff,decide_false,iteN_false,t0]; try rfl)),(by (simp only [s_getp,Nat.reduceEqDiff,decide_false,iteN_false,t1]; try rfl)),(by (simp only [s_getp,Nat.reduceEqDiff,decide_false,iteN_false,t5]; try rfl)),(by (simp only [s_getp,decide_true,iteN_true]; try rfl))⟩
  refine ⟨T',h3,e1,q0,q1,q5,r3,?_,?_⟩
  · refine ⟨by omega,fun j hj a1 a2 => ?_⟩
    rw [f3 _ (by omega) (fun eq => by have := row.lt eq; omega),k2.2 _ (by omega),kr1.2 _ (by omega) a1 a2,kr.2 _ hj a1 a2]
  · refine ⟨_,_,_,?_,row3⟩
    rw [q7]; unfold rxS; rw [List.length_append]; rfl
theorem listOut_gow (e : EnRr E) (x : NoRr X) (K : Nat) (hK : 100 < K) (ep rp : Nat) (l : List Nat) (bl : byt l = true) (hl : l.length ≤ 100000000) (ay : Option (Nat × Nat)) (s : Nat × Bool) (h : H) (r : RdH ep rp l ay s h) :
    ∃ h' a c ez,callX E X (K + 20) (.fn k_tx_list_api_Out) [.ptr (some (rp,0)),.fn k_tx_reader_out [.ptr (some (rp,0))] []] h = some (.slice a (rxL rxO l s).1.length c ez,h') ∧ RdH ep rp l ay (rxL rxO l s).2 h' ∧ Kr ep rp h h' ∧ RowF (fun j => h.next ≤ j) h.next 2 OutX h' (rxL rxO l s).1 a c ez := by
  rw [x_cfn e.lt _ _ (Nat.le_of_ble_eq_true rfl) (x.lt _ _)]
  have g := r.g
  have lte := r.y.lt
  have ltr := r.lt
  have ha : ∀ q o,ay = some (q,o) → q < h.next := fun q o eq => r.y.alt eq
  obtain ⟨h1,c1,k1,y1,zl⟩ := eysiz_go e.ey x.ey (K + 2) ep l bl hl s.1 ay h r.y
  obtain ⟨r1,kr1⟩ := r.eye k1 _ y1
  obtain ⟨h2,c2,r2,kr2,_⟩ := note_go e x (K + 18) (eySiz l s.1).2.1 ep rp l ay _ h1 r1
  replace c1 : callX E X (K + 19) (.fn k_octet_Eye_Size) _ h = _ := c1
  replace c2 : callX E X (K + 19) (.fn k_tx_reader_note) _ h1 = _ := c2
  have kr12 := kr1.trans kr2
  -- how it begins
  obtain ⟨h3,r3,kr3,en3⟩ : ∃ h3,RdH ep rp l ay (rxB l s) h3 ∧ Kr ep rp h h3 ∧ h3 = (if (eySiz l s.1).1 < 1 ∨ 50 < (eySiz l s.1).1 then h2.put rp (.cells [.ptr (some (ep,0)),.bool true] .rw) else h2) := by
    by_cases hc : (eySiz l s.1).1 < 1 ∨ 50 < (eySiz l s.1).1
    · have b1 : rxB l s = ((eySiz l s.1).2.2,true) := by
        unfold rxB
        have : (decide ((eySiz l s.1).1 < 1) || decide (50 < (eySiz l s.1).1)) = true := by simpa using hc
        rw [this,Bool.or_true]
      refine ⟨h2.put rp (.cells [.ptr (some (ep,0)),.bool true] .rw),?_,?_,by rw [if_pos hc]⟩
      · rw [b1]
        exact ⟨r2.y.mono (Nat.le_refl _) (h_put_ne _ _ r2.ne) (fun q hq ea => h_put_ne _ _ (fun e' => r2.na 0 (by rw [ea,e']))),h_put_same _ _ _,r2.lt,r2.ne,r2.na⟩
      · exact ⟨kr12.1,fun j hj a1 a2 => by rw [h_put_ne _ _ (fun e => a2 e.symm),kr12.2 j hj a1 a2]⟩
    · have b1 : rxB l s = ((eySiz l s.1).2.2,s.2 || decide ((eySiz l s.1).2.1 ≠ 0)) := by
        unfold rxB
        have : (decide ((eySiz l s.1).1 < 1) || decide (50 < (eySiz l s.1).1)) = false := by simpa using hc
        rw [this,Bool.or_false]
      exact ⟨h2,by rw [b1]; exact r2,kr12,by rw [if_neg hc]⟩
  have n3 := kr3.1
  have n3e : h.next ≤ h3.next := n3
  obtain ⟨N,eN⟩ : ∃ N,(eySiz l s.1).1 = N := ⟨_,rfl⟩
  rw [eN] at zl
  have en3' := en3
  obtain ⟨L,l1,l2,l3,l4⟩ := rxR_stop (rxO l) ([],rxB l s) N
  have eL : rxL rxO l s = rxR (rxO l) ([],rxB l s) L := by unfold rxL; rw [eN,l4]
  have L50 : L ≤ 50 ∧ (0 < L → N ≤ 50) := by
    by_cases hL : L = 0
    · exact ⟨by omega,by omega⟩
    · have f0 := l2 0 (by omega)
      have f0' : (rxB l s).2 = false := f0
      unfold rxB at f0'
      rw [eN] at f0'
      simp only [Bool.or_eq_false_iff,decide_eq_false_iff_not] at f0'
      exact ⟨by omega,fun _ => by omega⟩
  have fin : ∀ T,LiOutW ep rp l ay N (rxR (rxO l) ([],rxB l s) 0) h3 T h3 → ∃ h' a c ez,fnEnd [.tmp 4] (bindE (blockE 0 (loopN (evC (callX E X (K + 19)) 46 (K + 19) none L_tx_list_api_Out_0) (K + 19) ⟨T,[],h3⟩)) (evC (callX E X (K + 19)) 46 (K + 19) none R_tx_list_api_Out_0)) = some (.slice a (rxL rxO l s).1.length c ez,h') ∧ RdH ep rp l ay (rxL rxO l s).2 h' ∧ Kr ep rp h h' ∧ RowF (fun j => h.next ≤ j) h.next 2 OutX h' (rxL rxO l s).1 a c ez := by
    intro T I
    obtain ⟨T',h',rr,J⟩ := loop_go (f := evC (callX E X (K + 19)) 46 (K + 19) none L_tx_list_api_Out_0) (fun i T h' => LiOutW ep rp l ay N (rxR (rxO l) ([],rxB l s) i) h3 T h') L (.exit 0) (by intro h; cases h) (fun T h' => LiOutW ep rp l ay N (rxR (rxO l) ([],rxB l s) L) h3 T h') (fun i T h' hi I => by
      have ln := rxR_len (rxO l) ([],rxB l s) i (fun j hj => l2 j (by omega))
      obtain ⟨T',h'',e1,I'⟩ := liOut_stepw e x K (K + 19) ep rp l bl hl ay N (L50.2 (by omega)) h3 (by omega) (by omega) (fun q o eq => by have := ha q o eq; omega) (rxR (rxO l) ([],rxB l s) i) (by rw [ln]; simp; omega) (l2 i hi) T h' I
      refine ⟨T',h'',e1,?_⟩
      rw [rxR,if_neg (by rw [l2 i hi]; simp)]
      exact I') (fun T h' I => by
      have ln := rxR_len (rxO l) ([],rxB l s) L (fun j hj => l2 j (by omega))
      have Iw := I
      obtain ⟨t0,t1,t5,r,kr,a,c,ez,t7,row⟩ := I
      have g := r.g
      generalize hy : rxR (rxO l) ([],rxB l s) L = y at *
      have wl : wr .u64 (y.1.length : Int) = (y.1.length : Int) := u64n _ (by rw [ln]; simp; omega)
      have cc : (decide ((y.1.length : Int) < (N : Int)) = false) ∨ (decide ((y.1.length : Int) < (N : Int)) = true ∧ y.2.2 = true) := by
        by_cases hlt : (y.1.length : Int) < (N : Int)
        · right
          refine ⟨decide_eq_true hlt,?_⟩
          rcases l3 with l3 | l3
          · rw [ln] at hlt; simp at hlt; omega
          · exact l3
        · left; exact decide_eq_false hlt
      obtain ⟨ln',eln⟩ : ∃ n,y.1.length = n := ⟨_,rfl⟩
      rw [eln] at t7 wl cc
      rcases cc with c0 | ⟨c0,cf⟩
      · exact ⟨_,h',by
          simp (config := {maxSteps := 2000000}) (disch := first | omega | (simp only [List.length_cons,List.length_nil,List.length_append,List.length_drop]; omega)) only [L_tx_list_api_Out_0,t5,t7,wl,c0,↓s_len,x_lenS,↓x_conv,x_convV,↓x_conv,x_convV,x_lenS,↓s_len,↓s_ops,↓s_seq,↓s_cond,↓s_exit,↓s_nil,↓s_op,↓s_opg,↓s_wanted',↓s_wantV,s_wantV,beq_true,↓s_bindS,s_bindS,↓s_bindE,s_bindE,s_bindE_exit,s_norm,↓s_condV,s_condV,↓s_getp,↓s_con,↓s_mov,↓s_pick,↓s_pickE,s_pickE,↓s_bin,s_same,b_lss,↓iteN_true,↓iteN_false,iteN_true,iteN_false,Nat.reduceEqDiff,decide_true,decide_false]
          exact rfl,⟨(by (simp only [s_getp,Nat.reduceEqDiff,decide_false,iteN_false,t0]; try rfl)),(by (simp only [s_getp,Nat.reduceEqDiff,decide_false,iteN_false,t1]; try rfl)),(by (simp only [s_getp,Nat.reduceEqDiff,decide_false,iteN_false,t5]; try rfl)),r,kr,a,c,ez,by rw [eln]; exact (by (simp only [s_getp,Nat.reduceEqDiff,decide_false,iteN_false,t7]; try rfl)),row⟩⟩
      · rw [cf] at g
        exact ⟨_,h',by
          simp (config := {maxSteps := 2000000}) (disch := first | omega | (simp only [List.length_cons,List.length_nil,List.length_append,List.length_drop]; omega)) only [L_tx_list_api_Out_0,t0,t5,t7,wl,c0,g,Bool.not_true,↓s_len,x_lenS,↓x_conv,x_convV,↓s_nilchk,x_nilchk,↓x_conv,x_convV,↓x_fieldAddr,x_fieldV,↓s_nilchk,x_nilchk,Nat.zero_add,↓s_load,m_load,↓m_load1,m_load1,x_lenS,↓s_len,↓s_ops,↓s_seq,↓s_cond,↓s_exit,↓s_nil,↓s_op,↓s_opg,↓s_wanted',↓s_wantV,s_wantV,↓s_bindS,s_bindS,↓s_bindE,s_bindE,s_bindE_exit,s_norm,↓s_condV,s_condV,↓s_getp,↓s_mov,↓s_pick,↓s_pickE,s_pickE,↓s_bin,↓s_un,s_same,b_lss,u_not,↓iteN_true,↓iteN_false,iteN_true,iteN_false,Nat.zero_add,Nat.reduceEqDiff,decide_true,decide_false,Bool.not_true,List.getElem?_cons_zero,List.getElem?_cons_succ,beq_self_eq_true]
          exact rfl,⟨(by (simp only [s_getp,Nat.reduceEqDiff,decide_false,iteN_false,t0]; try rfl)),(by (simp only [s_getp,Nat.reduceEqDiff,decide_false,iteN_false,t1]; try rfl)),(by (simp only [s_getp,Nat.reduceEqDiff,decide_false,iteN_false,t5]; try rfl)),r,kr,a,c,ez,by rw [eln]; exact (by (simp only [s_getp,Nat.reduceEqDiff,decide_false,iteN_false,t7]; try rfl)),row⟩⟩) L 0 (by omega) (K + 19) (by omega) T h3 I
    rw [rr,eL]
    obtain ⟨t0,t1,t5,r,kr,a,c,ez,t7,row⟩ := J
    generalize rxR (rxO l) ([],rxB l s) L = y at *
    refine ⟨h',a,c,ez,?_,r,kr3.trans kr,?_⟩
    · generalize y.1.length = n at *
      simp (config := {maxSteps := 2000000}) (disch := first | omega | (simp only [List.length_cons,List.length_nil,List.length_append,List.length_drop]; omega)) only [R_tx_list_api_Out_0,t7,s_res0,↓s_ops,↓s_seq,↓s_ret,↓s_nil,↓s_op,↓s_bindS,s_bindS,↓s_bindE,s_bindE,s_norm,s_block_exit,↓s_getp,↓s_mov,s_end,s_res0,s_res1,s_tup1,↓iteN_true,iteN_true,decide_true,if_true]
      try rfl
    · rcases row with row | ⟨q1,q,md,ps,q2,q3,q4,q5,al,q6,q7,q8⟩
      · exact .inl row
      · exact .inr ⟨q1,q,md,ps,q2,q3,q4,q5,al.imp (fun _ _ x => itOutX.mono x (Nat.le_refl _) (fun _ _ _ => rfl) (fun j hj _ => ⟨by have : h3.next ≤ j := hj.1; omega,hj.2⟩)),q6,by omega,q8⟩
  have fin' := fun T q0 q1 q5 q7 => fin T ⟨q0,q1,q5,r3,Kr.refl _ _ _,none,some 0,0,q7,RowF.nil _ _ _ _ _⟩
  clear fin
  obtain ⟨R,eR⟩ : ∃ R,R_tx_list_api_Out_0 = R := ⟨_,rfl⟩
  obtain ⟨Lo,eLo⟩ : ∃ R,L_tx_list_api_Out_0 = R := ⟨_,rfl⟩
  rw [eR,eLo] at fin' ⊢
  have g2 := r2.g
  have q0 : ((rxR (rxO l) ([],rxB l s) 0).1.length) = 0 := rfl
  rw [q0] at fin'
  rw [eN] at c1 en3
  generalize (rxL rxO l s).1.length = LL at *
  generalize (eySiz l s.1).2.1 = er at *
  by_cases h1' : N < 1
  · have d1 : decide ((N : Int) < 1) = true := decide_eq_true (by omega)
    rw [if_pos (.inl h1')] at en3
    rw [en3] at fin'
    simp (config := {maxSteps := 2000000}) (disch := first | omega | (simp only [List.length_cons,List.length_nil,List.length_append,List.length_drop]; omega)) only [g,g2,c1,c2,d1,m_storeB,↓s_nilchk,x_nilchk,↓x_fieldAddr,x_fieldV,↓s_nilchk,x_nilchk,Nat.zero_add,Nat.add_zero,↓l_loop,↓l_succ,↓s_load,m_load,↓m_load1,m_load1,↓m_st,m_stE,m_storeE,w_zero,w_succ,List.length_cons,List.length_nil,List.drop_succ_cons,List.drop_nil,↓s_ops,↓s_seq,↓s_cond,↓s_block,↓s_nil,↓s_op,↓s_opg,↓s_wanted',↓s_wantV,s_wantV,beq_false,↓s_bindS,s_bindS,↓s_bindE,s_bindE,s_norm,↓s_condV,s_condV,↓s_getp,↓s_get,↓s_con,↓s_os0,↓s_os1,↓s_list0,↓s_list1,↓s_mov,↓s_pick,↓s_pickE,s_pickE,↓s_bin,↓s_call,↓s_ext,s_same,b_lss,↓iteN_true,↓iteN_false,iteN_true,iteN_false,Nat.zero_add,List.append_nil,Nat.reduceEqDiff,decide_true,decide_false,Bool.not_true,List.getElem?_cons_zero,List.getElem?_cons_succ]
    exact fin' _ (by (simp only [s_getp,s_getp0,Nat.reduceEqDiff,decide_false,iteN_false]; try rfl)) (by (simp only [s_getp,s_getp0,Nat.reduceEqDiff,decide_false,iteN_false]; try rfl)) (by (simp only [s_getp,s_getp0,Nat.reduceEqDiff,decide_false,decide_true,iteN_false,iteN_true]; try rfl)) (by (simp only [s_getp,decide_true,iteN_true]; try rfl))
  · have d1 : decide ((N : Int) < 1) = false := decide_eq_false (by omega)
    by_cases h2' : 50 < N
    · have d2 : decide ((50 : Int) < (N : Int)) = true := decide_eq_true (by omega)
      rw [if_pos (.inr h2')] at en3
      rw [en3] at fin'
      simp (config := {maxSteps := 2000000}) (disch := first | omega | (simp only [List.length_cons,List.length_nil,List.length_append,List.length_drop]; omega)) only [g,g2,c1,c2,d1,d2,m_storeB,↓s_nilchk,x_nilchk,↓x_fieldAddr,x_fieldV,↓s_nilchk,x_nilchk,Nat.zero_add,Nat.add_zero,↓l_loop,↓l_succ,↓s_load,m_load,↓m_load1,m_load1,↓m_st,m_stE,m_storeE,w_zero,w_succ,List.length_cons,List.length_nil,List.drop_succ_cons,List.drop_nil,↓s_ops,↓s_seq,↓s_cond,↓s_block,↓s_nil,↓s_op,↓s_opg,↓s_wanted',↓s_wantV,s_wantV,↓s_bindS,s_bindS,↓s_bindE,s_bindE,s_norm,↓s_condV,s_condV,↓s_getp,↓s_get,↓s_con,↓s_os0,↓s_os1,↓s_list0,↓s_list1,↓s_mov,↓s_pick,↓s_pickE,s_pickE,↓s_bin,↓s_call,↓s_ext,s_same,b_lss,b_gtr,↓iteN_true,↓iteN_false,iteN_true,iteN_false,Nat.zero_add,List.append_nil,Nat.reduceEqDiff,decide_true,decide_false,List.getElem?_cons_zero,List.getElem?_cons_succ,beq_self_eq_true]
      exact fin' _ (by (simp only [s_getp,s_getp0,Nat.reduceEqDiff,decide_false,iteN_false]; try rfl)) (by (simp only [s_getp,s_getp0,Nat.reduceEqDiff,decide_false,iteN_false]; try rfl)) (by (simp only [s_getp,s_getp0,Nat.reduceEqDiff,decide_false,decide_true,iteN_false,iteN_true]; try rfl)) (by (simp only [s_getp,decide_true,iteN_true]; try rfl))
    · have d2 : decide ((50 : Int) < (N : Int)) = false := decide_eq_false (by omega)
      rw [if_neg (by omega)] at en3
      rw [en3] at fin'
      simp (config := {maxSteps := 2000000}) (disch := first | omega | (simp only [List.length_cons,List.length_nil,List.length_append,List.length_drop]; omega)) only [g,c1,c2,d1,d2,↓s_nilchk,x_nilchk,↓x_fieldAddr,x_fieldV,↓s_nilchk,x_nilchk,Nat.zero_add,Nat.add_zero,↓l_loop,↓l_succ,↓s_load,m_load,↓m_load1,m_load1,↓s_skip,↓s_ops,↓s_seq,↓s_cond,↓s_block,↓s_nil,↓s_op,↓s_opg,↓s_wanted',↓s_wantV,s_wantV,↓s_bindS,s_bindS,↓s_bindE,s_bindE,s_norm,↓s_condV,s_condV,↓s_getp,↓s_get,↓s_con,↓s_os0,↓s_os1,↓s_list0,↓s_list1,↓s_mov,↓s_pick,↓s_pickE,s_pickE,↓s_bin,↓s_call,↓s_ext,s_same,b_lss,b_gtr,↓iteN_true,↓iteN_false,iteN_true,iteN_false,Nat.zero_add,Nat.reduceEqDiff,decide_true,decide_false,List.getElem?_cons_zero,List.getElem?_cons_succ,beq_self_eq_true]
      exact fin' _ (by (simp only [s_getp,Nat.reduceEqDiff,decide_false,iteN_false]; try rfl)) (by (simp only [s_getp,Nat.reduceEqDiff,decide_false,iteN_false]; try rfl)) (by (simp only [s_getp,Nat.reduceEqDiff,decide_false,decide_true,iteN_false,iteN_true]; try rfl)) (by (simp only [s_getp,decide_true,iteN_true]; try rfl))
end Go.Eng
namespace Go.Eng
open Go
variable {E : Nat → Option Fn} {X : Orc}
set_option linter.unusedSimpArgs false
set_option linter.unusedVariables false
theorem txread_gow (e : EnRr E) (x : NoRr X) (K : Nat) (hK : 100 < K) (l : List Nat) (bl : byt l = true) (hl : l.length ≤ 100000000) (a0 : Option (Nat × Nat)) (c0 : Option Nat) (e0 : Nat) (h : H) (src : SrcH h a0 e0 l) :
    ∃ h' P,callX E X (K + 21) (.fn k_tx_read) [.slice a0 l.length c0 e0] h = some (rdRes l P,h') ∧ Kp h h' ∧ TxX (fun j => h.next ≤ j) h' (rxT l).1 P ∧ (rxT l).2.1 ≤ l.length := by
  rw [x_cfn e.rd _ _ (Nat.le_of_ble_eq_true rfl) (x.rd _ _)]
  obtain ⟨N0,eN0⟩ : ∃ v : V,V.slice none 0 (some 0) 0 = v := ⟨_,rfl⟩
  obtain ⟨hA,ehA⟩ : ∃ hA,h.new (.cells [.int .u32 0,.slice none 0 (some 0) 0,.slice none 0 (some 0) 0,.int .u32 0] .rw) = hA := ⟨_,rfl⟩
  have kA : Kp h hA := by rw [← ehA]; exact Kp.new _ _
  have nA : hA.next = h.next + 1 := by rw [← ehA]; rfl
  have gA : hA.get h.next = some (.cells [.int .u32 0,.slice none 0 (some 0) 0,.slice none 0 (some 0) 0,.int .u32 0] .rw) := by rw [← ehA]; exact h_new_same _ _
  obtain ⟨h1,ep,ay,c1,k1,lep,y1,gay⟩ := look_go e.lo x.lo (K + 19) l hl a0 c0 e0 hA (src.mono kA)
  replace c1 : callX E X (K + 20) (.fn k_octet_Look) _ hA = _ := c1
  have n1 := k1.1
  obtain ⟨h2,eh2⟩ : ∃ h2,(h1.new (.cells [.ptr none,.bool false] .rw)).put h1.next (.cells [.ptr (some (ep,0)),.bool false] .rw) = h2 := ⟨_,rfl⟩
  have k2 : Kp h1 h2 := by rw [← eh2]; (repeat (first | exact Kp.refl _ | refine Kp.put ?_ _ (by first | omega | (simp only [h_next_put,h_next_new,h_next_del]; omega)) | refine Kp.del ?_ (by first | omega | (simp only [h_next_put,h_next_new,h_next_del]; omega)) | refine Kp.trans ?_ (Kp.new _ _)))
  have n2 : h2.next = h1.next + 1 := by rw [← eh2]; rfl
  obtain ⟨rp,erp⟩ : ∃ rp,h1.next = rp := ⟨_,rfl⟩
  have g2 : h2.get h1.next = some (.cells [.ptr (some (ep,0)),.bool false] .rw) := by rw [← eh2]; exact h_put_same _ _ _
  have y2 := y1.kp k2
  have lte := y1.lt
  have r2 : RdH ep rp l ay (0,false) h2 := ⟨y2,by rw [← erp]; exact g2,by omega,by omega,fun o eq => by have := y1.alt eq; omega⟩
  have qe : h.next ≠ ep := by omega
  have qr : h.next ≠ rp := by omega
  have qa : ∀ o,ay ≠ some (h.next,o) := fun o eq => by have := gay _ _ eq; omega
  have gq2 : h2.get h.next = some (.cells [.int .u32 0,.slice none 0 (some 0) 0,.slice none 0 (some 0) 0,.int .u32 0] .rw) := by rw [k2.2 _ (by omega),k1.2 _ (by omega),gA]
  obtain ⟨h3,c3,r3,kr3⟩ := word_go e x (K + 7) ep rp l bl hl ay (0,false) h2 r2
  replace c3 : callX E X (K + 20) (.fn k_tx_reader_word) _ h2 = some (.int .u32 ((rx1 l).1 : Nat),h3) := c3
  have n3 := kr3.1
  have gq3 : h3.get h.next = some (.cells [.int .u32 0,.slice none 0 (some 0) 0,.slice none 0 (some 0) 0,.int .u32 0] .rw) := by rw [kr3.2 _ (by omega) qe qr,gq2]
  obtain ⟨h3',eh3'⟩ : ∃ h3',h3.put h.next (.cells [.int .u32 ((rx1 l).1 : Nat),.slice none 0 (some 0) 0,.slice none 0 (some 0) 0,.int .u32 0] .rw) = h3' := ⟨_,rfl⟩
  have n3' : h3'.next = h3.next := by rw [← eh3']; rfl
  have r3' : RdH ep rp l ay (rx1 l).2 h3' := by rw [← eh3']; exact r3.put _ _ qe qr qa
  have gq3' : h3'.get h.next = some (.cells [.int .u32 ((rx1 l).1 : Nat),.slice none 0 (some 0) 0,.slice none 0 (some 0) 0,.int .u32 0] .rw) := by rw [← eh3']; exact h_put_same _ _ _
  obtain ⟨h4,ia,ic,ie,c4,r4,kr4,rI⟩ := listIn_gow e x K hK ep rp l bl hl ay (rx1 l).2 h3' r3'
  replace c4 : callX E X (K + 20) (.fn k_tx_list_api_In) _ h3' = some (.slice ia (rx2 l).1.length ic ie,h4) := c4
  have n4 := kr4.1
  have gq4 : h4.get h.next = some (.cells [.int .u32 ((rx1 l).1 : Nat),.slice none 0 (some 0) 0,.slice none 0 (some 0) 0,.int .u32 0] .rw) := by rw [kr4.2 _ (by omega) qe qr,gq3']
  obtain ⟨h4',eh4'⟩ : ∃ h4',h4.put h.next (.cells [.int .u32 ((rx1 l).1 : Nat),.slice ia (rx2 l).1.length ic ie,.slice none 0 (some 0) 0,.int .u32 0] .rw) = h4' := ⟨_,rfl⟩
  have n4' : h4'.next = h4.next := by rw [← eh4']; rfl
  have r4' : RdH ep rp l ay (rx2 l).2 h4' := by rw [← eh4']; exact r4.put _ _ qe qr qa
  have gq4' : h4'.get h.next = some (.cells [.int .u32 ((rx1 l).1 : Nat),.slice ia (rx2 l).1.length ic ie,.slice none 0 (some 0) 0,.int .u32 0] .rw) := by rw [← eh4']; exact h_put_same _ _ _
  have rI4 : RowF (fun j => h3'.next ≤ j) h3'.next 35 InX h4' (rx2 l).1 ia ic ie := by rw [← eh4']; exact RowF.put itInX rI _ (by omega) _
  obtain ⟨h5,oa,oc,oe,c5,r5,kr5,rO⟩ := listOut_gow e x K hK ep rp l bl hl ay (rx2 l).2 h4' r4'
  replace c5 : callX E X (K + 20) (.fn k_tx_list_api_Out) _ h4' = some (.slice oa (rx3 l).1.length oc oe,h5) := c5
  have n5 := kr5.1
  have gq5 : h5.get h.next = some (.cells [.int .u32 ((rx1 l).1 : Nat),.slice ia (rx2 l).1.length ic ie,.slice none 0 (some 0) 0,.int .u32 0] .rw) := by rw [kr5.2 _ (by omega) qe qr,gq4']
  have rI5 := rI4.kr itInX kr5 (by omega) (by omega)
  obtain ⟨h5',eh5'⟩ : ∃ h5',h5.put h.next (.cells [.int .u32 ((rx1 l).1 : Nat),.slice ia (rx2 l).1.length ic ie,.slice oa (rx3 l).1.length oc oe,.int .u32 0] .rw) = h5' := ⟨_,rfl⟩
  have n5' : h5'.next = h5.next := by rw [← eh5']; rfl
  have r5' : RdH ep rp l ay (rx3 l).2 h5' := by rw [← eh5']; exact r5.put _ _ qe qr qa
  have gq5' : h5'.get h.next = some (.cells [.int .u32 ((rx1 l).1 : Nat),.slice ia (rx2 l).1.length ic ie,.slice oa (rx3 l).1.length oc oe,.int .u32 0] .rw) := by rw [← eh5']; exact h_put_same _ _ _
  have rI5' : RowF (fun j => h3'.next ≤ j) h3'.next 35 InX h5' (rx2 l).1 ia ic ie := by rw [← eh5']; exact RowF.put itInX rI5 _ (by omega) _
  have rO5' : RowF (fun j => h4'.next ≤ j) h4'.next 2 OutX h5' (rx3 l).1 oa oc oe := by rw [← eh5']; exact RowF.put itOutX rO _ (by omega) _
  obtain ⟨h6,c6,r6,kr6⟩ := word_go e x (K + 7) ep rp l bl hl ay (rx3 l).2 h5' r5'
  replace c6 : callX E X (K + 20) (.fn k_tx_reader_word) _ h5' = some (.int .u32 ((rx4 l).1 : Nat),h6) := c6
  have n6 := kr6.1
  have gq6 : h6.get h.next = some (.cells [.int .u32 ((rx1 l).1 : Nat),.slice ia (rx2 l).1.length ic ie,.slice oa (rx3 l).1.length oc oe,.int .u32 0] .rw) := by rw [kr6.2 _ (by omega) qe qr,gq5']
  have rI6 := rI5'.kr itInX kr6 (by omega) (by omega)
  have rO6 := rO5'.kr itOutX kr6 (by omega) (by omega)
  have kp6 : Kp h h6 := ⟨by omega,fun j hj => by
    rw [kr6.2 _ (by omega) (by omega) (by omega),← eh5',h_put_ne _ _ (by omega),kr5.2 _ (by omega) (by omega) (by omega),← eh4',h_put_ne _ _ (by omega),kr4.2 _ (by omega) (by omega) (by omega),← eh3',h_put_ne _ _ (by omega),kr3.2 _ (by omega) (by omega) (by omega),k2.2 _ (by omega),k1.2 _ (by omega),kA.2 _ hj]⟩
  -- the end
  obtain ⟨P,eP⟩ : ∃ P : List V,[.int .u32 ((rx1 l).1 : Nat),.slice ia (rx2 l).1.length ic ie,.slice oa (rx3 l).1.length oc oe,.int .u32 ((rx4 l).1 : Nat)] = P := ⟨_,rfl⟩
  have tc : ∀ h9 : H,h6.next ≤ h9.next → (∀ j,j ≠ h.next → h9.get j = h6.get j) → TxX (fun j => h.next ≤ j) h9 (rxT l).1 P := fun h9 hn9 f9 => by
    refine ⟨ia,oa,ic,oc,ie,oe,by rw [← eP]; rfl,?_,?_⟩
    · refine RowG.mono2 itInX (rI6.row itInX) hn9 (fun j hj _ => f9 j ?_) (fun j hj _ => ?_)
      · rcases hj with hj | hj <;> (have : h3'.next ≤ j := hj; omega)
      · rcases hj with hj | hj <;> (have : h3'.next ≤ j := hj; show h.next ≤ j; omega)
    · refine RowG.mono2 itOutX (rO6.row itOutX) hn9 (fun j hj _ => f9 j ?_) (fun j hj _ => ?_)
      · rcases hj with hj | hj <;> (have : h4'.next ≤ j := hj; omega)
      · rcases hj with hj | hj <;> (have : h4'.next ≤ j := hj; show h.next ≤ j; omega)
  obtain ⟨h6',eh6'⟩ : ∃ h6',h6.put h.next (.cells P .rw) = h6' := ⟨_,rfl⟩
  have r6' : RdH ep rp l ay (rx4 l).2 h6' := by rw [← eh6']; exact r6.put _ _ qe qr qa
  have gq6' : h6'.get h.next = some (.cells P .rw) := by rw [← eh6']; exact h_put_same _ _ _
  have n6' : h6'.next = h6.next := by rw [← eh6']; rfl
  have lf := left_go e.ey x.ey (K + 18) ep l hl (rx4 l).2.1 ay h6' r6'.y
  replace lf : callX E X (K + 20) (.fn k_octet_Eye_Left) _ h6' = _ := lf
  have le := r6'.y.le
  have g6 := r6'.g
  rw [erp] at eh2
  have ff : fillV [.ptr none,.bool false] [(0,1,.ptr (some (ep,0)))] = some [.ptr (some (ep,0)),.bool false] := rfl
  have s2 : ∀ (h : H) i,storeV h 2 (.ptr (some (i,0))) (.agg [.ptr (some (ep,0)),.bool false]) = storeE (h.get i) h i 0 [.ptr (some (ep,0)),.bool false] := fun h i => m_storeA h 2 i 0 _ rfl
  have sZ : ∀ (h : H) i,storeV h 4 (.ptr (some (i,0))) (.agg [.int .u32 0,.slice none 0 (some 0) 0,.slice none 0 (some 0) 0,.int .u32 0]) = storeE (h.get i) h i 0 [.int .u32 0,.slice none 0 (some 0) 0,.slice none 0 (some 0) 0,.int .u32 0] := fun h i => m_storeA h 4 i 0 _ rfl
  have s4 : ∀ (h : H) i,storeV h 4 (.ptr (some (i,0))) (.agg [.int .u32 ((rx1 l).1 : Nat),.slice ia (rx2 l).1.length ic ie,.slice oa (rx3 l).1.length oc oe,.int .u32 ((rx4 l).1 : Nat)]) = storeE (h.get i) h i 0 [.int .u32 ((rx1 l).1 : Nat),.slice ia (rx2 l).1.length ic ie,.slice oa (rx3 l).1.length oc oe,.int .u32 ((rx4 l).1 : Nat)] := fun h i => m_storeA h 4 i 0 _ rfl
  have w : wr .i64 ((l.length : Int) - ((l.length - (rx4 l).2.1 : Nat) : Int)) = ((rx4 l).2.1 : Int) := by rw [wr_i64 (by omega)]; omega
  have fz : fillV [.int .u32 0,.slice none 0 (some 0) 0,.slice none 0 (some 0) 0,.int .u32 0] [] = some [.int .u32 0,.slice none 0 (some 0) 0,.slice none 0 (some 0) 0,.int .u32 0] := rfl
  rw [← eP] at eh6' gq6'
  have tcF : ∀ b,TxX (fun j => h.next ≤ j) (h6'.put h.next b) (rxT l).1 P := fun b => tc _ (by show h6.next ≤ h6'.next; omega) (fun j hj => by rw [h_put_ne _ _ hj.symm,← eh6',h_put_ne _ _ hj.symm])
  have kpF : ∀ b,Kp h (h6'.put h.next b) := fun b => ⟨by show h.next ≤ h6'.next; have := kp6.1; omega,fun j hj => by rw [h_put_ne _ _ (by omega),← eh6',h_put_ne _ _ (by omega),kp6.2 _ hj]⟩
  cases hf : (rx4 l).2.2 with
  | true =>
    refine ⟨h6'.put h.next (.cells [.int .u32 0,.slice none 0 (some 0) 0,.slice none 0 (some 0) 0,.int .u32 0] .rw),P,?_,kpF _,tcF _,le⟩
    have er : rdRes l P = .tup [.agg [.int .u32 0,.slice none 0 (some 0) 0,.slice none 0 (some 0) 0,.int .u32 0],.int .i64 0,.int .i64 60] := by
      unfold rdRes; rw [show (rxT l).2.2 = true from hf]
    rw [er]
    rw [hf] at g6
    generalize (rx1 l).1 = v1 at *
    generalize (rx2 l).1.length = v2 at *
    generalize (rx3 l).1.length = v3 at *
    generalize (rx4 l).1 = v4 at *
    simp (config := {maxSteps := 2000000}) (disch := first | omega | (simp only [List.length_cons,List.length_nil,List.length_append,List.length_drop]; omega)) only [ehA,c1,ff,erp,s2,eh2,c3,gq3,eh3',c4,gq4,eh4',m_storeS,c5,gq5,eh5',c6,gq6,eh6',gq6',g6,fz,sZ,↓x_build,x_aggO,↓s_mkfn,↓x_fieldAddr,x_fieldV,Nat.zero_add,Nat.add_zero,↓h_put_get,↓h_new_get,↓s_load,m_load,↓m_load1,m_load1,↓m_st,m_stE,m_storeI,m_storeE,w_zero,w_succ,↓s_alloc,↓x_P0,↓x_P1,List.length_cons,List.length_nil,List.cons_append,List.drop_succ_cons,List.drop_zero,List.drop_nil,List.nil_append,Nat.reduceAdd,s_resc,s_consR,m_load4,s_res0,↓s_ops,↓s_seq,↓s_cond,↓s_ret,↓s_nil,↓s_op,↓s_bindS,s_bindS,↓s_bindE,s_bindE,s_bindE_ret,s_norm,↓s_condV,s_condV,↓s_getp,↓s_getp0,↓s_get,↓s_con,↓s_os0,↓s_os1,↓s_list0,↓s_list1,↓s_mov,↓s_call,s_same,s_end,s_res0,s_res1,s_tup2,↓iteN_true,↓iteN_false,iteN_true,iteN_false,Nat.zero_add,List.nil_append,List.append_nil,Nat.reduceEqDiff,decide_true,decide_false,List.getElem?_cons_zero,List.getElem?_cons_succ]
    try rfl
  | false =>
    refine ⟨h6'.put h.next (.cells P .rw),P,?_,kpF _,tcF _,le⟩
    have er : rdRes l P = .tup [.agg P,.int .i64 ((rx4 l).2.1 : Nat),.int .i64 0] := by
      unfold rdRes; rw [show (rxT l).2.2 = false from hf]; rfl
    rw [er,← eP]
    rw [hf] at g6
    generalize (rx1 l).1 = v1 at *
    generalize (rx2 l).1.length = v2 at *
    generalize (rx3 l).1.length = v3 at *
    generalize (rx4 l).1 = v4 at *
    generalize (rx4 l).2.1 = at_ at *
    generalize l.length = ll at *
    simp (config := {maxSteps := 2000000}) (disch := first | omega | (simp only [List.length_cons,List.length_nil,List.length_append,List.length_drop]; omega)) only [ehA,c1,ff,erp,s2,eh2,c3,gq3,eh3',c4,gq4,eh4',m_storeS,c5,gq5,eh5',c6,gq6,eh6',gq6',g6,lf,w,s4,vbeq4,Bool.and_self,↓x_build,x_aggO,↓s_mkfn,↓s_len,x_lenS,↓x_fieldAddr,x_fieldV,Nat.zero_add,Nat.add_zero,↓s_evD,↓s_dnil,↓s_dL,↓s_dR,↓s_dRj,↓s_dB,↓s_bindD,s_bindD,s_finDx,s_addP0,↓s_bump0,s_ok0,↓s_ok1,s_okR0,↓s_okR1,↓s_okE,s_okE,s_okE1,s_nth0,s_nthS,Nat.add_zero,Bool.and_self,↓h_put_get,↓h_new_get,↓s_load,m_load,↓m_load1,m_load1,↓m_st,m_stE,m_storeI,m_storeE,w_zero,w_succ,↓s_alloc,x_lenS,↓s_len,↓x_P0,↓x_P1,List.length_cons,List.length_nil,List.cons_append,List.drop_succ_cons,List.drop_zero,List.drop_nil,List.nil_append,Nat.reduceAdd,s_resc,s_consR,m_load4,s_res0,↓s_skip,↓s_ops,↓s_dops,↓s_seq,↓s_cond,↓s_ret,↓s_nil,↓s_op,↓s_bindS,s_bindS,↓s_bindE,s_bindE,s_norm,↓s_condV,s_condV,↓s_getp,↓s_getp0,↓s_get,↓s_con,↓s_os0,↓s_os1,↓s_list0,↓s_list1,↓s_mov,↓s_bin,↓s_call,s_same,b_sub,s_end,s_res0,s_res1,s_tup2,↓iteN_true,↓iteN_false,iteN_true,iteN_false,Nat.zero_add,List.nil_append,List.append_nil,Nat.reduceEqDiff,decide_true,decide_false,List.getElem?_cons_zero,List.getElem?_cons_succ]
    try rfl
end Go.Eng
namespace Go.Eng
open Go
variable {E : Nat → Option Fn} {X : Orc}
set_option linter.unusedSimpArgs false
set_option linter.unusedVariables false
theorem fs_roundw (e : EnRr E) (x : NoRr X) (K m : Nat) (hK : 100 < K) (l : List Nat) (bl : byt l = true) (hl : l.length ≤ 100000000) (a0 : Option (Nat × Nat)) (c0 : Option Nat) (e0 : Nat) (hc : l ≠ [] → c0 = none ∧ e0 = 1) (q : Nat) (h0 : H) (hq : h0.next ≤ q) (src : SrcH h0 a0 e0 l) (i : Nat) (hi : i ≤ 18) (hp : pw i < l.length) (T : Tr V) (h : H) (I : FsI (.slice a0 l.length c0 e0) q i h0 T h) :
    ((rxT (l.take (pw i))).2.2 = true → ∃ T' h',evC (callX E X (K + 21)) 30 m none L_tx_First_0 ⟨T,[],h⟩ = some (.normal,⟨T',[],h'⟩) ∧ FsI (.slice a0 l.length c0 e0) q (i + 1) h0 T' h') ∧
    ((rxT (l.take (pw i))).2.2 = false → ∃ T' h' P,evC (callX E X (K + 21)) 30 m none L_tx_First_0 ⟨T,[],h⟩ = some (.ret,⟨T',[],h'⟩) ∧ evO T' (.t 2) = .ptr (some (q,0)) ∧ h'.get q = some (.cells P .rw) ∧ evO T' (.t 3) = .int .i64 ((rxT l).2.1 : Nat) ∧ evO T' (.t 4) = .int .i64 0 ∧ Kp h0 h' ∧ TxX (fun j => h0.next ≤ j) h' (rxT l).1 P) := by
  obtain ⟨t0,t2,t5,⟨vs,g,lv⟩,kp,lq⟩ := I
  obtain ⟨rfl,rfl⟩ := hc (by intro h; rw [h] at hp; simp at hp)
  have lt : (l.take (pw i)).length = pw i := by rw [List.length_take]; omega
  have hpl := pw_le i hi
  obtain ⟨h1,P,r1,k1,tc,le1⟩ := txread_gow e x K hK (l.take (pw i)) (byt_take bl _) (by omega) a0 none 1 h ((src.mono kp).take (pw i))
  rw [lt] at r1
  have kn := kp.1
  have kn1 := k1.1
  have sl := slcV_hiA l.length (pw i) a0 .i64 (by omega)
  have c0' : decide ((pw i : Int) < (l.length : Int)) = true := decide_eq_true (by omega)
  have wm : wr .i64 ((pw i : Int) * 2) = (pw (i + 1) : Int) := by
    rw [wr_i64 (by omega)]; unfold pw; rw [Nat.pow_succ]; omega
  have g1 : h1.get q = some (.cells vs .rw) := by rw [k1.2 _ lq,g]
  constructor
  · intro hf
    rw [rdRes_f _ _ hf] at r1
    have st := fun h i => fit_st fitZ4 h i
    have pu := fun h i => fit_put fitZ4 h i vs lv
    have z : decide ((60 : Int) = 0) = false := rfl
    have l4 : Z4.length = 4 := rfl
    generalize Z4 = z4 at *
    obtain ⟨pi,epi⟩ : ∃ p,pw i = p := ⟨_,rfl⟩
    rw [epi] at t5 r1 sl c0' wm
    obtain ⟨n,en⟩ : ∃ n,l.length = n := ⟨_,rfl⟩
    rw [en] at t0 sl c0'
    have kF : Kp h0 (h1.put q (.cells z4 .rw)) := ⟨by show h0.next ≤ h1.next; omega,fun j hj => by rw [h_put_ne _ _ (by omega),k1.2 _ (by omega),kp.2 _ hj]⟩
    exact ⟨_,_,by
      simp (config := {maxSteps := 2000000}) (disch := first | omega | (simp only [List.length_cons,List.length_nil,List.length_append,List.length_drop]; omega)) only [L_tx_First_0,t0,t2,t5,c0',sl,r1,g1,st,pu,wm,↓x_slcS,x_M0,x_M1,↓s_len,x_lenS,↓m_st,m_stE,x_lenS,↓s_len,Int.reduceEq,↓s_skip,↓s_ops,↓s_seq,↓s_cond,↓s_block,↓s_nil,↓s_op,↓s_bindS,s_bindS,↓s_bindE,s_bindE,s_norm,↓s_condV,s_condV,s_block_normal,↓s_getp,↓s_getp0,↓s_con,↓s_os0,↓s_os1,↓s_mov,↓s_bin,↓s_call,↓s_ext,s_same,b_eql,b_lss,b_mul,↓iteN_true,↓iteN_false,iteN_true,iteN_false,Nat.reduceEqDiff,decide_true,decide_false,List.getElem?_cons_zero,List.getElem?_cons_succ]
      exact rfl,⟨by rw [en]; exact (by (simp only [s_getp,s_getp0,Nat.reduceEqDiff,decide_false,iteN_false,t0]; try rfl)),(by (simp only [s_getp,s_getp0,Nat.reduceEqDiff,decide_false,iteN_false,t2]; try rfl)),(by (simp only [s_getp,decide_true,iteN_true]; try rfl)),⟨_,h_put_same _ _ _,l4⟩,kF,by show q < h1.next; omega⟩⟩
  · intro hf
    rw [rdRes_t _ _ hf] at r1
    have eT := rxT_take l bl (pw i) hf
    rw [← eT] at r1 tc
    have fi := tc.fit
    have st := fun h i => fit_st fi h i
    have pu := fun h i => fit_put fi h i vs lv
    have pu2 := fun h i => fit_put fi h i P fi.1
    have ld := fun m => fit_ld fi m
    have z : decide ((0 : Int) = 0) = true := rfl
    obtain ⟨pi,epi⟩ : ∃ p,pw i = p := ⟨_,rfl⟩
    rw [epi] at t5 r1 sl c0' wm
    obtain ⟨n,en⟩ : ∃ n,l.length = n := ⟨_,rfl⟩
    rw [en] at t0 sl c0'
    have kF : Kp h0 ((h1.put q (.cells P .rw)).put q (.cells P .rw)) := ⟨by show h0.next ≤ h1.next; omega,fun j hj => by rw [h_put_ne _ _ (by omega),h_put_ne _ _ (by omega),k1.2 _ (by omega),kp.2 _ hj]⟩
    have tF : TxX (fun j => h0.next ≤ j) ((h1.put q (.cells P .rw)).put q (.cells P .rw)) (rxT l).1 P := by
      refine itTxX.mono tc (Nat.le_refl _) (fun j hj _ => ?_) (fun j hj _ => by have : h.next ≤ j := hj; show h0.next ≤ j; omega)
      have : h.next ≤ j := hj
      rw [h_put_ne _ _ (by omega),h_put_ne _ _ (by omega)]
    generalize (rxT l).2.1 = at_ at *
    exact ⟨_,_,P,by
      simp (config := {maxSteps := 2000000}) (disch := first | omega | (simp only [List.length_cons,List.length_nil,List.length_append,List.length_drop]; omega)) only [L_tx_First_0,t0,t2,t5,c0',sl,r1,g1,st,pu,pu2,ld,↓x_slcS,x_M0,x_M1,↓s_len,x_lenS,↓h_put_get,↓s_load,m_load,↓m_st,m_stE,x_lenS,↓s_len,↓s_skip,↓s_ops,↓s_seq,↓s_cond,↓s_block,↓s_ret,↓s_nil,↓s_op,↓s_bindS,s_bindS,↓s_bindE,s_bindE,s_bindE_ret,s_norm,↓s_condV,s_condV,s_block_ret,↓s_getp,↓s_getp0,↓s_con,↓s_os0,↓s_os1,↓s_mov,↓s_bin,↓s_call,↓s_ext,s_same,b_eql,b_lss,↓iteN_true,↓iteN_false,iteN_true,iteN_false,Nat.reduceEqDiff,decide_true,decide_false,List.getElem?_cons_zero,List.getElem?_cons_succ]
      exact rfl,(by (simp only [s_getp,s_getp0,Nat.reduceEqDiff,decide_false,iteN_false,t2]; try rfl)),h_put_same _ _ _,(by (simp only [s_getp,Nat.reduceEqDiff,decide_false,decide_true,iteN_false,iteN_true]; try rfl)),(by (simp only [s_getp,decide_true,iteN_true]; try rfl)),kF,tF⟩
theorem txfirst_gow (e : EnRr E) (x : NoRr X) (K : Nat) (hK : 100 < K) (l : List Nat) (bl : byt l = true) (hl : l.length ≤ 100000000) (a0 : Option (Nat × Nat)) (c0 : Option Nat) (e0 : Nat) (hc : l ≠ [] → c0 = none ∧ e0 = 1) (h : H) (src : SrcH h a0 e0 l) :
    ∃ h' P,callX E X (K + 22) (.fn k_tx_First) [.slice a0 l.length c0 e0] h = some (rdRes l P,h') ∧ Kp h h' ∧ TxX (fun j => h.next ≤ j) h' (rxT l).1 P ∧ (rxT l).2.1 ≤ l.length ∧ Fit 4 P := by
  rw [x_cfn e.fi _ _ (Nat.le_of_ble_eq_true rfl) (x.fi _ _)]
  rw [show ([.int .u32 0,.slice none 0 (some 0) 0,.slice none 0 (some 0) 0,.int .u32 0] : List V) = Z4 from rfl]
  obtain ⟨hA,ehA⟩ : ∃ hA,h.new (.cells Z4 .rw) = hA := ⟨_,rfl⟩
  have kA : Kp h hA := by rw [← ehA]; exact Kp.new _ _
  have nA : hA.next = h.next + 1 := by rw [← ehA]; rfl
  have gA : hA.get h.next = some (.cells Z4 .rw) := by rw [← ehA]; exact h_new_same _ _
  have hle : (rxT l).2.1 ≤ l.length := by
    obtain ⟨h',P,_,_,_,le⟩ := txread_gow e x K hK l bl hl a0 c0 e0 h src
    exact le
  obtain ⟨L,l1,l2,l3⟩ : ∃ L,L ≤ 18 ∧ (l.length ≤ pw L ∨ (pw L < l.length ∧ (rxT (l.take (pw L))).2.2 = false)) ∧ ∀ i,i < L → pw i < l.length ∧ (rxT (l.take (pw i))).2.2 = true := by
    rcases least_or (fun i => decide (l.length ≤ pw i) || !(rxT (l.take (pw i))).2.2) 19 with h1 | ⟨j,j1,j2,j3⟩
    · have := h1 18 (by omega)
      simp only [Bool.or_eq_false_iff,decide_eq_false_iff_not] at this
      have p18 : pw 18 = 134217728 := rfl
      omega
    · refine ⟨j,by omega,?_,fun i hi => ?_⟩
      · by_cases hj : l.length ≤ pw j
        · exact .inl hj
        · right
          simp only [Bool.or_eq_true,decide_eq_true_eq,Bool.not_eq_true'] at j2
          exact ⟨by omega,j2.resolve_left hj⟩
      · have := j3 i hi
        simp only [Bool.or_eq_false_iff,decide_eq_false_iff_not,Bool.not_eq_false'] at this
        exact ⟨by omega,this.2⟩
  have fin : ∀ T,FsI (.slice a0 l.length c0 e0) h.next 0 h T hA → ∃ h' P,fnEnd [.cell 2 (some 4),.tmp 3,.tmp 4] (bindE (blockE 0 (loopN (evC (callX E X (K + 21)) 30 (K + 21) none L_tx_First_0) (K + 21) ⟨T,[],hA⟩)) (evC (callX E X (K + 21)) 30 (K + 21) none R_tx_First_0)) = some (rdRes l P,h') ∧ Kp h h' ∧ TxX (fun j => h.next ≤ j) h' (rxT l).1 P ∧ (rxT l).2.1 ≤ l.length ∧ Fit 4 P := by
    intro T I
    rcases l2 with hz | ⟨hz,hok⟩
    · obtain ⟨T',h',rr,J⟩ := loop_go (f := evC (callX E X (K + 21)) 30 (K + 21) none L_tx_First_0) (fun i T h' => FsI (.slice a0 l.length c0 e0) h.next i h T h') L (.exit 0) (by intro h; cases h) (fun T h' => FsI (.slice a0 l.length c0 e0) h.next L h T h') (fun i T h' hi I => (fs_roundw e x K (K + 21) hK l bl hl a0 c0 e0 hc h.next h (Nat.le_refl _) src i (by omega) (l3 i hi).1 T h' I).1 (l3 i hi).2) (fun T h' I => by
        obtain ⟨t0,t2,t5,g,kp,lq⟩ := I
        have c0' : decide ((pw L : Int) < (l.length : Int)) = false := decide_eq_false (by omega)
        obtain ⟨pi,epi⟩ : ∃ p,pw L = p := ⟨_,rfl⟩
        rw [epi] at t5 c0'
        obtain ⟨n,en⟩ : ∃ n,l.length = n := ⟨_,rfl⟩
        rw [en] at t0 c0'
        exact ⟨_,h',by
          simp (config := {maxSteps := 2000000}) (disch := first | omega | (simp only [List.length_cons,List.length_nil,List.length_append,List.length_drop]; omega)) only [L_tx_First_0,t0,t5,c0',↓s_len,x_lenS,x_lenS,↓s_len,↓s_ops,↓s_seq,↓s_cond,↓s_exit,↓s_nil,↓s_op,↓s_bindS,s_bindS,↓s_bindE,s_bindE,s_bindE_exit,s_norm,↓s_condV,s_condV,↓s_getp,↓s_mov,↓s_bin,s_same,b_lss,↓iteN_true,↓iteN_false,iteN_true,iteN_false,Nat.reduceEqDiff,decide_true,decide_false]
          exact rfl,⟨by rw [en]; exact (by (simp only [s_getp,Nat.reduceEqDiff,decide_false,iteN_false,t0]; try rfl)),(by (simp only [s_getp,Nat.reduceEqDiff,decide_false,iteN_false,t2]; try rfl)),by rw [epi]; exact (by (simp only [s_getp,Nat.reduceEqDiff,decide_false,iteN_false,t5]; try rfl)),g,kp,lq⟩⟩) L 0 (by omega) (K + 21) (by omega) T hA I
      rw [rr]
      obtain ⟨t0,t2,t5,⟨vs,g,lv⟩,kp,lq⟩ := J
      have kn := kp.1
      obtain ⟨h1,P,r1,k1,tc,le1⟩ := txread_gow e x K hK l bl hl a0 c0 e0 h' (src.mono kp)
      have kn1 := k1.1
      have g1 : h1.get h.next = some (.cells vs .rw) := by rw [k1.2 _ lq,g]
      have fi := tc.fit
      have tF : ∀ b,TxX (fun j => h.next ≤ j) (h1.put h.next b) (rxT l).1 P := fun b =>
        itTxX.mono tc (Nat.le_refl _) (fun j hj _ => by have : h'.next ≤ j := hj; exact h_put_ne _ _ (by omega)) (fun j hj _ => by have : h'.next ≤ j := hj; show h.next ≤ j; omega)
      have kF : ∀ b,Kp h (h1.put h.next b) := fun b => ⟨by show h.next ≤ h1.next; omega,fun j hj => by rw [h_put_ne _ _ (by omega),k1.2 _ (by omega),kp.2 _ hj]⟩
      have stZ := fun h i => fit_st fitZ4 h i
      have puZ := fun h i => fit_put fitZ4 h i vs lv
      have ldZ := fun m => fit_ld fitZ4 m
      have st := fun h i => fit_st fi h i
      have pu := fun h i => fit_put fi h i vs lv
      have ld := fun m => fit_ld fi m
      cases hf : (rxT l).2.2 with
      | true =>
        refine ⟨h1.put h.next (.cells Z4 .rw),P,?_,kF _,tF _,hle,fi⟩
        rw [rdRes_f _ _ hf] at r1 ⊢
        generalize Z4 = z4 at *
        generalize l.length = n at *
        simp (config := {maxSteps := 2000000}) (disch := first | omega | (simp only [List.length_cons,List.length_nil,List.length_append,List.length_drop]; omega)) only [R_tx_First_0,t0,t2,r1,g1,stZ,puZ,ldZ,↓h_put_get,m_load,↓m_st,m_stE,s_resc,s_consR,s_res0,↓s_ops,↓s_seq,↓s_ret,↓s_nil,↓s_op,↓s_bindS,s_bindS,↓s_bindE,s_bindE,s_norm,s_block_exit,↓s_getp,↓s_getp0,↓s_os0,↓s_os1,↓s_mov,↓s_call,↓s_ext,s_same,s_end,s_res0,s_res1,s_tup2,↓iteN_true,↓iteN_false,iteN_true,iteN_false,Nat.reduceEqDiff,decide_true,decide_false,List.getElem?_cons_zero,List.getElem?_cons_succ,if_true]
        try rfl
      | false =>
        refine ⟨h1.put h.next (.cells P .rw),P,?_,kF _,tF _,hle,fi⟩
        rw [rdRes_t _ _ hf] at r1 ⊢
        generalize (rxT l).2.1 = at_ at *
        generalize l.length = n at *
        simp (config := {maxSteps := 2000000}) (disch := first | omega | (simp only [List.length_cons,List.length_nil,List.length_append,List.length_drop]; omega)) only [R_tx_First_0,t0,t2,r1,g1,st,pu,ld,↓h_put_get,m_load,↓m_st,m_stE,s_resc,s_consR,s_res0,↓s_ops,↓s_seq,↓s_ret,↓s_nil,↓s_op,↓s_bindS,s_bindS,↓s_bindE,s_bindE,s_norm,s_block_exit,↓s_getp,↓s_getp0,↓s_os0,↓s_os1,↓s_mov,↓s_call,↓s_ext,s_same,s_end,s_res0,s_res1,s_tup2,↓iteN_true,↓iteN_false,iteN_true,iteN_false,Nat.reduceEqDiff,decide_true,decide_false,List.getElem?_cons_zero,List.getElem?_cons_succ,if_true]
        try rfl
    · obtain ⟨T',h',rr,P,t2,g,t3,t4,kp,tc⟩ := loop_go (f := evC (callX E X (K + 21)) 30 (K + 21) none L_tx_First_0) (fun i T h' => FsI (.slice a0 l.length c0 e0) h.next i h T h') L .ret (by intro h; cases h) (fun T h' => ∃ P,evO T (.t 2) = .ptr (some (h.next,0)) ∧ h'.get h.next = some (.cells P .rw) ∧ evO T (.t 3) = .int .i64 ((rxT l).2.1 : Nat) ∧ evO T (.t 4) = .int .i64 0 ∧ Kp h h' ∧ TxX (fun j => h.next ≤ j) h' (rxT l).1 P) (fun i T h' hi I => (fs_roundw e x K (K + 21) hK l bl hl a0 c0 e0 hc h.next h (Nat.le_refl _) src i (by omega) (l3 i hi).1 T h' I).1 (l3 i hi).2) (fun T h' I => by
        obtain ⟨T',h'',P,q1,q2,q3,q4,q5,q6,q7⟩ := (fs_roundw e x K (K + 21) hK l bl hl a0 c0 e0 hc h.next h (Nat.le_refl _) src L (by omega) hz T h' I).2 hok
        exact ⟨T',h'',q1,P,q2,q3,q4,q5,q6,q7⟩) L 0 (by omega) (K + 21) (by omega) T hA I
      rw [rr]
      have hf : (rxT l).2.2 = false := by rw [rxT_take l bl _ hok]; exact hok
      refine ⟨h',P,?_,kp,tc,hle,tc.fit⟩
      rw [rdRes_t _ _ hf]
      have ld := fun m => fit_ld tc.fit m
      generalize (rxT l).2.1 = at_ at *
      simp (config := {maxSteps := 2000000}) (disch := first | omega | (simp only [List.length_cons,List.length_nil,List.length_append,List.length_drop]; omega)) only [t2,t3,t4,g,ld,m_load,s_resc,s_consR,s_res0,s_bindE_ret,s_block_ret,s_end,s_res0,s_res1,s_tup2]
      try rfl
  obtain ⟨R,eR⟩ : ∃ R,R_tx_First_0 = R := ⟨_,rfl⟩
  obtain ⟨Lo,eL⟩ : ∃ R,L_tx_First_0 = R := ⟨_,rfl⟩
  rw [eR,eL] at fin ⊢
  have p0 : pw 0 = 512 := rfl
  have fin' := fun T q0 q2 q5 => fin T ⟨q0,q2,q5,⟨Z4,gA,rfl⟩,kA,by omega⟩
  rw [p0] at fin'
  clear fin
  generalize Z4 = z4 at *
  generalize l.length = n at *
  simp (config := {maxSteps := 2000000}) (disch := first | omega | (simp only [List.length_cons,List.length_nil,List.length_append,List.length_drop]; omega)) only [ehA,↓l_loop,↓l_succ,↓s_alloc,↓s_ops,↓s_seq,↓s_block,↓s_nil,↓s_op,↓s_bindS,s_bindS,↓s_bindE,s_bindE,s_norm,↓s_con,↓s_list0,↓s_list1,↓s_mov]
  exact fin' _ (by (simp only [s_getp,Nat.reduceEqDiff,decide_false,iteN_false]; try rfl)) (by (simp only [s_getp,Nat.reduceEqDiff,decide_false,decide_true,iteN_false,iteN_true]; try rfl)) (by (simp only [s_getp,decide_true,iteN_true]; try rfl))
end Go.Eng
