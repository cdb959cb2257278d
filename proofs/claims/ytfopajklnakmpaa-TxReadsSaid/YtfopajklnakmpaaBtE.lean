/- What functions of the program come to: own work. -/
import Derived.Test.YtfopajklnakmpaaBtD
namespace Go.Eng
open Go
variable {E : Nat → Option Fn} {X : Orc}
set_option linter.unusedSimpArgs false
set_option linter.unusedVariables false
def Z2o : List V := [.int .i64 0,.slice none 0 (some 0) 0]
def rxO (l : List Nat) (s : Nat × Bool) : OutQ × Nat × Bool := (⟨wr .i64 ((eyFix 8 l s.1).1 : Int),(rdS l ((eyFix 8 l s.1).2.2,s.2 || decide ((eyFix 8 l s.1).2.1 ≠ 0))).1⟩,(rdS l ((eyFix 8 l s.1).2.2,s.2 || decide ((eyFix 8 l s.1).2.1 ≠ 0))).2)
theorem out_go (e : EnRr E) (x : NoRr X) (K : Nat) (ep rp : Nat) (l : List Nat) (bl : byt l = true) (hl : l.length ≤ 100000000) (a : Option (Nat × Nat)) (s : Nat × Bool) (h : H) (r : RdH ep rp l a s h) :
    ∃ h' P,callX E X (K + 19) (.fn k_tx_reader_out) [.ptr (some (rp,0))] h = some (.agg P,h') ∧ RdH ep rp l a (rxO l s).2 h' ∧ Kr ep rp h h' ∧ OutC (fun j => h.next ≤ j) h' (rxO l s).1 P := by
  rw [x_cfn e.ou _ _ (Nat.le_of_ble_eq_true rfl) (x.ou _ _)]
  have ltr := r.lt
  have lte := r.y.lt
  obtain ⟨h1,eh1⟩ : ∃ h1,h.new (.cells [.int .i64 0,.slice none 0 (some 0) 0] .rw) = h1 := ⟨_,rfl⟩
  have k1 : Kp h h1 := by rw [← eh1]; exact Kp.new _ _
  have g1 : h1.get h.next = some (.cells [.int .i64 0,.slice none 0 (some 0) 0] .rw) := by rw [← eh1]; exact h_new_same _ _
  have n1 : h1.next = h.next + 1 := by rw [← eh1]; rfl
  have r1 := r.kp k1
  obtain ⟨h2,c2,k2,y2⟩ := eyfix_go e.ey x.ey (K + 6) ep 8 l bl hl s.1 a h1 r1.y
  obtain ⟨r2,kr2⟩ := r1.eye k2 _ y2
  obtain ⟨h3,c3,r3,kr3,_⟩ := note_go e x (K + 17) (eyFix 8 l s.1).2.1 ep rp l a _ h2 r2
  obtain ⟨h4,b,cb,eb,c4,r4,kr4,wb4,ge4⟩ := script_go e x K ep rp l bl hl a _ h3 r3
  replace c2 : callX E X (K + 18) (.fn k_octet_Eye_Fixed) _ h1 = _ := c2
  replace c3 : callX E X (K + 18) (.fn k_tx_reader_note) _ h2 = _ := c3
  have n12 := kr2.1
  have n23 := kr3.1
  have n34 := kr4.1
  have kr14 := (kr2.trans kr3).trans kr4
  have g4 : h4.get h.next = some (.cells [.int .i64 0,.slice none 0 (some 0) 0] .rw) := by rw [kr14.2 _ (by omega) (by omega) (by omega),g1]
  have gr1 := r1.g
  have w : wr .i64 ((eyFix 8 l s.1).1 : Int) = (rxO l s).1.v := rfl
  have oc : OutC (fun j => h.next ≤ j) (h4.put h.next (.cells [.int .i64 (rxO l s).1.v,.slice b (rxO l s).1.l.length cb eb] .rw)) (rxO l s).1 [.int .i64 (rxO l s).1.v,.slice b (rxO l s).1.l.length cb eb] := by
    refine ⟨b,cb,eb,rfl,?_⟩
    have := wb4.mono (h' := h4.put h.next (.cells [.int .i64 (rxO l s).1.v,.slice b (rxO l s).1.l.length cb eb] .rw)) (Nat.le_refl _) (fun q hq eq => h_put_ne _ _ (by have := ge4 q 0 eq; omega))
    exact this.srcS (fun q o eq => by have := ge4 q o eq; omega)
  have fi : Fit 2 [.int .i64 (rxO l s).1.v,.slice b (rxO l s).1.l.length cb eb] := ⟨rfl,rfl⟩
  have st := fun h i => fit_st fi h i
  have pu := fun h i => fit_put fi h i [.int .i64 0,.slice none 0 (some 0) 0] rfl
  have ld := fun m => fit_ld fi m
  refine ⟨h4.put h.next (.cells [.int .i64 (rxO l s).1.v,.slice b (rxO l s).1.l.length cb eb] .rw),_,?_,?_,?_,oc⟩
  · replace c4 : callX E X (K + 18) (.fn k_tx_reader_script) _ h3 = some (.slice b (rxO l s).1.l.length cb eb,h4) := c4
    clear r2 r3 r4 wb4 oc fi
    generalize (eyFix 8 l s.1).1 = n at *
    generalize (eyFix 8 l s.1).2.1 = er at *
    generalize (rxO l s).1.v = vv at *
    generalize (rxO l s).1.l.length = ll at *
    simp (config := {maxSteps := 2000000}) (disch := first | omega | (simp only [List.length_cons,List.length_nil,List.length_append,List.length_drop]; omega)) only [eh1,gr1,c2,c3,c4,w,st,pu,ld,g4,↓x_conv,x_convV,↓x_build,x_aggO,↓s_nilchk,x_nilchk,↓x_conv,x_convV,↓x_fieldAddr,x_fieldV,↓s_nilchk,x_nilchk,Nat.zero_add,Nat.add_zero,↓h_put_get,↓s_load,m_load,↓m_load1,m_load1,↓m_st,m_stE,w_zero,w_succ,↓s_alloc,↓x_P0,↓x_P1,x_fill0,x_filli,x_fills,List.length_cons,List.length_nil,List.cons_append,List.drop_succ_cons,List.drop_zero,List.drop_nil,List.nil_append,s_resc,s_consR,s_res0,↓s_ops,↓s_seq,↓s_ret,↓s_nil,↓s_op,↓s_bindS,s_bindS,↓s_bindE,s_bindE,s_norm,↓s_getp,↓s_getp0,↓s_get,↓s_con,↓s_os0,↓s_os1,↓s_list0,↓s_list1,↓s_mov,↓s_call,↓s_ext,s_same,s_end,s_res0,s_tup1,↓iteN_true,↓iteN_false,iteN_true,iteN_false,Nat.zero_add,List.nil_append,List.append_nil,Nat.reduceEqDiff,decide_true,decide_false,List.getElem?_cons_zero,List.getElem?_cons_succ]
    try rfl
  · refine ⟨r4.y.mono (Nat.le_refl _) (h_put_ne _ _ (by omega)) (fun q hq eq => h_put_ne _ _ (by have := r.y.alt eq; omega)),by rw [h_put_ne _ _ (by omega)]; exact r4.g,r4.lt,r4.ne,r4.na⟩
  · refine ⟨by show h.next ≤ h4.next; omega,fun j hj a1 a2 => ?_⟩
    rw [h_put_ne _ _ (by omega),kr14.2 j (by omega) a1 a2,k1.2 j hj]
/-! a list of items: items are read as long as nothing failed -/
def rxS {α : Type} (item : Nat × Bool → α × Nat × Bool) (x : List α × Nat × Bool) : List α × Nat × Bool := (x.1 ++ [(item x.2).1],(item x.2).2)
def rxR {α : Type} (item : Nat × Bool → α × Nat × Bool) (x : List α × Nat × Bool) : Nat → List α × Nat × Bool
  | 0 => x
  | n + 1 => if (rxR item x n).2.2 = true then rxR item x n else rxS item (rxR item x n)
theorem rxR_stop {α : Type} (item : Nat × Bool → α × Nat × Bool) (x : List α × Nat × Bool) : ∀ n,∃ L,L ≤ n ∧ (∀ i,i < L → (rxR item x i).2.2 = false) ∧ (L = n ∨ (rxR item x L).2.2 = true) ∧ rxR item x n = rxR item x L := by
  intro n
  induction n with
  | zero => exact ⟨0,Nat.le_refl _,fun i hi => by omega,.inl rfl,rfl⟩
  | succ n ih =>
    obtain ⟨L,h1,h2,h3,h4⟩ := ih
    cases hb : (rxR item x n).2.2 with
    | true =>
      refine ⟨L,by omega,h2,?_,?_⟩
      · right; rw [← h4]; exact hb
      · rw [rxR,if_pos hb,h4]
    | false =>
      have hL : L = n := by
        rcases h3 with h3 | h3
        · exact h3
        · rw [← h4,hb] at h3; cases h3
      subst hL
      exact ⟨L + 1,Nat.le_refl _,fun i hi => by
        by_cases hi' : i < L
        · exact h2 i hi'
        · have : i = L := by omega
          subst this; exact hb,.inl rfl,rfl⟩
theorem rxR_fail {α : Type} (item : Nat × Bool → α × Nat × Bool) (x : List α × Nat × Bool) (h : x.2.2 = true) : ∀ n,rxR item x n = x := by
  intro n
  induction n with
  | zero => rfl
  | succ n ih => rw [rxR,ih,if_pos h]
theorem rxR_len {α : Type} (item : Nat × Bool → α × Nat × Bool) (x : List α × Nat × Bool) : ∀ i,(∀ j,j < i → (rxR item x j).2.2 = false) → (rxR item x i).1.length = x.1.length + i := by
  intro i
  induction i with
  | zero => intro _; rfl
  | succ n ih =>
    intro h
    rw [rxR,if_neg (by rw [h n (by omega)]; simp)]
    unfold rxS
    rw [List.length_append,ih (fun j hj => h j (by omega))]
    simp; omega
/-- how a list begins -/
def rxB (l : List Nat) (s : Nat × Bool) : Nat × Bool := ((eySiz l s.1).2.2,s.2 || decide ((eySiz l s.1).2.1 ≠ 0) || (decide ((eySiz l s.1).1 < 1) || decide (50 < (eySiz l s.1).1)))
def rxL {α : Type} (item : List Nat → Nat × Bool → α × Nat × Bool) (l : List Nat) (s : Nat × Bool) : List α × Nat × Bool := rxR (item l) ([],rxB l s) (eySiz l s.1).1
theorem fit_fill {sz : Nat} {P : List V} (f : Fit sz P) (Z : List V) (hz : Z.length = sz) : fillV Z [(0,sz,.agg P)] = some P := by
  have c : (V.agg P).cells = P := rfl
  rw [x_fill1 _ _ _ _ _ (by rw [c,f.1,hz,Nat.zero_add,Nat.beq_refl]; simp),c,w_zero,x_fill0,List.drop_eq_nil_of_le (by rw [f.1,hz]; omega),List.append_nil]
structure LiIn (ep rp : Nat) (l : List Nat) (ay : Option (Nat × Nat)) (n : Nat) (x : List InQ × Nat × Bool) (h0 : H) (T : Tr V) (h : H) : Prop where
  t0 : evO T (.t 0) = .ptr (some (rp,0))
  t1 : evO T (.t 1) = .fn k_tx_reader_in [.ptr (some (rp,0))] []
  t5 : evO T (.t 5) = .int .u64 (n : Int)
  r : RdH ep rp l ay x.2 h
  kr : Kr ep rp h0 h
  row : ∃ a c e,evO T (.t 7) = .slice a x.1.length c e ∧ RowF (fun j => h0.next ≤ j) h0.next 35 InC h x.1 a c e
theorem liIn_step (e : EnRr E) (x : NoRr X) (K m : Nat) (ep rp : Nat) (l : List Nat) (bl : byt l = true) (hl : l.length ≤ 100000000) (ay : Option (Nat × Nat)) (n : Nat) (hn : n ≤ 50) (h0 : H) (he : ep < h0.next) (hr : rp < h0.next) (ha : ∀ q o,ay = some (q,o) → q < h0.next) (y : List InQ × Nat × Bool) (hy : y.1.length < n) (hf : y.2.2 = false) (T : Tr V) (h : H) (I : LiIn ep rp l ay n y h0 T h) :
    ∃ T' h',evC (callX E X (K + 19)) 46 m none L_tx_list_api_In_0 ⟨T,[],h⟩ = some (.normal,⟨T',[],h'⟩) ∧ LiIn ep rp l ay n (rxS (rxI l) y) h0 T' h' := by
  obtain ⟨t0,t1,t5,r,kr,a,c,ez,t7,row⟩ := I
  obtain ⟨h1,P,c1,r1,kr1,ic⟩ := in_go e x K ep rp l bl hl ay y.2 h r
  have n0 := kr.1
  have n1 := kr1.1
  have fi := ic.fit
  obtain ⟨h2,eh2⟩ : ∃ h2,h1.new (.cells P .rw) = h2 := ⟨_,rfl⟩
  have k2 : Kp h1 h2 := by rw [← eh2]; exact Kp.new _ _
  have n2 : h2.next = h1.next + 1 := by rw [← eh2]; rfl
  have row2 : RowF (fun j => h0.next ≤ j) h0.next 35 InC h2 y.1 a c ez := row.mono itIn (by omega) (fun i hk hi => by
    have : h0.next ≤ i := hk
    rw [k2.2 _ (by omega),kr1.2 _ hi (by omega) (by omega)]) (fun q o eq => by
    have := row.lt eq
    rw [k2.2 _ (by omega),kr1.2 _ (by omega) (by omega) (by omega)])
  have ic2 : InC (fun j => h0.next ≤ j ∧ a ≠ some (j,0)) h2 (rxI l y.2).1 P := itIn.mono ic (by omega) (fun i _ hi => k2.2 _ hi) (fun j hj _ => ⟨by have : h.next ≤ j := hj; omega,fun eq => by have := row.lt eq; have : h.next ≤ j := hj; omega⟩)
  obtain ⟨h3,ap,row3,n3,f3⟩ := rowF_app itIn (by omega) 72 (by omega) (fun j => h0.next ≤ j) h0.next h2 (by omega) y.1 (by omega) a c ez row2 (rxI l y.2).1 P ic2
  have src := src_1 h1 fi (by omega)
  rw [eh2] at src
  have ff := fit_fill fi [.int .u8 0,.int .u8 0,.int .u8 0,.int .u8 0,.int .u8 0,.int .u8 0,.int .u8 0,.int .u8 0,.int .u8 0,.int .u8 0,.int .u8 0,.int .u8 0,.int .u8 0,.int .u8 0,.int .u8 0,.int .u8 0,.int .u8 0,.int .u8 0,.int .u8 0,.int .u8 0,.int .u8 0,.int .u8 0,.int .u8 0,.int .u8 0,.int .u8 0,.int .u8 0,.int .u8 0,.int .u8 0,.int .u8 0,.int .u8 0,.int .u8 0,.int .u8 0,.int .u32 0,.slice none 0 (some 0) 0,.int .u32 0] rfl
  have g := r.g
  have wl : wr .u64 (y.1.length : Int) = (y.1.length : Int) := u64n _ (by omega)
  have c0 : decide ((y.1.length : Int) < (n : Int)) = true := decide_eq_true (by omega)
  have alt : ∀ o,a ≠ some (ep,o) ∧ a ≠ some (rp,o) := fun o => ⟨fun eq => by have := row.lt eq; omega,fun eq => by have := row.lt eq; omega⟩
  have r2 := r1.kp k2
  have r3 : RdH ep rp l ay (rxI l y.2).2 h3 := ⟨r2.y.mono (by omega) (f3 _ r2.y.lt (alt 0).1) (fun q hq eq => f3 _ hq (fun eq' => by
      have h1' := row.lt eq'
      have h2' := ha _ _ eq
      omega)),by rw [f3 _ r2.lt (alt 0).2]; exact r2.g,by have := r2.lt; omega,r2.ne,r2.na⟩
  obtain ⟨T',e1,q0,q1,q5,q7⟩ : ∃ T',evC (callX E X (K + 19)) 46 m none L_tx_list_api_In_0 ⟨T,[],h⟩ = some (.normal,⟨T',[],h3⟩) ∧ evO T' (.t 0) = .ptr (some (rp,0)) ∧ evO T' (.t 1) = .fn k_tx_reader_in [.ptr (some (rp,0))] [] ∧ evO T' (.t 5) = .int .u64 (n : Int) ∧ evO T' (.t 7) = .slice (some (h2.next,0)) (y.1.length + 1) none 35 := by
    generalize y.1.length = ln at *
    rw [hf] at g
    obtain ⟨z,ez2⟩ : ∃ z : List V,[.int .u8 0,.int .u8 0,.int .u8 0,.int .u8 0,.int .u8 0,.int .u8 0,.int .u8 0,.int .u8 0,.int .u8 0,.int .u8 0,.int .u8 0,.int .u8 0,.int .u8 0,.int .u8 0,.int .u8 0,.int .u8 0,.int .u8 0,.int .u8 0,.int .u8 0,.int .u8 0,.int .u8 0,.int .u8 0,.int .u8 0,.int .u8 0,.int .u8 0,.int .u8 0,.int .u8 0,.int .u8 0,.int .u8 0,.int .u8 0,.int .u8 0,.int .u8 0,.int .u32 0,.slice none 0 (some 0) 0,.int .u32 0] = z := ⟨_,rfl⟩
    rw [ez2] at ff
    exact ⟨_,by
      simp (config := {maxSteps := 2000000}) (disch := first | omega | (simp only [List.length_cons,List.length_nil,List.length_append,List.length_drop]; omega)) only [L_tx_list_api_In_0,ez2,t0,t1,t5,t7,wl,c0,g,c1,ff,eh2,src,ap,Bool.not_false,↓s_append,↓s_len,x_lenS,↓x_conv,x_convV,↓s_nilchk,x_nilchk,↓x_conv,x_convV,↓x_fieldAddr,x_fieldV,↓s_nilchk,x_nilchk,Nat.zero_add,↓s_load,m_load,↓m_load1,m_load1,x_lenS,↓s_len,↓x_buildS,x_buildE,↓x_P0,↓x_P1,↓s_skip,↓s_ops,↓s_seq,↓s_cond,↓s_block,↓s_nil,↓s_op,↓s_opg,↓s_wanted',↓s_wantV,s_wantV,↓s_bindS,s_bindS,↓s_bindE,s_bindE,s_norm,↓s_condV,s_condV,s_block_normal,↓s_getp,↓s_os0,↓s_mov,↓s_pick,↓s_pickE,s_pickE,↓s_bin,↓s_un,↓s_callv,↓s_callV,s_same,b_lss,u_not,↓iteN_true,↓iteN_false,iteN_true,iteN_false,Nat.zero_add,List.append_nil,Nat.reduceEqDiff,decide_true,decide_false,Bool.not_false,List.getElem?_cons_zero,List.getElem?_cons_succ,beq_self_eq_true]
      exact rfl,(by (simp only [s_getp,Nat.reduceEqDiff,decide_false,iteN_false,t0]; try rfl)),(by (simp only [s_getp,Nat.reduceEqDiff,decide_false,iteN_false,t1]; try rfl)),(by (simp only [s_getp,Nat.reduceEqDiff,decide_false,iteN_false,t5]; try rfl)),(by (simp only [s_getp,decide_true,iteN_true]; try rfl))⟩
  refine ⟨T',h3,e1,q0,q1,q5,r3,?_,?_⟩
  · refine ⟨by omega,fun j hj a1 a2 => ?_⟩
    rw [f3 _ (by omega) (fun eq => by have := row.lt eq; omega),k2.2 _ (by omega),kr1.2 _ (by omega) a1 a2,kr.2 _ hj a1 a2]
  · refine ⟨_,_,_,?_,row3⟩
    rw [q7]; unfold rxS; rw [List.length_append]; rfl
theorem listIn_go (e : EnRr E) (x : NoRr X) (K : Nat) (hK : 100 < K) (ep rp : Nat) (l : List Nat) (bl : byt l = true) (hl : l.length ≤ 100000000) (ay : Option (Nat × Nat)) (s : Nat × Bool) (h : H) (r : RdH ep rp l ay s h) :
    ∃ h' a c ez,callX E X (K + 20) (.fn k_tx_list_api_In) [.ptr (some (rp,0)),.fn k_tx_reader_in [.ptr (some (rp,0))] []] h = some (.slice a (rxL rxI l s).1.length c ez,h') ∧ RdH ep rp l ay (rxL rxI l s).2 h' ∧ Kr ep rp h h' ∧ RowF (fun j => h.next ≤ j) h.next 35 InC h' (rxL rxI l s).1 a c ez := by
  rw [x_cfn e.li _ _ (Nat.le_of_ble_eq_true rfl) (x.li _ _)]
  have g := r.g
  have lte := r.y.lt
  have ltr := r.lt
  have ha : ∀ q o,ay = some (q,o) → q < h.next := fun q o eq => r.y.alt eq
  obtain ⟨h1,c1,k1,y1,zl⟩ := eysiz_go e.ey x.ey (K + 2) ep l bl hl s.1 ay h r.y
  obtain ⟨r1,kr1⟩ := r.eye k1 _ y1
  obtain ⟨h2,c2,r2,kr2,_⟩ := note_go e x (K + 18) (eySiz l s.1).2.1 ep rp l ay _ h1 r1
  replace c1 : callX E X (K + 19) (.fn k_octet_Eye_Size) _ h = _ := c1
  replace c2 : callX E X (K + 19) (.fn k_tx_reader_note) _ h1 = _ := c2
  have kr12 := kr1.trans kr2
  -- how it begins
  obtain ⟨h3,r3,kr3,en3⟩ : ∃ h3,RdH ep rp l ay (rxB l s) h3 ∧ Kr ep rp h h3 ∧ h3 = (if (eySiz l s.1).1 < 1 ∨ 50 < (eySiz l s.1).1 then h2.put rp (.cells [.ptr (some (ep,0)),.bool true] .rw) else h2) := by
    by_cases hc : (eySiz l s.1).1 < 1 ∨ 50 < (eySiz l s.1).1
    · have b1 : rxB l s = ((eySiz l s.1).2.2,true) := by
        unfold rxB
        have : (decide ((eySiz l s.1).1 < 1) || decide (50 < (eySiz l s.1).1)) = true := by simpa using hc
        rw [this,Bool.or_true]
      refine ⟨h2.put rp (.cells [.ptr (some (ep,0)),.bool true] .rw),?_,?_,by rw [if_pos hc]⟩
      · rw [b1]
        exact ⟨r2.y.mono (Nat.le_refl _) (h_put_ne _ _ r2.ne) (fun q hq ea => h_put_ne _ _ (fun e' => r2.na 0 (by rw [ea,e']))),h_put_same _ _ _,r2.lt,r2.ne,r2.na⟩
      · exact ⟨kr12.1,fun j hj a1 a2 => by rw [h_put_ne _ _ (fun e => a2 e.symm),kr12.2 j hj a1 a2]⟩
    · have b1 : rxB l s = ((eySiz l s.1).2.2,s.2 || decide ((eySiz l s.1).2.1 ≠ 0)) := by
        unfold rxB
        have : (decide ((eySiz l s.1).1 < 1) || decide (50 < (eySiz l s.1).1)) = false := by simpa using hc
        rw [this,Bool.or_false]
      exact ⟨h2,by rw [b1]; exact r2,kr12,by rw [if_neg hc]⟩
  have n3 := kr3.1
  have n3e : h.next ≤ h3.next := n3
  obtain ⟨N,eN⟩ : ∃ N,(eySiz l s.1).1 = N := ⟨_,rfl⟩
  rw [eN] at zl
  have en3' := en3
  obtain ⟨L,l1,l2,l3,l4⟩ := rxR_stop (rxI l) ([],rxB l s) N
  have eL : rxL rxI l s = rxR (rxI l) ([],rxB l s) L := by unfold rxL; rw [eN,l4]
  have L50 : L ≤ 50 ∧ (0 < L → N ≤ 50) := by
    by_cases hL : L = 0
    · exact ⟨by omega,by omega⟩
    · have f0 := l2 0 (by omega)
      have f0' : (rxB l s).2 = false := f0
      unfold rxB at f0'
      rw [eN] at f0'
      simp only [Bool.or_eq_false_iff,decide_eq_false_iff_not] at f0'
      exact ⟨by omega,fun _ => by omega⟩
  have fin : ∀ T,LiIn ep rp l ay N (rxR (rxI l) ([],rxB l s) 0) h3 T h3 → ∃ h' a c ez,fnEnd [.tmp 4] (bindE (blockE 0 (loopN (evC (callX E X (K + 19)) 46 (K + 19) none L_tx_list_api_In_0) (K + 19) ⟨T,[],h3⟩)) (evC (callX E X (K + 19)) 46 (K + 19) none R_tx_list_api_In_0)) = some (.slice a (rxL rxI l s).1.length c ez,h') ∧ RdH ep rp l ay (rxL rxI l s).2 h' ∧ Kr ep rp h h' ∧ RowF (fun j => h.next ≤ j) h.next 35 InC h' (rxL rxI l s).1 a c ez := by
    intro T I
    obtain ⟨T',h',rr,J⟩ := loop_go (f := evC (callX E X (K + 19)) 46 (K + 19) none L_tx_list_api_In_0) (fun i T h' => LiIn ep rp l ay N (rxR (rxI l) ([],rxB l s) i) h3 T h') L (.exit 0) (by intro h; cases h) (fun T h' => LiIn ep rp l ay N (rxR (rxI l) ([],rxB l s) L) h3 T h') (fun i T h' hi I => by
      have ln := rxR_len (rxI l) ([],rxB l s) i (fun j hj => l2 j (by omega))
      obtain ⟨T',h'',e1,I'⟩ := liIn_step e x K (K + 19) ep rp l bl hl ay N (L50.2 (by omega)) h3 (by omega) (by omega) (fun q o eq => by have := ha q o eq; omega) (rxR (rxI l) ([],rxB l s) i) (by rw [ln]; simp; omega) (l2 i hi) T h' I
      refine ⟨T',h'',e1,?_⟩
      rw [rxR,if_neg (by rw [l2 i hi]; simp)]
      exact I') (fun T h' I => by
      have ln := rxR_len (rxI l) ([],rxB l s) L (fun j hj => l2 j (by omega))
      have Iw := I
      obtain ⟨t0,t1,t5,r,kr,a,c,ez,t7,row⟩ := I
      have g := r.g
      generalize hy : rxR (rxI l) ([],rxB l s) L = y at *
      have wl : wr .u64 (y.1.length : Int) = (y.1.length : Int) := u64n _ (by rw [ln]; simp; omega)
      have cc : (decide ((y.1.length : Int) < (N : Int)) = false) ∨ (decide ((y.1.length : Int) < (N : Int)) = true ∧ y.2.2 = true) := by
        by_cases hlt : (y.1.length : Int) < (N : Int)
        · right
          refine ⟨decide_eq_true hlt,?_⟩
          rcases l3 with l3 | l3
          · rw [ln] at hlt; simp at hlt; omega
          · exact l3
        · left; exact decide_eq_false hlt
      obtain ⟨ln',eln⟩ : ∃ n,y.1.length = n := ⟨_,rfl⟩
      rw [eln] at t7 wl cc
      rcases cc with c0 | ⟨c0,cf⟩
      · exact ⟨_,h',by
          simp (config := {maxSteps := 2000000}) (disch := first | omega | (simp only [List.length_cons,List.length_nil,List.length_append,List.length_drop]; omega)) only [L_tx_list_api_In_0,t5,t7,wl,c0,↓s_len,x_lenS,↓x_conv,x_convV,↓x_conv,x_convV,x_lenS,↓s_len,↓s_ops,↓s_seq,↓s_cond,↓s_exit,↓s_nil,↓s_op,↓s_opg,↓s_wanted',↓s_wantV,s_wantV,beq_true,↓s_bindS,s_bindS,↓s_bindE,s_bindE,s_bindE_exit,s_norm,↓s_condV,s_condV,↓s_getp,↓s_con,↓s_mov,↓s_pick,↓s_pickE,s_pickE,↓s_bin,s_same,b_lss,↓iteN_true,↓iteN_false,iteN_true,iteN_false,Nat.reduceEqDiff,decide_true,decide_false]
          exact rfl,⟨(by (simp only [s_getp,Nat.reduceEqDiff,decide_false,iteN_false,t0]; try rfl)),(by (simp only [s_getp,Nat.reduceEqDiff,decide_false,iteN_false,t1]; try rfl)),(by (simp only [s_getp,Nat.reduceEqDiff,decide_false,iteN_false,t5]; try rfl)),r,kr,a,c,ez,by rw [eln]; exact (by (simp only [s_getp,Nat.reduceEqDiff,decide_false,iteN_false,t7]; try rfl)),row⟩⟩
      · rw [cf] at g
        exact ⟨_,h',by
          simp (config := {maxSteps := 2000000}) (disch := first | omega | (simp only [List.length_cons,List.length_nil,List.length_append,List.length_drop]; omega)) only [L_tx_list_api_In_0,t0,t5,t7,wl,c0,g,Bool.not_true,↓s_len,x_lenS,↓x_conv,x_convV,↓s_nilchk,x_nilchk,↓x_conv,x_convV,↓x_fieldAddr,x_fieldV,↓s_nilchk,x_nilchk,Nat.zero_add,↓s_load,m_load,↓m_load1,m_load1,x_lenS,↓s_len,↓s_ops,↓s_seq,↓s_cond,↓s_exit,↓s_nil,↓s_op,↓s_opg,↓s_wanted',↓s_wantV,s_wantV,↓s_bindS,s_bindS,↓s_bindE,s_bindE,s_bindE_exit,s_norm,↓s_condV,s_condV,↓s_getp,↓s_mov,↓s_pick,↓s_pickE,s_pickE,↓s_bin,↓s_un,s_same,b_lss,u_not,↓iteN_true,↓iteN_false,iteN_true,iteN_false,Nat.zero_add,Nat.reduceEqDiff,decide_true,decide_false,Bool.not_true,List.getElem?_cons_zero,List.getElem?_cons_succ,beq_self_eq_true]
          exact rfl,⟨(by (simp only [s_getp,Nat.reduceEqDiff,decide_false,iteN_false,t0]; try rfl)),(by (simp only [s_getp,Nat.reduceEqDiff,decide_false,iteN_false,t1]; try rfl)),(by (simp only [s_getp,Nat.reduceEqDiff,decide_false,iteN_false,t5]; try rfl)),r,kr,a,c,ez,by rw [eln]; exact (by (simp only [s_getp,Nat.reduceEqDiff,decide_false,iteN_false,t7]; try rfl)),row⟩⟩) L 0 (by omega) (K + 19) (by omega) T h3 I
    rw [rr,eL]
    obtain ⟨t0,t1,t5,r,kr,a,c,ez,t7,row⟩ := J
    generalize rxR (rxI l) ([],rxB l s) L = y at *
    refine ⟨h',a,c,ez,?_,r,kr3.trans kr,?_⟩
    · generalize y.1.length = n at *
      simp (config := {maxSteps := 2000000}) (disch := first | omega | (simp only [List.length_cons,List.length_nil,List.length_append,List.length_drop]; omega)) only [R_tx_list_api_In_0,t7,s_res0,↓s_ops,↓s_seq,↓s_ret,↓s_nil,↓s_op,↓s_bindS,s_bindS,↓s_bindE,s_bindE,s_norm,s_block_exit,↓s_getp,↓s_mov,s_end,s_res0,s_res1,s_tup1,↓iteN_true,iteN_true,decide_true,if_true]
      try rfl
    · rcases row with row | ⟨q1,q,md,ps,q2,q3,q4,q5,al,q6,q7,q8⟩
      · exact .inl row
      · exact .inr ⟨q1,q,md,ps,q2,q3,q4,q5,al.imp (fun _ _ x => itIn.mono x (Nat.le_refl _) (fun _ _ _ => rfl) (fun j hj _ => ⟨by have : h3.next ≤ j := hj.1; omega,hj.2⟩)),q6,by omega,q8⟩
  have fin' := fun T q0 q1 q5 q7 => fin T ⟨q0,q1,q5,r3,Kr.refl _ _ _,none,some 0,0,q7,RowF.nil _ _ _ _ _⟩
  clear fin
  obtain ⟨R,eR⟩ : ∃ R,R_tx_list_api_In_0 = R := ⟨_,rfl⟩
  obtain ⟨Lo,eLo⟩ : ∃ R,L_tx_list_api_In_0 = R := ⟨_,rfl⟩
  rw [eR,eLo] at fin' ⊢
  have g2 := r2.g
  have q0 : ((rxR (rxI l) ([],rxB l s) 0).1.length) = 0 := rfl
  rw [q0] at fin'
  rw [eN] at c1 en3
  generalize (rxL rxI l s).1.length = LL at *
  generalize (eySiz l s.1).2.1 = er at *
  by_cases h1' : N < 1
  · have d1 : decide ((N : Int) < 1) = true := decide_eq_true (by omega)
    rw [if_pos (.inl h1')] at en3
    rw [en3] at fin'
    simp (config := {maxSteps := 2000000}) (disch := first | omega | (simp only [List.length_cons,List.length_nil,List.length_append,List.length_drop]; omega)) only [g,g2,c1,c2,d1,m_storeB,↓s_nilchk,x_nilchk,↓x_fieldAddr,x_fieldV,↓s_nilchk,x_nilchk,Nat.zero_add,Nat.add_zero,↓l_loop,↓l_succ,↓s_load,m_load,↓m_load1,m_load1,↓m_st,m_stE,m_storeE,w_zero,w_succ,List.length_cons,List.length_nil,List.drop_succ_cons,List.drop_nil,↓s_ops,↓s_seq,↓s_cond,↓s_block,↓s_nil,↓s_op,↓s_opg,↓s_wanted',↓s_wantV,s_wantV,beq_false,↓s_bindS,s_bindS,↓s_bindE,s_bindE,s_norm,↓s_condV,s_condV,↓s_getp,↓s_get,↓s_con,↓s_os0,↓s_os1,↓s_list0,↓s_list1,↓s_mov,↓s_pick,↓s_pickE,s_pickE,↓s_bin,↓s_call,↓s_ext,s_same,b_lss,↓iteN_true,↓iteN_false,iteN_true,iteN_false,Nat.zero_add,List.append_nil,Nat.reduceEqDiff,decide_true,decide_false,Bool.not_true,List.getElem?_cons_zero,List.getElem?_cons_succ]
    exact fin' _ (by (simp only [s_getp,s_getp0,Nat.reduceEqDiff,decide_false,iteN_false]; try rfl)) (by (simp only [s_getp,s_getp0,Nat.reduceEqDiff,decide_false,iteN_false]; try rfl)) (by (simp only [s_getp,s_getp0,Nat.reduceEqDiff,decide_false,decide_true,iteN_false,iteN_true]; try rfl)) (by (simp only [s_getp,decide_true,iteN_true]; try rfl))
  · have d1 : decide ((N : Int) < 1) = false := decide_eq_false (by omega)
    by_cases h2' : 50 < N
    · have d2 : decide ((50 : Int) < (N : Int)) = true := decide_eq_true (by omega)
      rw [if_pos (.inr h2')] at en3
      rw [en3] at fin'
      simp (config := {maxSteps := 2000000}) (disch := first | omega | (simp only [List.length_cons,List.length_nil,List.length_append,List.length_drop]; omega)) only [g,g2,c1,c2,d1,d2,m_storeB,↓s_nilchk,x_nilchk,↓x_fieldAddr,x_fieldV,↓s_nilchk,x_nilchk,Nat.zero_add,Nat.add_zero,↓l_loop,↓l_succ,↓s_load,m_load,↓m_load1,m_load1,↓m_st,m_stE,m_storeE,w_zero,w_succ,List.length_cons,List.length_nil,List.drop_succ_cons,List.drop_nil,↓s_ops,↓s_seq,↓s_cond,↓s_block,↓s_nil,↓s_op,↓s_opg,↓s_wanted',↓s_wantV,s_wantV,↓s_bindS,s_bindS,↓s_bindE,s_bindE,s_norm,↓s_condV,s_condV,↓s_getp,↓s_get,↓s_con,↓s_os0,↓s_os1,↓s_list0,↓s_list1,↓s_mov,↓s_pick,↓s_pickE,s_pickE,↓s_bin,↓s_call,↓s_ext,s_same,b_lss,b_gtr,↓iteN_true,↓iteN_false,iteN_true,iteN_false,Nat.zero_add,List.append_nil,Nat.reduceEqDiff,decide_true,decide_false,List.getElem?_cons_zero,List.getElem?_cons_succ,beq_self_eq_true]
      exact fin' _ (by (simp only [s_getp,s_getp0,Nat.reduceEqDiff,decide_false,iteN_false]; try rfl)) (by (simp only [s_getp,s_getp0,Nat.reduceEqDiff,decide_false,iteN_false]; try rfl)) (by (simp only [s_getp,s_getp0,Nat.reduceEqDiff,decide_false,decide_true,iteN_false,iteN_true]; try rfl)) (by (simp only [s_getp,decide_true,iteN_true]; try rfl))
    · have d2 : decide ((50 : Int) < (N : Int)) = false := decide_eq_false (by omega)
      rw [if_neg (by omega)] at en3
      rw [en3] at fin'
      simp (config := {maxSteps := 2000000}) (disch := first | omega | (simp only [List.length_cons,List.length_nil,List.length_append,List.length_drop]; omega)) only [g,c1,c2,d1,d2,↓s_nilchk,x_nilchk,↓x_fieldAddr,x_fieldV,↓s_nilchk,x_nilchk,Nat.zero_add,Nat.add_zero,↓l_loop,↓l_succ,↓s_load,m_load,↓m_load1,m_load1,↓s_skip,↓s_ops,↓s_seq,↓s_cond,↓s_block,↓s_nil,↓s_op,↓s_opg,↓s_wanted',↓s_wantV,s_wantV,↓s_bindS,s_bindS,↓s_bindE,s_bindE,s_norm,↓s_condV,s_condV,↓s_getp,↓s_get,↓s_con,↓s_os0,↓s_os1,↓s_list0,↓s_list1,↓s_mov,↓s_pick,↓s_pickE,s_pickE,↓s_bin,↓s_call,↓s_ext,s_same,b_lss,b_gtr,↓iteN_true,↓iteN_false,iteN_true,iteN_false,Nat.zero_add,Nat.reduceEqDiff,decide_true,decide_false,List.getElem?_cons_zero,List.getElem?_cons_succ,beq_self_eq_true]
      exact fin' _ (by (simp only [s_getp,Nat.reduceEqDiff,decide_false,iteN_false]; try rfl)) (by (simp only [s_getp,Nat.reduceEqDiff,decide_false,iteN_false]; try rfl)) (by (simp only [s_getp,Nat.reduceEqDiff,decide_false,decide_true,iteN_false,iteN_true]; try rfl)) (by (simp only [s_getp,decide_true,iteN_true]; try rfl))
end Go.Eng
namespace Go.Eng
open Go
variable {E : Nat → Option Fn} {X : Orc}
set_option linter.unusedSimpArgs false
set_option linter.unusedVariables false
structure LiOut (ep rp : Nat) (l : List Nat) (ay : Option (Nat × Nat)) (n : Nat) (x : List OutQ × Nat × Bool) (h0 : H) (T : Tr V) (h : H) : Prop where
  t0 : evO T (.t 0) = .ptr (some (rp,0))
  t1 : evO T (.t 1) = .fn k_tx_reader_out [.ptr (some (rp,0))] []
  t5 : evO T (.t 5) = .int .u64 (n : Int)
  r : RdH ep rp l ay x.2 h
  kr : Kr ep rp h0 h
  row : ∃ a c e,evO T (.t 7) = .slice a x.1.length c e ∧ RowF (fun j => h0.next ≤ j) h0.next 2 OutC h x.1 a c e
theorem liOut_step (e : EnRr E) (x : NoRr X) (K m : Nat) (ep rp : Nat) (l : List Nat) (bl : byt l = true) (hl : l.length ≤ 100000000) (ay : Option (Nat × Nat)) (n : Nat) (hn : n ≤ 50) (h0 : H) (he : ep < h0.next) (hr : rp < h0.next) (ha : ∀ q o,ay = some (q,o) → q < h0.next) (y : List OutQ × Nat × Bool) (hy : y.1.length < n) (hf : y.2.2 = false) (T : Tr V) (h : H) (I : LiOut ep rp l ay n y h0 T h) :
    ∃ T' h',evC (callX E X (K + 19)) 46 m none L_tx_list_api_Out_0 ⟨T,[],h⟩ = some (.normal,⟨T',[],h'⟩) ∧ LiOut ep rp l ay n (rxS (rxO l) y) h0 T' h' := by
  obtain ⟨t0,t1,t5,r,kr,a,c,ez,t7,row⟩ := I
  obtain ⟨h1,P,c1,r1,kr1,ic⟩ := out_go e x K ep rp l bl hl ay y.2 h r
  have n0 := kr.1
  have n1 := kr1.1
  have fi := ic.fit
  obtain ⟨h2,eh2⟩ : ∃ h2,h1.new (.cells P .rw) = h2 := ⟨_,rfl⟩
  have k2 : Kp h1 h2 := by rw [← eh2]; exact Kp.new _ _
  have n2 : h2.next = h1.next + 1 := by rw [← eh2]; rfl
  have row2 : RowF (fun j => h0.next ≤ j) h0.next 2 OutC h2 y.1 a c ez := row.mono itOut (by omega) (fun i hk hi => by
    have : h0.next ≤ i := hk
    rw [k2.2 _ (by omega),kr1.2 _ hi (by omega) (by omega)]) (fun q o eq => by
    have := row.lt eq
    rw [k2.2 _ (by omega),kr1.2 _ (by omega) (by omega) (by omega)])
  have ic2 : OutC (fun j => h0.next ≤ j ∧ a ≠ some (j,0)) h2 (rxO l y.2).1 P := itOut.mono ic (by omega) (fun i _ hi => k2.2 _ hi) (fun j hj _ => ⟨by have : h.next ≤ j := hj; omega,fun eq => by have := row.lt eq; have : h.next ≤ j := hj; omega⟩)
  obtain ⟨h3,ap,row3,n3,f3⟩ := rowF_app itOut (by omega) 32 (by omega) (fun j => h0.next ≤ j) h0.next h2 (by omega) y.1 (by omega) a c ez row2 (rxO l y.2).1 P ic2
  have src := src_1 h1 fi (by omega)
  rw [eh2] at src
  have ff := fit_fill fi [.int .i64 0,.slice none 0 (some 0) 0] rfl
  have g := r.g
  have wl : wr .u64 (y.1.length : Int) = (y.1.length : Int) := u64n _ (by omega)
  have c0 : decide ((y.1.length : Int) < (n : Int)) = true := decide_eq_true (by omega)
  have alt : ∀ o,a ≠ some (ep,o) ∧ a ≠ some (rp,o) := fun o => ⟨fun eq => by have := row.lt eq; omega,fun eq => by have := row.lt eq; omega⟩
  have r2 := r1.kp k2
  have r3 : RdH ep rp l ay (rxO l y.2).2 h3 := ⟨r2.y.mono (by omega) (f3 _ r2.y.lt (alt 0).1) (fun q hq eq => f3 _ hq (fun eq' => by
      have h1' := row.lt eq'
      have h2' := ha _ _ eq
      omega)),by rw [f3 _ r2.lt (alt 0).2]; exact r2.g,by have := r2.lt; omega,r2.ne,r2.na⟩
  obtain ⟨T',e1,q0,q1,q5,q7⟩ : ∃ T',evC (callX E X (K + 19)) 46 m none L_tx_list_api_Out_0 ⟨T,[],h⟩ = some (.normal,⟨T',[],h3⟩) ∧ evO T' (.t 0) = .ptr (some (rp,0)) ∧ evO T' (.t 1) = .fn k_tx_reader_out [.ptr (some (rp,0))] [] ∧ evO T' (.t 5) = .int .u64 (n : Int) ∧ evO T' (.t 7) = .slice (some (h2.next,0)) (y.1.length + 1) none 2 := by
    generalize y.1.length = ln at *
    rw [hf] at g
    obtain ⟨z,ez2⟩ : ∃ z : List V,[.int .i64 0,.slice none 0 (some 0) 0] = z := ⟨_,rfl⟩
    rw [ez2] at ff
    exact ⟨_,by
      simp (config := {maxSteps := 2000000}) (disch := first | omega | (simp only [List.length_cons,List.length_nil,List.length_append,List.length_drop]; omega)) only [L_tx_list_api_Out_0,ez2,t0,t1,t5,t7,wl,c0,g,c1,ff,eh2,src,ap,Bool.not_false,↓s_append,↓s_len,x_lenS,↓x_conv,x_convV,↓s_nilchk,x_nilchk,↓x_conv,x_convV,↓x_fieldAddr,x_fieldV,↓s_nilchk,x_nilchk,Nat.zero_add,↓s_load,m_load,↓m_load1,m_load1,x_lenS,↓s_len,↓x_buildS,x_buildE,↓x_P0,↓x_P1,↓s_skip,↓s_ops,↓s_seq,↓s_cond,↓s_block,↓s_nil,↓s_op,↓s_opg,↓s_wanted',↓s_wantV,s_wantV,↓s_bindS,s_bindS,↓s_bindE,s_bindE,s_norm,↓s_condV,s_condV,s_block_normal,↓s_getp,↓s_os0,↓s_mov,↓s_pick,↓s_pickE,s_pickE,↓s_bin,↓s_un,↓s_callv,↓s_callV,s_same,b_lss,u_not,↓iteN_true,↓iteN_false,iteN_true,iteN_false,Nat.zero_add,List.append_nil,Nat.reduceEqDiff,decide_true,decide_false,Bool.not_false,List.getElem?_cons_zero,List.getElem?_cons_succ,beq_self_eq_true]
      exact rfl,(by (simp only [s_getp,Nat.reduceEqDiff,decide_false,iteN_false,t0]; try rfl)),(by (simp only [s_getp,Nat.reduceEqDiff,decide_false,iteN_false,t1]; try rfl)),(by (simp only [s_getp,Nat.reduceEqDiff,decide_false,iteN_false,t5]; try rfl)),(by (simp only [s_getp,decide_true,iteN_true]; try rfl))⟩
  refine ⟨T',h3,e1,q0,q1,q5,r3,?_,?_⟩
  · refine ⟨by omega,fun j hj a1 a2 => ?_⟩
    rw [f3 _ (by omega) (fun eq => by have := row.lt eq; omega),k2.2 _ (by omega),kr1.2 _ (by omega) a1 a2,kr.2 _ hj a1 a2]
  · refine ⟨_,_,_,?_,row3⟩
    rw [q7]; unfold rxS; rw [List.length_append]; rfl
theorem listOut_go (e : EnRr E) (x : NoRr X) (K : Nat) (hK : 100 < K) (ep rp : Nat) (l : List Nat) (bl : byt l = true) (hl : l.length ≤ 100000000) (ay : Option (Nat × Nat)) (s : Nat × Bool) (h : H) (r : RdH ep rp l ay s h) :
    ∃ h' a c ez,callX E X (K + 20) (.fn k_tx_list_api_Out) [.ptr (some (rp,0)),.fn k_tx_reader_out [.ptr (some (rp,0))] []] h = some (.slice a (rxL rxO l s).1.length c ez,h') ∧ RdH ep rp l ay (rxL rxO l s).2 h' ∧ Kr ep rp h h' ∧ RowF (fun j => h.next ≤ j) h.next 2 OutC h' (rxL rxO l s).1 a c ez := by
  rw [x_cfn e.lt _ _ (Nat.le_of_ble_eq_true rfl) (x.lt _ _)]
  have g := r.g
  have lte := r.y.lt
  have ltr := r.lt
  have ha : ∀ q o,ay = some (q,o) → q < h.next := fun q o eq => r.y.alt eq
  obtain ⟨h1,c1,k1,y1,zl⟩ := eysiz_go e.ey x.ey (K + 2) ep l bl hl s.1 ay h r.y
  obtain ⟨r1,kr1⟩ := r.eye k1 _ y1
  obtain ⟨h2,c2,r2,kr2,_⟩ := note_go e x (K + 18) (eySiz l s.1).2.1 ep rp l ay _ h1 r1
  replace c1 : callX E X (K + 19) (.fn k_octet_Eye_Size) _ h = _ := c1
  replace c2 : callX E X (K + 19) (.fn k_tx_reader_note) _ h1 = _ := c2
  have kr12 := kr1.trans kr2
  -- how it begins
  obtain ⟨h3,r3,kr3,en3⟩ : ∃ h3,RdH ep rp l ay (rxB l s) h3 ∧ Kr ep rp h h3 ∧ h3 = (if (eySiz l s.1).1 < 1 ∨ 50 < (eySiz l s.1).1 then h2.put rp (.cells [.ptr (some (ep,0)),.bool true] .rw) else h2) := by
    by_cases hc : (eySiz l s.1).1 < 1 ∨ 50 < (eySiz l s.1).1
    · have b1 : rxB l s = ((eySiz l s.1).2.2,true) := by
        unfold rxB
        have : (decide ((eySiz l s.1).1 < 1) || decide (50 < (eySiz l s.1).1)) = true := by simpa using hc
        rw [this,Bool.or_true]
      refine ⟨h2.put rp (.cells [.ptr (some (ep,0)),.bool true] .rw),?_,?_,by rw [if_pos hc]⟩
      · rw [b1]
        exact ⟨r2.y.mono (Nat.le_refl _) (h_put_ne _ _ r2.ne) (fun q hq ea => h_put_ne _ _ (fun e' => r2.na 0 (by rw [ea,e']))),h_put_same _ _ _,r2.lt,r2.ne,r2.na⟩
      · exact ⟨kr12.1,fun j hj a1 a2 => by rw [h_put_ne _ _ (fun e => a2 e.symm),kr12.2 j hj a1 a2]⟩
    · have b1 : rxB l s = ((eySiz l s.1).2.2,s.2 || decide ((eySiz l s.1).2.1 ≠ 0)) := by
        unfold rxB
        have : (decide ((eySiz l s.1).1 < 1) || decide (50 < (eySiz l s.1).1)) = false := by simpa using hc
        rw [this,Bool.or_false]
      exact ⟨h2,by rw [b1]; exact r2,kr12,by rw [if_neg hc]⟩
  have n3 := kr3.1
  have n3e : h.next ≤ h3.next := n3
  obtain ⟨N,eN⟩ : ∃ N,(eySiz l s.1).1 = N := ⟨_,rfl⟩
  rw [eN] at zl
  have en3' := en3
  obtain ⟨L,l1,l2,l3,l4⟩ := rxR_stop (rxO l) ([],rxB l s) N
  have eL : rxL rxO l s = rxR (rxO l) ([],rxB l s) L := by unfold rxL; rw [eN,l4]
  have L50 : L ≤ 50 ∧ (0 < L → N ≤ 50) := by
    by_cases hL : L = 0
    · exact ⟨by omega,by omega⟩
    · have f0 := l2 0 (by omega)
      have f0' : (rxB l s).2 = false := f0
      unfold rxB at f0'
      rw [eN] at f0'
      simp only [Bool.or_eq_false_iff,decide_eq_false_iff_not] at f0'
      exact ⟨by omega,fun _ => by omega⟩
  have fin : ∀ T,LiOut ep rp l ay N (rxR (rxO l) ([],rxB l s) 0) h3 T h3 → ∃ h' a c ez,fnEnd [.tmp 4] (bindE (blockE 0 (loopN (evC (callX E X (K + 19)) 46 (K + 19) none L_tx_list_api_Out_0) (K + 19) ⟨T,[],h3⟩)) (evC (callX E X (K + 19)) 46 (K + 19) none R_tx_list_api_Out_0)) = some (.slice a (rxL rxO l s).1.length c ez,h') ∧ RdH ep rp l ay (rxL rxO l s).2 h' ∧ Kr ep rp h h' ∧ RowF (fun j => h.next ≤ j) h.next 2 OutC h' (rxL rxO l s).1 a c ez := by
    intro T I
    obtain ⟨T',h',rr,J⟩ := loop_go (f := evC (callX E X (K + 19)) 46 (K + 19) none L_tx_list_api_Out_0) (fun i T h' => LiOut ep rp l ay N (rxR (rxO l) ([],rxB l s) i) h3 T h') L (.exit 0) (by intro h; cases h) (fun T h' => LiOut ep rp l ay N (rxR (rxO l) ([],rxB l s) L) h3 T h') (fun i T h' hi I => by
      have ln := rxR_len (rxO l) ([],rxB l s) i (fun j hj => l2 j (by omega))
      obtain ⟨T',h'',e1,I'⟩ := liOut_step e x K (K + 19) ep rp l bl hl ay N (L50.2 (by omega)) h3 (by omega) (by omega) (fun q o eq => by have := ha q o eq; omega) (rxR (rxO l) ([],rxB l s) i) (by rw [ln]; simp; omega) (l2 i hi) T h' I
      refine ⟨T',h'',e1,?_⟩
      rw [rxR,if_neg (by rw [l2 i hi]; simp)]
      exact I') (fun T h' I => by
      have ln := rxR_len (rxO l) ([],rxB l s) L (fun j hj => l2 j (by omega))
      have Iw := I
      obtain ⟨t0,t1,t5,r,kr,a,c,ez,t7,row⟩ := I
      have g := r.g
      generalize hy : rxR (rxO l) ([],rxB l s) L = y at *
      have wl : wr .u64 (y.1.length : Int) = (y.1.length : Int) := u64n _ (by rw [ln]; simp; omega)
      have cc : (decide ((y.1.length : Int) < (N : Int)) = false) ∨ (decide ((y.1.length : Int) < (N : Int)) = true ∧ y.2.2 = true) := by
        by_cases hlt : (y.1.length : Int) < (N : Int)
        · right
          refine ⟨decide_eq_true hlt,?_⟩
          rcases l3 with l3 | l3
          · rw [ln] at hlt; simp at hlt; omega
          · exact l3
        · left; exact decide_eq_false hlt
      obtain ⟨ln',eln⟩ : ∃ n,y.1.length = n := ⟨_,rfl⟩
      rw [eln] at t7 wl cc
      rcases cc with c0 | ⟨c0,cf⟩
      · exact ⟨_,h',by
          simp (config := {maxSteps := 2000000}) (disch := first | omega | (simp only [List.length_cons,List.length_nil,List.length_append,List.length_drop]; omega)) only [L_tx_list_api_Out_0,t5,t7,wl,c0,↓s_len,x_lenS,↓x_conv,x_convV,↓x_conv,x_convV,x_lenS,↓s_len,↓s_ops,↓s_seq,↓s_cond,↓s_exit,↓s_nil,↓s_op,↓s_opg,↓s_wanted',↓s_wantV,s_wantV,beq_true,↓s_bindS,s_bindS,↓s_bindE,s_bindE,s_bindE_exit,s_norm,↓s_condV,s_condV,↓s_getp,↓s_con,↓s_mov,↓s_pick,↓s_pickE,s_pickE,↓s_bin,s_same,b_lss,↓iteN_true,↓iteN_false,iteN_true,iteN_false,Nat.reduceEqDiff,decide_true,decide_false]
          exact rfl,⟨(by (simp only [s_getp,Nat.reduceEqDiff,decide_false,iteN_false,t0]; try rfl)),(by (simp only [s_getp,Nat.reduceEqDiff,decide_false,iteN_false,t1]; try rfl)),(by (simp only [s_getp,Nat.reduceEqDiff,decide_false,iteN_false,t5]; try rfl)),r,kr,a,c,ez,by rw [eln]; exact (by (simp only [s_getp,Nat.reduceEqDiff,decide_false,iteN_false,t7]; try rfl)),row⟩⟩
      · rw [cf] at g
        exact ⟨_,h',by
          simp (config := {maxSteps := 2000000}) (disch := first | omega | (simp only [List.length_cons,List.length_nil,List.length_append,List.length_drop]; omega)) only [L_tx_list_api_Out_0,t0,t5,t7,wl,c0,g,Bool.not_true,↓s_len,x_lenS,↓x_conv,x_convV,↓s_nilchk,x_nilchk,↓x_conv,x_convV,↓x_fieldAddr,x_fieldV,↓s_nilchk,x_nilchk,Nat.zero_add,↓s_load,m_load,↓m_load1,m_load1,x_lenS,↓s_len,↓s_ops,↓s_seq,↓s_cond,↓s_exit,↓s_nil,↓s_op,↓s_opg,↓s_wanted',↓s_wantV,s_wantV,↓s_bindS,s_bindS,↓s_bindE,s_bindE,s_bindE_exit,s_norm,↓s_condV,s_condV,↓s_getp,↓s_mov,↓s_pick,↓s_pickE,s_pickE,↓s_bin,↓s_un,s_same,b_lss,u_not,↓iteN_true,↓iteN_false,iteN_true,iteN_false,Nat.zero_add,Nat.reduceEqDiff,decide_true,decide_false,Bool.not_true,List.getElem?_cons_zero,List.getElem?_cons_succ,beq_self_eq_true]
          exact rfl,⟨(by (simp only [s_getp,Nat.reduceEqDiff,decide_false,iteN_false,t0]; try rfl)),(by (simp only [s_getp,Nat.reduceEqDiff,decide_false,iteN_false,t1]; try rfl)),(by (simp only [s_getp,Nat.reduceEqDiff,decide_false,iteN_false,t5]; try rfl)),r,kr,a,c,ez,by rw [eln]; exact (by (simp only [s_getp,Nat.reduceEqDiff,decide_false,iteN_false,t7]; try rfl)),row⟩⟩) L 0 (by omega) (K + 19) (by omega) T h3 I
    rw [rr,eL]
    obtain ⟨t0,t1,t5,r,kr,a,c,ez,t7,row⟩ := J
    generalize rxR (rxO l) ([],rxB l s) L = y at *
    refine ⟨h',a,c,ez,?_,r,kr3.trans kr,?_⟩
    · generalize y.1.length = n at *
      simp (config := {maxSteps := 2000000}) (disch := first | omega | (simp only [List.length_cons,List.length_nil,List.length_append,List.length_drop]; omega)) only [R_tx_list_api_Out_0,t7,s_res0,↓s_ops,↓s_seq,↓s_ret,↓s_nil,↓s_op,↓s_bindS,s_bindS,↓s_bindE,s_bindE,s_norm,s_block_exit,↓s_getp,↓s_mov,s_end,s_res0,s_res1,s_tup1,↓iteN_true,iteN_true,decide_true,if_true]
      try rfl
    · rcases row with row | ⟨q1,q,md,ps,q2,q3,q4,q5,al,q6,q7,q8⟩
      · exact .inl row
      · exact .inr ⟨q1,q,md,ps,q2,q3,q4,q5,al.imp (fun _ _ x => itOut.mono x (Nat.le_refl _) (fun _ _ _ => rfl) (fun j hj _ => ⟨by have : h3.next ≤ j := hj.1; omega,hj.2⟩)),q6,by omega,q8⟩
  have fin' := fun T q0 q1 q5 q7 => fin T ⟨q0,q1,q5,r3,Kr.refl _ _ _,none,some 0,0,q7,RowF.nil _ _ _ _ _⟩
  clear fin
  obtain ⟨R,eR⟩ : ∃ R,R_tx_list_api_Out_0 = R := ⟨_,rfl⟩
  obtain ⟨Lo,eLo⟩ : ∃ R,L_tx_list_api_Out_0 = R := ⟨_,rfl⟩
  rw [eR,eLo] at fin' ⊢
  have g2 := r2.g
  have q0 : ((rxR (rxO l) ([],rxB l s) 0).1.length) = 0 := rfl
  rw [q0] at fin'
  rw [eN] at c1 en3
  generalize (rxL rxO l s).1.length = LL at *
  generalize (eySiz l s.1).2.1 = er at *
  by_cases h1' : N < 1
  · have d1 : decide ((N : Int) < 1) = true := decide_eq_true (by omega)
    rw [if_pos (.inl h1')] at en3
    rw [en3] at fin'
    simp (config := {maxSteps := 2000000}) (disch := first | omega | (simp only [List.length_cons,List.length_nil,List.length_append,List.length_drop]; omega)) only [g,g2,c1,c2,d1,m_storeB,↓s_nilchk,x_nilchk,↓x_fieldAddr,x_fieldV,↓s_nilchk,x_nilchk,Nat.zero_add,Nat.add_zero,↓l_loop,↓l_succ,↓s_load,m_load,↓m_load1,m_load1,↓m_st,m_stE,m_storeE,w_zero,w_succ,List.length_cons,List.length_nil,List.drop_succ_cons,List.drop_nil,↓s_ops,↓s_seq,↓s_cond,↓s_block,↓s_nil,↓s_op,↓s_opg,↓s_wanted',↓s_wantV,s_wantV,beq_false,↓s_bindS,s_bindS,↓s_bindE,s_bindE,s_norm,↓s_condV,s_condV,↓s_getp,↓s_get,↓s_con,↓s_os0,↓s_os1,↓s_list0,↓s_list1,↓s_mov,↓s_pick,↓s_pickE,s_pickE,↓s_bin,↓s_call,↓s_ext,s_same,b_lss,↓iteN_true,↓iteN_false,iteN_true,iteN_false,Nat.zero_add,List.append_nil,Nat.reduceEqDiff,decide_true,decide_false,Bool.not_true,List.getElem?_cons_zero,List.getElem?_cons_succ]
    exact fin' _ (by (simp only [s_getp,s_getp0,Nat.reduceEqDiff,decide_false,iteN_false]; try rfl)) (by (simp only [s_getp,s_getp0,Nat.reduceEqDiff,decide_false,iteN_false]; try rfl)) (by (simp only [s_getp,s_getp0,Nat.reduceEqDiff,decide_false,decide_true,iteN_false,iteN_true]; try rfl)) (by (simp only [s_getp,decide_true,iteN_true]; try rfl))
  · have d1 : decide ((N : Int) < 1) = false := decide_eq_false (by omega)
    by_cases h2' : 50 < N
    · have d2 : decide ((50 : Int) < (N : Int)) = true := decide_eq_true (by omega)
      rw [if_pos (.inr h2')] at en3
      rw [en3] at fin'
      simp (config := {maxSteps := 2000000}) (disch := first | omega | (simp only [List.length_cons,List.length_nil,List.length_append,List.length_drop]; omega)) only [g,g2,c1,c2,d1,d2,m_storeB,↓s_nilchk,x_nilchk,↓x_fieldAddr,x_fieldV,↓s_nilchk,x_nilchk,Nat.zero_add,Nat.add_zero,↓l_loop,↓l_succ,↓s_load,m_load,↓m_load1,m_load1,↓m_st,m_stE,m_storeE,w_zero,w_succ,List.length_cons,List.length_nil,List.drop_succ_cons,List.drop_nil,↓s_ops,↓s_seq,↓s_cond,↓s_block,↓s_nil,↓s_op,↓s_opg,↓s_wanted',↓s_wantV,s_wantV,↓s_bindS,s_bindS,↓s_bindE,s_bindE,s_norm,↓s_condV,s_condV,↓s_getp,↓s_get,↓s_con,↓s_os0,↓s_os1,↓s_list0,↓s_list1,↓s_mov,↓s_pick,↓s_pickE,s_pickE,↓s_bin,↓s_call,↓s_ext,s_same,b_lss,b_gtr,↓iteN_true,↓iteN_false,iteN_true,iteN_false,Nat.zero_add,List.append_nil,Nat.reduceEqDiff,decide_true,decide_false,List.getElem?_cons_zero,List.getElem?_cons_succ,beq_self_eq_true]
      exact fin' _ (by (simp only [s_getp,s_getp0,Nat.reduceEqDiff,decide_false,iteN_false]; try rfl)) (by (simp only [s_getp,s_getp0,Nat.reduceEqDiff,decide_false,iteN_false]; try rfl)) (by (simp only [s_getp,s_getp0,Nat.reduceEqDiff,decide_false,decide_true,iteN_false,iteN_true]; try rfl)) (by (simp only [s_getp,decide_true,iteN_true]; try rfl))
    · have d2 : decide ((50 : Int) < (N : Int)) = false := decide_eq_false (by omega)
      rw [if_neg (by omega)] at en3
      rw [en3] at fin'
      simp (config := {maxSteps := 2000000}) (disch := first | omega | (simp only [List.length_cons,List.length_nil,List.length_append,List.length_drop]; omega)) only [g,c1,c2,d1,d2,↓s_nilchk,x_nilchk,↓x_fieldAddr,x_fieldV,↓s_nilchk,x_nilchk,Nat.zero_add,Nat.add_zero,↓l_loop,↓l_succ,↓s_load,m_load,↓m_load1,m_load1,↓s_skip,↓s_ops,↓s_seq,↓s_cond,↓s_block,↓s_nil,↓s_op,↓s_opg,↓s_wanted',↓s_wantV,s_wantV,↓s_bindS,s_bindS,↓s_bindE,s_bindE,s_norm,↓s_condV,s_condV,↓s_getp,↓s_get,↓s_con,↓s_os0,↓s_os1,↓s_list0,↓s_list1,↓s_mov,↓s_pick,↓s_pickE,s_pickE,↓s_bin,↓s_call,↓s_ext,s_same,b_lss,b_gtr,↓iteN_true,↓iteN_false,iteN_true,iteN_false,Nat.zero_add,Nat.reduceEqDiff,decide_true,decide_false,List.getElem?_cons_zero,List.getElem?_cons_succ,beq_self_eq_true]
      exact fin' _ (by (simp only [s_getp,Nat.reduceEqDiff,decide_false,iteN_false]; try rfl)) (by (simp only [s_getp,Nat.reduceEqDiff,decide_false,iteN_false]; try rfl)) (by (simp only [s_getp,Nat.reduceEqDiff,decide_false,decide_true,iteN_false,iteN_true]; try rfl)) (by (simp only [s_getp,decide_true,iteN_true]; try rfl))
end Go.Eng
namespace Go.Eng
open Go
variable {E : Nat → Option Fn} {X : Orc}
set_option linter.unusedSimpArgs false
set_option linter.unusedVariables false
theorem RdH.put {ep rp : Nat} {l : List Nat} {a : Option (Nat × Nat)} {s : Nat × Bool} {h : H} (r : RdH ep rp l a s h) (q : Nat) (b : Blk) (h1 : q ≠ ep) (h2 : q ≠ rp) (h3 : ∀ o,a ≠ some (q,o)) : RdH ep rp l a s (h.put q b) :=
  ⟨r.y.mono (Nat.le_refl _) (h_put_ne _ _ h1) (fun q' hq eq => h_put_ne _ _ (fun e => h3 0 (by rw [eq,e]))),by rw [h_put_ne _ _ h2]; exact r.g,r.lt,r.ne,r.na⟩
theorem RowF.put {α : Type} {sz : Nat} {A : (Nat → Prop) → H → α → List V → Prop} (it : ItA sz A) {lo : Nat} {h : H} {ops : List α} {a : Option (Nat × Nat)} {c : Option Nat} {e : Nat} (r : RowF (fun j => lo ≤ j) lo sz A h ops a c e) (q : Nat) (hq : q < lo) (b : Blk) : RowF (fun j => lo ≤ j) lo sz A (h.put q b) ops a c e :=
  r.mono it (Nat.le_refl _) (fun i hk _ => h_put_ne _ _ (by have : lo ≤ i := hk; omega)) (fun q' o eq => h_put_ne _ _ (by have := r.lt eq; omega))
theorem RowF.kr {α : Type} {sz : Nat} {A : (Nat → Prop) → H → α → List V → Prop} (it : ItA sz A) {lo ep rp : Nat} {h h' : H} {ops : List α} {a : Option (Nat × Nat)} {c : Option Nat} {e : Nat} (r : RowF (fun j => lo ≤ j) lo sz A h ops a c e) (k : Kr ep rp h h') (h1 : ep < lo) (h2 : rp < lo) : RowF (fun j => lo ≤ j) lo sz A h' ops a c e :=
  r.mono it k.1 (fun i hk hi => k.2 _ hi (by have : lo ≤ i := hk; omega) (by have : lo ≤ i := hk; omega)) (fun q' o eq => by have := r.lt eq; exact k.2 _ (by omega) (by omega) (by omega))
def rx1 (l : List Nat) : Nat × Nat × Bool := rdW l (0,false)
def rx2 (l : List Nat) : List InQ × Nat × Bool := rxL rxI l (rx1 l).2
def rx3 (l : List Nat) : List OutQ × Nat × Bool := rxL rxO l (rx2 l).2
def rx4 (l : List Nat) : Nat × Nat × Bool := rdW l (rx3 l).2
/-- what is read of bytes: a transaction,its place's end,and whether that failed -/
def rxT (l : List Nat) : TxQ × Nat × Bool := (⟨(rx1 l).1,(rx2 l).1,(rx3 l).1,(rx4 l).1⟩,(rx4 l).2)
theorem vbeq4 (k : IntKind) (m n : Int) (a b : Option (Nat × Nat)) (la lb : Nat) (ca cb : Option Nat) (ea eb : Nat) : V.beq (.agg [.int k m,.slice a la ca ea,.slice b lb cb eb,.int k n]) (.agg [.int k m,.slice a la ca ea,.slice b lb cb eb,.int k n]) = true := by
  show V.beqs _ _ = true
  simp only [V.beqs,vbeq_int,vbeq_slc,Bool.and_self]
def rdRes (l : List Nat) (P : List V) : V := match (rxT l).2.2 with
  | true => .tup [.agg [.int .u32 0,.slice none 0 (some 0) 0,.slice none 0 (some 0) 0,.int .u32 0],.int .i64 0,.int .i64 60]
  | false => .tup [.agg P,.int .i64 ((rxT l).2.1 : Nat),.int .i64 0]
theorem txread_go (e : EnRr E) (x : NoRr X) (K : Nat) (hK : 100 < K) (l : List Nat) (bl : byt l = true) (hl : l.length ≤ 100000000) (a0 : Option (Nat × Nat)) (c0 : Option Nat) (e0 : Nat) (h : H) (src : SrcH h a0 e0 l) :
    ∃ h' P,callX E X (K + 21) (.fn k_tx_read) [.slice a0 l.length c0 e0] h = some (rdRes l P,h') ∧ Kp h h' ∧ TxC (fun j => h.next ≤ j) h' (rxT l).1 P ∧ (rxT l).2.1 ≤ l.length := by
  rw [x_cfn e.rd _ _ (Nat.le_of_ble_eq_true rfl) (x.rd _ _)]
  obtain ⟨N0,eN0⟩ : ∃ v : V,V.slice none 0 (some 0) 0 = v := ⟨_,rfl⟩
  obtain ⟨hA,ehA⟩ : ∃ hA,h.new (.cells [.int .u32 0,.slice none 0 (some 0) 0,.slice none 0 (some 0) 0,.int .u32 0] .rw) = hA := ⟨_,rfl⟩
  have kA : Kp h hA := by rw [← ehA]; exact Kp.new _ _
  have nA : hA.next = h.next + 1 := by rw [← ehA]; rfl
  have gA : hA.get h.next = some (.cells [.int .u32 0,.slice none 0 (some 0) 0,.slice none 0 (some 0) 0,.int .u32 0] .rw) := by rw [← ehA]; exact h_new_same _ _
  obtain ⟨h1,ep,ay,c1,k1,lep,y1,gay⟩ := look_go e.lo x.lo (K + 19) l hl a0 c0 e0 hA (src.mono kA)
  replace c1 : callX E X (K + 20) (.fn k_octet_Look) _ hA = _ := c1
  have n1 := k1.1
  obtain ⟨h2,eh2⟩ : ∃ h2,(h1.new (.cells [.ptr none,.bool false] .rw)).put h1.next (.cells [.ptr (some (ep,0)),.bool false] .rw) = h2 := ⟨_,rfl⟩
  have k2 : Kp h1 h2 := by rw [← eh2]; (repeat (first | exact Kp.refl _ | refine Kp.put ?_ _ (by first | omega | (simp only [h_next_put,h_next_new,h_next_del]; omega)) | refine Kp.del ?_ (by first | omega | (simp only [h_next_put,h_next_new,h_next_del]; omega)) | refine Kp.trans ?_ (Kp.new _ _)))
  have n2 : h2.next = h1.next + 1 := by rw [← eh2]; rfl
  obtain ⟨rp,erp⟩ : ∃ rp,h1.next = rp := ⟨_,rfl⟩
  have g2 : h2.get h1.next = some (.cells [.ptr (some (ep,0)),.bool false] .rw) := by rw [← eh2]; exact h_put_same _ _ _
  have y2 := y1.kp k2
  have lte := y1.lt
  have r2 : RdH ep rp l ay (0,false) h2 := ⟨y2,by rw [← erp]; exact g2,by omega,by omega,fun o eq => by have := y1.alt eq; omega⟩
  have qe : h.next ≠ ep := by omega
  have qr : h.next ≠ rp := by omega
  have qa : ∀ o,ay ≠ some (h.next,o) := fun o eq => by have := gay _ _ eq; omega
  have gq2 : h2.get h.next = some (.cells [.int .u32 0,.slice none 0 (some 0) 0,.slice none 0 (some 0) 0,.int .u32 0] .rw) := by rw [k2.2 _ (by omega),k1.2 _ (by omega),gA]
  obtain ⟨h3,c3,r3,kr3⟩ := word_go e x (K + 7) ep rp l bl hl ay (0,false) h2 r2
  replace c3 : callX E X (K + 20) (.fn k_tx_reader_word) _ h2 = some (.int .u32 ((rx1 l).1 : Nat),h3) := c3
  have n3 := kr3.1
  have gq3 : h3.get h.next = some (.cells [.int .u32 0,.slice none 0 (some 0) 0,.slice none 0 (some 0) 0,.int .u32 0] .rw) := by rw [kr3.2 _ (by omega) qe qr,gq2]
  obtain ⟨h3',eh3'⟩ : ∃ h3',h3.put h.next (.cells [.int .u32 ((rx1 l).1 : Nat),.slice none 0 (some 0) 0,.slice none 0 (some 0) 0,.int .u32 0] .rw) = h3' := ⟨_,rfl⟩
  have n3' : h3'.next = h3.next := by rw [← eh3']; rfl
  have r3' : RdH ep rp l ay (rx1 l).2 h3' := by rw [← eh3']; exact r3.put _ _ qe qr qa
  have gq3' : h3'.get h.next = some (.cells [.int .u32 ((rx1 l).1 : Nat),.slice none 0 (some 0) 0,.slice none 0 (some 0) 0,.int .u32 0] .rw) := by rw [← eh3']; exact h_put_same _ _ _
  obtain ⟨h4,ia,ic,ie,c4,r4,kr4,rI⟩ := listIn_go e x K hK ep rp l bl hl ay (rx1 l).2 h3' r3'
  replace c4 : callX E X (K + 20) (.fn k_tx_list_api_In) _ h3' = some (.slice ia (rx2 l).1.length ic ie,h4) := c4
  have n4 := kr4.1
  have gq4 : h4.get h.next = some (.cells [.int .u32 ((rx1 l).1 : Nat),.slice none 0 (some 0) 0,.slice none 0 (some 0) 0,.int .u32 0] .rw) := by rw [kr4.2 _ (by omega) qe qr,gq3']
  obtain ⟨h4',eh4'⟩ : ∃ h4',h4.put h.next (.cells [.int .u32 ((rx1 l).1 : Nat),.slice ia (rx2 l).1.length ic ie,.slice none 0 (some 0) 0,.int .u32 0] .rw) = h4' := ⟨_,rfl⟩
  have n4' : h4'.next = h4.next := by rw [← eh4']; rfl
  have r4' : RdH ep rp l ay (rx2 l).2 h4' := by rw [← eh4']; exact r4.put _ _ qe qr qa
  have gq4' : h4'.get h.next = some (.cells [.int .u32 ((rx1 l).1 : Nat),.slice ia (rx2 l).1.length ic ie,.slice none 0 (some 0) 0,.int .u32 0] .rw) := by rw [← eh4']; exact h_put_same _ _ _
  have rI4 : RowF (fun j => h3'.next ≤ j) h3'.next 35 InC h4' (rx2 l).1 ia ic ie := by rw [← eh4']; exact RowF.put itIn rI _ (by omega) _
  obtain ⟨h5,oa,oc,oe,c5,r5,kr5,rO⟩ := listOut_go e x K hK ep rp l bl hl ay (rx2 l).2 h4' r4'
  replace c5 : callX E X (K + 20) (.fn k_tx_list_api_Out) _ h4' = some (.slice oa (rx3 l).1.length oc oe,h5) := c5
  have n5 := kr5.1
  have gq5 : h5.get h.next = some (.cells [.int .u32 ((rx1 l).1 : Nat),.slice ia (rx2 l).1.length ic ie,.slice none 0 (some 0) 0,.int .u32 0] .rw) := by rw [kr5.2 _ (by omega) qe qr,gq4']
  have rI5 := rI4.kr itIn kr5 (by omega) (by omega)
  obtain ⟨h5',eh5'⟩ : ∃ h5',h5.put h.next (.cells [.int .u32 ((rx1 l).1 : Nat),.slice ia (rx2 l).1.length ic ie,.slice oa (rx3 l).1.length oc oe,.int .u32 0] .rw) = h5' := ⟨_,rfl⟩
  have n5' : h5'.next = h5.next := by rw [← eh5']; rfl
  have r5' : RdH ep rp l ay (rx3 l).2 h5' := by rw [← eh5']; exact r5.put _ _ qe qr qa
  have gq5' : h5'.get h.next = some (.cells [.int .u32 ((rx1 l).1 : Nat),.slice ia (rx2 l).1.length ic ie,.slice oa (rx3 l).1.length oc oe,.int .u32 0] .rw) := by rw [← eh5']; exact h_put_same _ _ _
  have rI5' : RowF (fun j => h3'.next ≤ j) h3'.next 35 InC h5' (rx2 l).1 ia ic ie := by rw [← eh5']; exact RowF.put itIn rI5 _ (by omega) _
  have rO5' : RowF (fun j => h4'.next ≤ j) h4'.next 2 OutC h5' (rx3 l).1 oa oc oe := by rw [← eh5']; exact RowF.put itOut rO _ (by omega) _
  obtain ⟨h6,c6,r6,kr6⟩ := word_go e x (K + 7) ep rp l bl hl ay (rx3 l).2 h5' r5'
  replace c6 : callX E X (K + 20) (.fn k_tx_reader_word) _ h5' = some (.int .u32 ((rx4 l).1 : Nat),h6) := c6
  have n6 := kr6.1
  have gq6 : h6.get h.next = some (.cells [.int .u32 ((rx1 l).1 : Nat),.slice ia (rx2 l).1.length ic ie,.slice oa (rx3 l).1.length oc oe,.int .u32 0] .rw) := by rw [kr6.2 _ (by omega) qe qr,gq5']
  have rI6 := rI5'.kr itIn kr6 (by omega) (by omega)
  have rO6 := rO5'.kr itOut kr6 (by omega) (by omega)
  have kp6 : Kp h h6 := ⟨by omega,fun j hj => by
    rw [kr6.2 _ (by omega) (by omega) (by omega),← eh5',h_put_ne _ _ (by omega),kr5.2 _ (by omega) (by omega) (by omega),← eh4',h_put_ne _ _ (by omega),kr4.2 _ (by omega) (by omega) (by omega),← eh3',h_put_ne _ _ (by omega),kr3.2 _ (by omega) (by omega) (by omega),k2.2 _ (by omega),k1.2 _ (by omega),kA.2 _ hj]⟩
  -- the end
  obtain ⟨P,eP⟩ : ∃ P : List V,[.int .u32 ((rx1 l).1 : Nat),.slice ia (rx2 l).1.length ic ie,.slice oa (rx3 l).1.length oc oe,.int .u32 ((rx4 l).1 : Nat)] = P := ⟨_,rfl⟩
  have tc : ∀ h9 : H,h6.next ≤ h9.next → (∀ j,j ≠ h.next → h9.get j = h6.get j) → TxC (fun j => h.next ≤ j) h9 (rxT l).1 P := fun h9 hn9 f9 => by
    refine ⟨ia,oa,ic,oc,ie,oe,by rw [← eP]; rfl,?_,?_⟩
    · refine RowG.mono2 itIn (rI6.row itIn) hn9 (fun j hj _ => f9 j ?_) (fun j hj _ => ?_)
      · rcases hj with hj | hj <;> (have : h3'.next ≤ j := hj; omega)
      · rcases hj with hj | hj <;> (have : h3'.next ≤ j := hj; show h.next ≤ j; omega)
    · refine RowG.mono2 itOut (rO6.row itOut) hn9 (fun j hj _ => f9 j ?_) (fun j hj _ => ?_)
      · rcases hj with hj | hj <;> (have : h4'.next ≤ j := hj; omega)
      · rcases hj with hj | hj <;> (have : h4'.next ≤ j := hj; show h.next ≤ j; omega)
  obtain ⟨h6',eh6'⟩ : ∃ h6',h6.put h.next (.cells P .rw) = h6' := ⟨_,rfl⟩
  have r6' : RdH ep rp l ay (rx4 l).2 h6' := by rw [← eh6']; exact r6.put _ _ qe qr qa
  have gq6' : h6'.get h.next = some (.cells P .rw) := by rw [← eh6']; exact h_put_same _ _ _
  have n6' : h6'.next = h6.next := by rw [← eh6']; rfl
  have lf := left_go e.ey x.ey (K + 18) ep l hl (rx4 l).2.1 ay h6' r6'.y
  replace lf : callX E X (K + 20) (.fn k_octet_Eye_Left) _ h6' = _ := lf
  have le := r6'.y.le
  have g6 := r6'.g
  rw [erp] at eh2
  have ff : fillV [.ptr none,.bool false] [(0,1,.ptr (some (ep,0)))] = some [.ptr (some (ep,0)),.bool false] := rfl
  have s2 : ∀ (h : H) i,storeV h 2 (.ptr (some (i,0))) (.agg [.ptr (some (ep,0)),.bool false]) = storeE (h.get i) h i 0 [.ptr (some (ep,0)),.bool false] := fun h i => m_storeA h 2 i 0 _ rfl
  have sZ : ∀ (h : H) i,storeV h 4 (.ptr (some (i,0))) (.agg [.int .u32 0,.slice none 0 (some 0) 0,.slice none 0 (some 0) 0,.int .u32 0]) = storeE (h.get i) h i 0 [.int .u32 0,.slice none 0 (some 0) 0,.slice none 0 (some 0) 0,.int .u32 0] := fun h i => m_storeA h 4 i 0 _ rfl
  have s4 : ∀ (h : H) i,storeV h 4 (.ptr (some (i,0))) (.agg [.int .u32 ((rx1 l).1 : Nat),.slice ia (rx2 l).1.length ic ie,.slice oa (rx3 l).1.length oc oe,.int .u32 ((rx4 l).1 : Nat)]) = storeE (h.get i) h i 0 [.int .u32 ((rx1 l).1 : Nat),.slice ia (rx2 l).1.length ic ie,.slice oa (rx3 l).1.length oc oe,.int .u32 ((rx4 l).1 : Nat)] := fun h i => m_storeA h 4 i 0 _ rfl
  have w : wr .i64 ((l.length : Int) - ((l.length - (rx4 l).2.1 : Nat) : Int)) = ((rx4 l).2.1 : Int) := by rw [wr_i64 (by omega)]; omega
  have fz : fillV [.int .u32 0,.slice none 0 (some 0) 0,.slice none 0 (some 0) 0,.int .u32 0] [] = some [.int .u32 0,.slice none 0 (some 0) 0,.slice none 0 (some 0) 0,.int .u32 0] := rfl
  rw [← eP] at eh6' gq6'
  have tcF : ∀ b,TxC (fun j => h.next ≤ j) (h6'.put h.next b) (rxT l).1 P := fun b => tc _ (by show h6.next ≤ h6'.next; omega) (fun j hj => by rw [h_put_ne _ _ hj.symm,← eh6',h_put_ne _ _ hj.symm])
  have kpF : ∀ b,Kp h (h6'.put h.next b) := fun b => ⟨by show h.next ≤ h6'.next; have := kp6.1; omega,fun j hj => by rw [h_put_ne _ _ (by omega),← eh6',h_put_ne _ _ (by omega),kp6.2 _ hj]⟩
  cases hf : (rx4 l).2.2 with
  | true =>
    refine ⟨h6'.put h.next (.cells [.int .u32 0,.slice none 0 (some 0) 0,.slice none 0 (some 0) 0,.int .u32 0] .rw),P,?_,kpF _,tcF _,le⟩
    have er : rdRes l P = .tup [.agg [.int .u32 0,.slice none 0 (some 0) 0,.slice none 0 (some 0) 0,.int .u32 0],.int .i64 0,.int .i64 60] := by
      unfold rdRes; rw [show (rxT l).2.2 = true from hf]
    rw [er]
    rw [hf] at g6
    generalize (rx1 l).1 = v1 at *
    generalize (rx2 l).1.length = v2 at *
    generalize (rx3 l).1.length = v3 at *
    generalize (rx4 l).1 = v4 at *
    simp (config := {maxSteps := 2000000}) (disch := first | omega | (simp only [List.length_cons,List.length_nil,List.length_append,List.length_drop]; omega)) only [ehA,c1,ff,erp,s2,eh2,c3,gq3,eh3',c4,gq4,eh4',m_storeS,c5,gq5,eh5',c6,gq6,eh6',gq6',g6,fz,sZ,↓x_build,x_aggO,↓s_mkfn,↓x_fieldAddr,x_fieldV,Nat.zero_add,Nat.add_zero,↓h_put_get,↓h_new_get,↓s_load,m_load,↓m_load1,m_load1,↓m_st,m_stE,m_storeI,m_storeE,w_zero,w_succ,↓s_alloc,↓x_P0,↓x_P1,List.length_cons,List.length_nil,List.cons_append,List.drop_succ_cons,List.drop_zero,List.drop_nil,List.nil_append,Nat.reduceAdd,s_resc,s_consR,m_load4,s_res0,↓s_ops,↓s_seq,↓s_cond,↓s_ret,↓s_nil,↓s_op,↓s_bindS,s_bindS,↓s_bindE,s_bindE,s_bindE_ret,s_norm,↓s_condV,s_condV,↓s_getp,↓s_getp0,↓s_get,↓s_con,↓s_os0,↓s_os1,↓s_list0,↓s_list1,↓s_mov,↓s_call,s_same,s_end,s_res0,s_res1,s_tup2,↓iteN_true,↓iteN_false,iteN_true,iteN_false,Nat.zero_add,List.nil_append,List.append_nil,Nat.reduceEqDiff,decide_true,decide_false,List.getElem?_cons_zero,List.getElem?_cons_succ]
    try rfl
  | false =>
    refine ⟨h6'.put h.next (.cells P .rw),P,?_,kpF _,tcF _,le⟩
    have er : rdRes l P = .tup [.agg P,.int .i64 ((rx4 l).2.1 : Nat),.int .i64 0] := by
      unfold rdRes; rw [show (rxT l).2.2 = false from hf]; rfl
    rw [er,← eP]
    rw [hf] at g6
    generalize (rx1 l).1 = v1 at *
    generalize (rx2 l).1.length = v2 at *
    generalize (rx3 l).1.length = v3 at *
    generalize (rx4 l).1 = v4 at *
    generalize (rx4 l).2.1 = at_ at *
    generalize l.length = ll at *
    simp (config := {maxSteps := 2000000}) (disch := first | omega | (simp only [List.length_cons,List.length_nil,List.length_append,List.length_drop]; omega)) only [ehA,c1,ff,erp,s2,eh2,c3,gq3,eh3',c4,gq4,eh4',m_storeS,c5,gq5,eh5',c6,gq6,eh6',gq6',g6,lf,w,s4,vbeq4,Bool.and_self,↓x_build,x_aggO,↓s_mkfn,↓s_len,x_lenS,↓x_fieldAddr,x_fieldV,Nat.zero_add,Nat.add_zero,↓s_evD,↓s_dnil,↓s_dL,↓s_dR,↓s_dRj,↓s_dB,↓s_bindD,s_bindD,s_finDx,s_addP0,↓s_bump0,s_ok0,↓s_ok1,s_okR0,↓s_okR1,↓s_okE,s_okE,s_okE1,s_nth0,s_nthS,Nat.add_zero,Bool.and_self,↓h_put_get,↓h_new_get,↓s_load,m_load,↓m_load1,m_load1,↓m_st,m_stE,m_storeI,m_storeE,w_zero,w_succ,↓s_alloc,x_lenS,↓s_len,↓x_P0,↓x_P1,List.length_cons,List.length_nil,List.cons_append,List.drop_succ_cons,List.drop_zero,List.drop_nil,List.nil_append,Nat.reduceAdd,s_resc,s_consR,m_load4,s_res0,↓s_skip,↓s_ops,↓s_dops,↓s_seq,↓s_cond,↓s_ret,↓s_nil,↓s_op,↓s_bindS,s_bindS,↓s_bindE,s_bindE,s_norm,↓s_condV,s_condV,↓s_getp,↓s_getp0,↓s_get,↓s_con,↓s_os0,↓s_os1,↓s_list0,↓s_list1,↓s_mov,↓s_bin,↓s_call,s_same,b_sub,s_end,s_res0,s_res1,s_tup2,↓iteN_true,↓iteN_false,iteN_true,iteN_false,Nat.zero_add,List.nil_append,List.append_nil,Nat.reduceEqDiff,decide_true,decide_false,List.getElem?_cons_zero,List.getElem?_cons_succ]
    try rfl
end Go.Eng
namespace Go.Eng
open Go
variable {E : Nat → Option Fn} {X : Orc}
set_option linter.unusedSimpArgs false
set_option linter.unusedVariables false
/-- bytes stand at a reader's place -/
def At (l : List Nat) (s : Nat × Bool) (b : List Nat) : Prop := s.2 = false ∧ ∃ r,l.drop s.1 = b ++ r
theorem At.left {l : List Nat} {s : Nat × Bool} {a b : List Nat} (h : At l s (a ++ b)) : At l s a := by
  obtain ⟨h1,r,h2⟩ := h
  exact ⟨h1,b ++ r,by rw [h2,List.append_assoc]⟩
theorem At.right {l : List Nat} {s : Nat × Bool} {a b : List Nat} (h : At l s (a ++ b)) : At l (s.1 + a.length,false) b := by
  obtain ⟨h1,r,h2⟩ := h
  exact ⟨rfl,r,by show l.drop (s.1 + a.length) = _; rw [← List.drop_drop,h2,List.append_assoc,List.drop_left]⟩
theorem At.app {l : List Nat} {s : Nat × Bool} {a b : List Nat} (h : At l s a) (h' : At l (s.1 + a.length,false) b) : At l s (a ++ b) := by
  obtain ⟨h1,r,h2⟩ := h
  obtain ⟨_,r',h3⟩ := h'
  refine ⟨h1,r',?_⟩
  have h3' : l.drop (s.1 + a.length) = b ++ r' := h3
  rw [← List.drop_drop,h2,List.drop_left] at h3'
  rw [h2,h3',List.append_assoc]
theorem At.nil {l : List Nat} {s : Nat × Bool} (h : s.2 = false) : At l s [] := ⟨h,_,rfl⟩
theorem At.le {l : List Nat} {s : Nat × Bool} {b : List Nat} (h : At l s b) (hb : 0 < b.length) : s.1 + b.length ≤ l.length := by
  obtain ⟨_,r,h2⟩ := h
  have := congrArg List.length h2
  rw [List.length_drop,List.length_append] at this; omega
theorem At.take {l : List Nat} {s : Nat × Bool} {b : List Nat} (h : At l s b) : (l.drop s.1).take b.length = b := by
  obtain ⟨_,r,h2⟩ := h
  rw [h2,List.take_left]
theorem at_of {l : List Nat} {s : Nat × Bool} (h : s.2 = false) (n : Nat) (b : List Nat) (e : (l.drop s.1).take n = b) : At l s b := ⟨h,(l.drop s.1).drop n,by rw [← e,List.take_append_drop]⟩
/-! words,hashes,scripts -/
theorem fix_at (k : Nat) (hk : k = 4 ∨ k = 8) (l : List Nat) (bl : byt l = true) (s : Nat × Bool) (h : (s.2 || decide ((eyFix (k : Int) l s.1).2.1 ≠ 0)) = false) : At l s (leN k (eyFix (k : Int) l s.1).1) ∧ (eyFix (k : Int) l s.1).2.2 = s.1 + k ∧ (eyFix (k : Int) l s.1).2.1 = 0 := by
  have hz : sizedI (k : Int) = true := by rcases hk with rfl | rfl <;> rfl
  rw [Bool.or_eq_false_iff] at h
  obtain ⟨h1,h2⟩ := h
  unfold eyFix at h2 ⊢
  rw [if_pos hz] at h2 ⊢
  rw [Int.toNat_natCast] at h2 ⊢
  by_cases hc : s.1 + k ≤ l.length
  · rw [if_pos hc] at h2 ⊢
    refine ⟨?_,rfl,rfl⟩
    have hl : ((l.drop s.1).take k).length = k := by rw [List.length_take,List.length_drop]; omega
    refine at_of h1 k _ ?_
    exact (leN_numV' _ (byt_take (byt_drop bl _) _) k hl).symm
  · rw [if_neg hc] at h2
    simp at h2
theorem at_fix (k : Nat) (hk : k = 4 ∨ k = 8) (l : List Nat) (s : Nat × Bool) (n : Nat) (hn : n < 256 ^ k) (h : At l s (leN k n)) : eyFix (k : Int) l s.1 = (n,0,s.1 + k) := by
  have hz : sizedI (k : Int) = true := by rcases hk with rfl | rfl <;> rfl
  have hle := h.le (by rw [leN_len]; rcases hk with rfl | rfl <;> omega)
  have ht := h.take
  rw [leN_len] at hle ht
  unfold eyFix
  rw [if_pos hz,Int.toNat_natCast,if_pos hle,ht,numV_leN k n hn]
theorem w_at (l : List Nat) (bl : byt l = true) (s : Nat × Bool) (h : (rdW l s).2.2 = false) : At l s (leN 4 (rdW l s).1) ∧ (rdW l s).2 = (s.1 + 4,false) ∧ (rdW l s).1 < 4294967296 := by
  obtain ⟨h1,h2,h3⟩ := fix_at 4 (.inl rfl) l bl s h
  refine ⟨h1,Prod.ext h2 h,?_⟩
  have : (rdW l s).1 < 256 ^ 4 := eyFix_lt 4 (.inl rfl) l bl s.1
  simpa using this
theorem at_w (l : List Nat) (s : Nat × Bool) (n : Nat) (hn : n < 4294967296) (h : At l s (leN 4 n)) : rdW l s = (n,s.1 + 4,false) := by
  have e := at_fix 4 (.inl rfl) l s n (by simpa using hn) h
  unfold rdW
  rw [show eyFix 4 l s.1 = (n,0,s.1 + 4) from e,h.1]
  rfl
theorem h_at (l : List Nat) (bl : byt l = true) (s : Nat × Bool) (h : (rdH l s).2.2 = false) : At l s (rdH l s).1 ∧ (rdH l s).2 = (s.1 + 32,false) ∧ (rdH l s).1.length = 32 ∧ byt (rdH l s).1 = true := by
  have h0 := h
  have hL := rdH_len l s
  unfold rdH at h
  simp only [Bool.or_eq_false_iff] at h
  obtain ⟨h1,h2⟩ := h
  have e32 : (32 : Int).toNat = 32 := rfl
  by_cases hc : s.1 + 32 ≤ l.length
  · have er : eyRaw 32 l s.1 = ((l.drop s.1).take 32,0,s.1 + 32) := by
      unfold eyRaw
      rw [if_neg (by omega),e32,if_pos hc]
    have hl : ((l.drop s.1).take 32).length = 32 := by rw [List.length_take,List.length_drop]; omega
    have e1 : (rdH l s).1 = (l.drop s.1).take 32 := by
      unfold rdH
      rw [er]
      simp only
      rw [if_neg (fun h => by rw [h] at hl; cases hl)]
    refine ⟨at_of h1 32 _ e1.symm,Prod.ext ?_ h0,hL,by rw [e1]; exact byt_take (byt_drop bl _) _⟩
    unfold rdH; rw [er]
  · have er : eyRaw 32 l s.1 = ([],10,s.1) := by
      unfold eyRaw
      rw [if_neg (by omega),e32,if_neg hc]
    rw [er] at h2
    simp at h2
theorem at_h (l : List Nat) (s : Nat × Bool) (t : List Nat) (ht : t.length = 32) (h : At l s t) : rdH l s = (t,s.1 + 32,false) := by
  have hle := h.le (by omega)
  have htk := h.take
  rw [ht] at hle htk
  have e32 : (32 : Int).toNat = 32 := rfl
  have er : eyRaw 32 l s.1 = (t,0,s.1 + 32) := by
    unfold eyRaw
    rw [if_neg (by omega),e32,if_pos hle,htk]
  unfold rdH
  rw [er,h.1]
  simp only
  rw [if_neg (fun h => by rw [h] at ht; cases ht)]
  rfl
theorem s_at (l : List Nat) (bl : byt l = true) (s : Nat × Bool) (h : (rdS l s).2.2 = false) : At l s (sizV (rdS l s).1.length ++ (rdS l s).1) ∧ (rdS l s).2 = (s.1 + (sizV (rdS l s).1.length ++ (rdS l s).1).length,false) ∧ (rdS l s).1.length ≤ 2000 ∧ byt (rdS l s).1 = true := by
  have h0 := h
  unfold rdS at h
  simp only [Bool.or_eq_false_iff] at h
  obtain ⟨h1,h2⟩ := h
  cases hc : comV (l.drop s.1) with
  | none =>
    have er : eyByt 2000 l s.1 = ([],10,s.1) := by unfold eyByt; rw [hc]
    rw [er] at h2; simp at h2
  | some x =>
    obtain ⟨n,u⟩ := x
    obtain ⟨c1,c2,c3,c4⟩ := com_siz _ (byt_drop bl _) n u hc
    by_cases hb : (2000 : Int) < 0 ∨ (2000 : Int) < (n : Int) ∨ l.length - s.1 - u < n
    · have er : eyByt 2000 l s.1 = ([],10,s.1) := by unfold eyByt; rw [hc]; simp only; rw [if_pos hb]
      rw [er] at h2; simp at h2
    · have er : eyByt 2000 l s.1 = ((l.drop (s.1 + u)).take n,0,s.1 + u + n) := by unfold eyByt; rw [hc]; simp only; rw [if_neg hb]
      rw [List.length_drop] at c3
      have e1 : (rdS l s).1 = (l.drop (s.1 + u)).take n := by unfold rdS; rw [er]
      have ln : ((l.drop (s.1 + u)).take n).length = n := by rw [List.length_take,List.length_drop]; omega
      have lu : (sizV n).length = u := by rw [sizV_len,c2]
      rw [e1,ln]
      refine ⟨?_,Prod.ext ?_ h0,by omega,byt_take (byt_drop bl _) _⟩
      · refine At.app (at_of h1 u _ c1.symm) (at_of rfl n _ ?_)
        show (l.drop (s.1 + (sizV n).length)).take n = _
        rw [lu]
      · unfold rdS; rw [er]; simp only; rw [List.length_append,lu,ln]; omega
theorem at_s (l : List Nat) (s : Nat × Bool) (t : List Nat) (ht : t.length ≤ 2000) (h : At l s (sizV t.length ++ t)) : rdS l s = (t,s.1 + (sizV t.length ++ t).length,false) := by
  have hr := h.right
  obtain ⟨h1,r,h2⟩ := h
  have c : comV (l.drop s.1) = some (t.length,cplV t.length) := by rw [h2,List.append_assoc]; exact siz_com t.length (by omega) (t ++ r)
  have lu : (sizV t.length).length = cplV t.length := sizV_len _
  obtain ⟨_,r',h3⟩ := hr
  have h3' : l.drop (s.1 + cplV t.length) = t ++ r' := by rw [← lu]; exact h3
  have ll := congrArg List.length h2
  rw [List.length_drop,List.length_append,List.length_append,lu] at ll
  have er : eyByt 2000 l s.1 = (t,0,s.1 + cplV t.length + t.length) := by
    unfold eyByt; rw [c]; simp only; rw [if_neg (by omega),h3',List.take_left]
  unfold rdS
  rw [er,h1,List.length_append,lu]
  simp only [Nat.add_assoc]
  rfl
/-! items -/
theorem i_at (l : List Nat) (bl : byt l = true) (s : Nat × Bool) (h : (rxI l s).2.2 = false) : At l s (inB (rxI l s).1) ∧ (rxI l s).2 = (s.1 + (inB (rxI l s).1).length,false) ∧ (rxI l s).1.ok ∧ (rxI l s).1.l.length ≤ 2000 := by
  unfold rxI at h ⊢
  have a := h_at l bl s
  generalize rdH l s = A at *
  obtain ⟨tx,sa⟩ := A
  have b := w_at l bl sa
  simp only at a b h ⊢
  generalize rdW l sa = B at *
  obtain ⟨n,sb⟩ := B
  have c := s_at l bl sb
  simp only at b c h ⊢
  generalize rdS l sb = C at *
  obtain ⟨t,sc⟩ := C
  have d := w_at l bl sc
  simp only at c d h ⊢
  generalize rdW l sc = D at *
  obtain ⟨q,sd⟩ := D
  simp only at d h ⊢
  obtain ⟨d1,rfl,d3⟩ := d h
  obtain ⟨c1,rfl,c3,c4⟩ := c d1.1
  obtain ⟨b1,rfl,b3⟩ := b c1.1
  obtain ⟨a1,rfl,a3,a4⟩ := a b1.1
  simp only at b1 c1 d1 ⊢
  have l1 : (tx ++ leN 4 n).length = 36 := by rw [List.length_append,a3,leN_len]
  refine ⟨?_,?_,⟨a3,a4,b3,c4,d3⟩,c3⟩
  · unfold inB
    refine At.app (At.app (At.app a1 (by rw [a3]; exact b1)) (by rw [l1]; exact c1)) ?_
    rw [List.length_append,l1]
    have : s.1 + (36 + (sizV t.length ++ t).length) = (s.1 + 32 + 4) + (sizV t.length ++ t).length := by omega
    rw [this]; exact d1
  · unfold inB
    simp only [List.length_append,a3,leN_len]
    congr 1
    omega
theorem at_i (l : List Nat) (s : Nat × Bool) (o : InQ) (ok : o.ok) (hl : o.l.length ≤ 2000) (h : At l s (inB o)) : rxI l s = (o,s.1 + (inB o).length,false) := by
  have lt := ok.lt
  unfold inB at h
  have a1 := at_h l s o.tx ok.lt h.left.left.left
  have b0 := h.left.left.right
  rw [lt] at b0
  have b1 := at_w l _ o.n ok.n1 b0
  have c0 := h.left.right
  rw [List.length_append,lt,leN_len] at c0
  have c1 := at_s l _ o.l hl c0
  have d0 := h.right
  rw [List.length_append,List.length_append,lt,leN_len] at d0
  have d1 := at_w l _ o.q ok.q1 d0
  simp only at b1 c1 d1
  unfold rxI
  rw [a1]
  simp only
  rw [b1]
  simp only
  rw [show s.1 + 32 + 4 = s.1 + (32 + 4) by omega,c1]
  simp only
  rw [show s.1 + (32 + 4) + (sizV o.l.length ++ o.l).length = s.1 + (32 + 4 + (sizV o.l.length ++ o.l).length) by omega,d1]
  simp only [inB,List.length_append,lt,leN_len]
  congr 2
theorem wr_mod (n : Nat) (hn : n < 18446744073709551616) : (wr .i64 (n : Int) % 18446744073709551616).toNat = n ∧ -9223372036854775808 ≤ wr .i64 (n : Int) ∧ wr .i64 (n : Int) < 9223372036854775808 := by
  rw [wr_eq]
  simp [IntKind.wrap,IntKind.bits,IntKind.signed]
  omega
theorem mod_wr (v : Int) (h1 : -9223372036854775808 ≤ v) (h2 : v < 9223372036854775808) : wr .i64 (((v % 18446744073709551616).toNat : Nat) : Int) = v ∧ (v % 18446744073709551616).toNat < 18446744073709551616 := by
  rw [wr_eq]
  simp [IntKind.wrap,IntKind.bits,IntKind.signed]
  omega
theorem fix8_at (l : List Nat) (bl : byt l = true) (s : Nat × Bool) (h : (s.2 || decide ((eyFix 8 l s.1).2.1 ≠ 0)) = false) : At l s (leN 8 (eyFix 8 l s.1).1) ∧ (eyFix 8 l s.1).2.2 = s.1 + 8 ∧ (eyFix 8 l s.1).2.1 = 0 := fix_at 8 (.inr rfl) l bl s h
theorem eyFix8_lt (l : List Nat) (bl : byt l = true) (n : Nat) : (eyFix 8 l n).1 < 18446744073709551616 := by
  have : (eyFix 8 l n).1 < 256 ^ 8 := eyFix_lt 8 (.inr rfl) l bl n
  simpa using this
theorem o_at (l : List Nat) (bl : byt l = true) (s : Nat × Bool) (h : (rxO l s).2.2 = false) : At l s (outB (rxO l s).1) ∧ (rxO l s).2 = (s.1 + (outB (rxO l s).1).length,false) ∧ (rxO l s).1.ok ∧ (rxO l s).1.l.length ≤ 2000 := by
  unfold rxO at h ⊢
  have a := fix8_at l bl s
  have lt := eyFix8_lt l bl s.1
  generalize eyFix 8 l s.1 = A at *
  obtain ⟨n,sa,er⟩ := A
  simp only at a lt h ⊢
  obtain ⟨sb,esb⟩ : ∃ sb,(er,s.2 || decide (sa ≠ 0)) = sb := ⟨_,rfl⟩
  rw [esb] at h ⊢
  have c := s_at l bl sb
  generalize rdS l sb = C at *
  obtain ⟨t,sc⟩ := C
  simp only at c h ⊢
  obtain ⟨c1,rfl,c3,c4⟩ := c h
  have hf : (s.2 || decide (sa ≠ 0)) = false := by rw [← show sb.2 = (s.2 || decide (sa ≠ 0)) by rw [← esb]]; exact c1.1
  obtain ⟨a1,a2,a3⟩ := a hf
  have es : sb = (s.1 + 8,false) := by rw [← esb,hf,a2]
  rw [es] at c1 ⊢
  obtain ⟨w1,w2,w3⟩ := wr_mod n lt
  refine ⟨?_,?_,⟨w2,w3,c4⟩,c3⟩
  · unfold outB
    simp only
    rw [w1]
    exact At.app a1 (by rw [leN_len]; exact c1)
  · unfold outB
    simp only
    rw [List.length_append (as := leN 8 _),leN_len]
    congr 1
    omega
theorem at_o (l : List Nat) (s : Nat × Bool) (o : OutQ) (ok : o.ok) (hl : o.l.length ≤ 2000) (h : At l s (outB o)) : rxO l s = (o,s.1 + (outB o).length,false) := by
  obtain ⟨m1,m2⟩ := mod_wr o.v ok.v0 ok.v1
  unfold outB at h
  have a1 := at_fix 8 (.inr rfl) l s _ (by simpa using m2) h.left
  have c0 := h.right
  rw [leN_len] at c0
  have c1 := at_s l _ o.l hl c0
  have e8 : (((8 : Nat) : Int)) = 8 := rfl
  rw [e8] at a1
  unfold rxO
  rw [a1,h.1]
  have z : (false || decide ((0 : Nat) ≠ 0)) = false := rfl
  simp only
  rw [z,c1,m1]
  simp only [outB,List.length_append,leN_len]
  congr 2
  omega
end Go.Eng
namespace Go.Eng
open Go
variable {E : Nat → Option Fn} {X : Orc}
set_option linter.unusedSimpArgs false
set_option linter.unusedVariables false
/-! lists of items -/
theorem rr_at {α : Type} (l : List Nat) (item : Nat × Bool → α × Nat × Bool) (enc : α → List Nat) (ok : α → Prop) (hi : ∀ s,(item s).2.2 = false → At l s (enc (item s).1) ∧ (item s).2 = (s.1 + (enc (item s).1).length,false) ∧ ok (item s).1) (x : List α × Nat × Bool) : ∀ n,(rxR item x n).2.2 = false → ∃ os,(rxR item x n).1 = x.1 ++ os ∧ os.length = n ∧ (∀ o ∈ os,ok o) ∧ At l x.2 (os.map enc).flatten ∧ (rxR item x n).2 = (x.2.1 + (os.map enc).flatten.length,false) := by
  intro n
  induction n with
  | zero =>
    intro h
    have h' : x.2.2 = false := h
    exact ⟨[],by simp [rxR],rfl,(by intro o ho; cases ho),At.nil h',Prod.ext rfl h'⟩
  | succ n ih =>
    intro h
    cases hb : (rxR item x n).2.2 with
    | true => rw [rxR,if_pos hb,hb] at h; cases h
    | false =>
      obtain ⟨os,e1,e2,e3,e4,e5⟩ := ih hb
      have er : rxR item x (n + 1) = rxS item (rxR item x n) := by rw [rxR,if_neg (by rw [hb]; simp)]
      rw [er] at h ⊢
      unfold rxS at h ⊢
      obtain ⟨i1,i2,i3⟩ := hi _ h
      refine ⟨os ++ [(item (rxR item x n).2).1],by rw [e1,List.append_assoc],by simp [e2],fun o ho => ?_,?_,?_⟩
      · rcases List.mem_append.1 ho with ho | ho
        · exact e3 o ho
        · rw [List.mem_singleton.1 ho]; exact i3
      · rw [List.map_append,List.flatten_append]
        refine e4.app ?_
        rw [← e5]
        simpa using i1
      · simp only
        rw [i2,e5,List.map_append,List.flatten_append,List.length_append]
        simp [Nat.add_assoc]
theorem at_rr {α : Type} (l : List Nat) (item : Nat × Bool → α × Nat × Bool) (enc : α → List Nat) (ok : α → Prop) (hi : ∀ s o,ok o → At l s (enc o) → item s = (o,s.1 + (enc o).length,false)) (os : List α) (x : List α × Nat × Bool) (oks : ∀ o ∈ os,ok o) (h : At l x.2 (os.map enc).flatten) : ∀ k,k ≤ os.length → rxR item x k = (x.1 ++ os.take k,x.2.1 + ((os.take k).map enc).flatten.length,false) := by
  intro k
  induction k with
  | zero =>
    intro _
    rw [rxR]
    refine Prod.ext (by simp) (Prod.ext (by simp) h.1)
  | succ k ih =>
    intro hk
    have e := ih (by omega)
    have ho : os[k]? = some os[k] := List.getElem?_eq_getElem hk
    have hm : os[k] ∈ os := List.getElem_mem hk
    have sp : (os.map enc).flatten = ((os.take k).map enc).flatten ++ (enc os[k] ++ ((os.drop (k + 1)).map enc).flatten) := by
      conv => lhs; rw [← List.take_append_drop k os,List.drop_eq_getElem_cons hk,List.map_append,List.flatten_append,List.map_cons,List.flatten_cons]
    rw [sp] at h
    have a1 := h.right.left
    have i1 := hi _ os[k] (oks _ hm) a1
    rw [rxR,e,if_neg (by simp)]
    unfold rxS
    simp only at i1 ⊢
    rw [i1,List.take_add_one,ho,List.map_append,List.flatten_append,List.length_append]
    simp [Nat.add_assoc]
theorem lst_at {α : Type} (item : List Nat → Nat × Bool → α × Nat × Bool) (enc : α → List Nat) (ok : α → Prop) (l : List Nat) (bl : byt l = true) (hi : ∀ s,(item l s).2.2 = false → At l s (enc (item l s).1) ∧ (item l s).2 = (s.1 + (enc (item l s).1).length,false) ∧ ok (item l s).1) (s : Nat × Bool) (h : (rxL item l s).2.2 = false) :
    At l s (sizV (rxL item l s).1.length ++ ((rxL item l s).1.map enc).flatten) ∧ (rxL item l s).2 = (s.1 + (sizV (rxL item l s).1.length ++ ((rxL item l s).1.map enc).flatten).length,false) ∧ (1 ≤ (rxL item l s).1.length ∧ (rxL item l s).1.length ≤ 50) ∧ ∀ o ∈ (rxL item l s).1,ok o := by
  unfold rxL at h ⊢
  obtain ⟨os,e1,e2,e3,e4,e5⟩ := rr_at l (item l) enc ok hi ([],rxB l s) _ h
  rw [List.nil_append] at e1
  have hb := e4.1
  simp only at hb e4 e5
  unfold rxB at hb
  simp only [Bool.or_eq_false_iff,decide_eq_false_iff_not] at hb
  obtain ⟨⟨b1,b2⟩,b3,b4⟩ := hb
  have hB : rxB l s = ((eySiz l s.1).2.2,false) := by
    refine Prod.ext rfl e4.1
  cases hc : comV (l.drop s.1) with
  | none =>
    have er : eySiz l s.1 = (0,10,s.1) := by unfold eySiz; rw [hc]
    rw [er] at b2; simp at b2
  | some x =>
    obtain ⟨n,u⟩ := x
    obtain ⟨c1,c2,c3,c4⟩ := com_siz _ (byt_drop bl _) n u hc
    have er : eySiz l s.1 = (n,0,s.1 + u) := by unfold eySiz; rw [hc]
    rw [hB] at e1 e4 e5
    rw [er] at e2 e1 e4 e5 b3 b4
    rw [hB,er]
    simp only at e1 e2 e4 e5 b3 b4 ⊢
    have lu : (sizV n).length = u := by rw [sizV_len,c2]
    rw [e1,e2]
    refine ⟨At.app (at_of b1 u _ c1.symm) (by rw [lu]; exact e4),?_,⟨by omega,by omega⟩,e3⟩
    rw [e5,List.length_append,lu,Nat.add_assoc]
theorem at_lst {α : Type} (item : List Nat → Nat × Bool → α × Nat × Bool) (enc : α → List Nat) (ok : α → Prop) (l : List Nat) (hi : ∀ s o,ok o → At l s (enc o) → item l s = (o,s.1 + (enc o).length,false)) (s : Nat × Bool) (os : List α) (h1 : 1 ≤ os.length) (h2 : os.length ≤ 50) (oks : ∀ o ∈ os,ok o) (h : At l s (sizV os.length ++ (os.map enc).flatten)) :
    rxL item l s = (os,s.1 + (sizV os.length ++ (os.map enc).flatten).length,false) := by
  have hr := h.right
  obtain ⟨f1,r,f2⟩ := h
  have c : comV (l.drop s.1) = some (os.length,cplV os.length) := by rw [f2,List.append_assoc]; exact siz_com os.length (by omega) _
  have lu : (sizV os.length).length = cplV os.length := sizV_len _
  have er : eySiz l s.1 = (os.length,0,s.1 + cplV os.length) := by unfold eySiz; rw [c]
  have hB : rxB l s = (s.1 + cplV os.length,false) := by
    unfold rxB
    rw [er,f1]
    have d1 : decide (os.length < 1) = false := decide_eq_false (by omega)
    have d2 : decide (50 < os.length) = false := decide_eq_false (by omega)
    simp only
    rw [d1,d2]; rfl
  rw [lu] at hr
  unfold rxL
  rw [hB,er]
  have := at_rr l (item l) enc ok hi os ([],s.1 + cplV os.length,false) oks hr os.length (Nat.le_refl _)
  simp only at this ⊢
  rw [this,List.take_length,List.nil_append,List.length_append,lu,Nat.add_assoc]
/-! transactions -/
theorem t_at (l : List Nat) (bl : byt l = true) (h : (rxT l).2.2 = false) : At l (0,false) (txB (rxT l).1) ∧ (rxT l).2 = ((txB (rxT l).1).length,false) ∧ (rxT l).1.ok ∧ ckOk (rxT l).1 := by
  have h4 : (rx4 l).2.2 = false := h
  obtain ⟨d1,d2,d3⟩ := w_at l bl _ h4
  obtain ⟨c1,c2,c3,c4⟩ := lst_at rxO outB (fun o => o.ok ∧ o.l.length ≤ 2000) l bl (fun s hs => o_at l bl s hs) (rx2 l).2 d1.1
  obtain ⟨b1,b2,b3,b4⟩ := lst_at rxI inB (fun o => o.ok ∧ o.l.length ≤ 2000) l bl (fun s hs => i_at l bl s hs) (rx1 l).2 c1.1
  obtain ⟨a1,a2,a3⟩ := w_at l bl (0,false) b1.1
  have e1 : (rx1 l).2 = (4,false) := a2
  have eI : rxL rxI l (rx1 l).2 = rx2 l := rfl
  have eO : rxL rxO l (rx2 l).2 = rx3 l := rfl
  have eW : rdW l (rx3 l).2 = rx4 l := rfl
  have e0 : rdW l (0,false) = rx1 l := rfl
  rw [eI] at b1 b2 b3 b4
  rw [eO] at c1 c2 c3 c4
  rw [eW] at d1 d2 d3
  rw [e0] at a1 a3
  have et : txB (rxT l).1 = leN 4 (rx1 l).1 ++ (sizV (rx2 l).1.length ++ ((rx2 l).1.map inB).flatten) ++ (sizV (rx3 l).1.length ++ ((rx3 l).1.map outB).flatten) ++ leN 4 (rx4 l).1 := by
    show leN 4 (rx1 l).1 ++ sizV (rx2 l).1.length ++ ((rx2 l).1.map inB).flatten ++ sizV (rx3 l).1.length ++ ((rx3 l).1.map outB).flatten ++ leN 4 (rx4 l).1 = _
    simp only [List.append_assoc]
  rw [et]
  rw [e1] at b1 b2
  generalize sizV (rx2 l).1.length ++ ((rx2 l).1.map inB).flatten = BI at *
  generalize sizV (rx3 l).1.length ++ ((rx3 l).1.map outB).flatten = BO at *
  rw [b2] at c1 c2
  rw [c2] at d1 d2
  simp only at c1 c2 d1 d2
  refine ⟨At.app (At.app (At.app a1 ?_) ?_) ?_,?_,⟨a3,fun o ho => (b4 o ho).1,fun o ho => (c4 o ho).1,d3⟩,b3,c3,fun o ho => (b4 o ho).2,fun o ho => (c4 o ho).2⟩
  · rw [leN_len]; exact b1
  · rw [List.length_append,leN_len]
    have : 0 + (4 + BI.length) = 4 + BI.length := by omega
    show At l (0 + (4 + BI.length),false) BO
    rw [this]; exact c1
  · rw [List.length_append,List.length_append,leN_len]
    show At l (0 + (4 + BI.length + BO.length),false) _
    rw [Nat.zero_add]; exact d1
  · show (rx4 l).2 = _
    rw [d2]
    simp only [List.length_append,leN_len]
theorem at_t (l : List Nat) (t : TxQ) (ok : t.ok) (ck : ckOk t) (h : At l (0,false) (txB t)) : rxT l = (t,(txB t).length,false) := by
  obtain ⟨⟨i1,i2⟩,⟨o1,o2⟩,s1,s2⟩ := ck
  have et : txB t = leN 4 t.ver ++ (sizV t.ins.length ++ (t.ins.map inB).flatten) ++ (sizV t.outs.length ++ (t.outs.map outB).flatten) ++ leN 4 t.lock := by
    unfold txB; simp only [List.append_assoc]
  have lt : (txB t).length = 4 + (sizV t.ins.length ++ (t.ins.map inB).flatten).length + (sizV t.outs.length ++ (t.outs.map outB).flatten).length + 4 := by
    rw [et,List.length_append,List.length_append,List.length_append,leN_len,leN_len]
  rw [et] at h
  have a1 : rx1 l = (t.ver,0 + 4,false) := at_w l _ t.ver ok.v1 h.left.left.left
  have b0 := h.left.left.right
  rw [leN_len] at b0
  have b1 : rx2 l = (t.ins,0 + 4 + (sizV t.ins.length ++ (t.ins.map inB).flatten).length,false) := by
    unfold rx2; rw [a1]
    exact at_lst rxI inB (fun o => o.ok ∧ o.l.length ≤ 2000) l (fun s o ho ha => at_i l s o ho.1 ho.2 ha) _ t.ins i1 i2 (fun o ho => ⟨ok.io o ho,s1 o ho⟩) b0
  have c0 := h.left.right
  rw [List.length_append,leN_len] at c0
  have c1 : rx3 l = (t.outs,0 + 4 + (sizV t.ins.length ++ (t.ins.map inB).flatten).length + (sizV t.outs.length ++ (t.outs.map outB).flatten).length,false) := by
    unfold rx3; rw [b1]
    exact at_lst rxO outB (fun o => o.ok ∧ o.l.length ≤ 2000) l (fun s o ho ha => at_o l s o ho.1 ho.2 ha) _ t.outs o1 o2 (fun o ho => ⟨ok.oo o ho,s2 o ho⟩) (by rw [← Nat.add_assoc] at c0; exact c0)
  have d0 := h.right
  rw [List.length_append,List.length_append,leN_len] at d0
  have d1 : rx4 l = (t.lock,0 + 4 + (sizV t.ins.length ++ (t.ins.map inB).flatten).length + (sizV t.outs.length ++ (t.outs.map outB).flatten).length + 4,false) := by
    unfold rx4; rw [c1]
    exact at_w l _ t.lock ok.l1 (by rw [← Nat.add_assoc,← Nat.add_assoc] at d0; exact d0)
  unfold rxT
  rw [a1,b1,c1,d1,lt]
  try simp only [Nat.zero_add]
/-- what is read of the first bytes is read of all -/
theorem rxT_take (l : List Nat) (bl : byt l = true) (k : Nat) (h : (rxT (l.take k)).2.2 = false) : rxT l = rxT (l.take k) := by
  obtain ⟨a,e,ok,ck⟩ := t_at (l.take k) (byt_take bl k) h
  obtain ⟨_,r,hr⟩ := a
  have hr' : l.take k = txB (rxT (l.take k)).1 ++ r := hr
  have := at_t l (rxT (l.take k)).1 ok ck ⟨rfl,r ++ l.drop k,by rw [← List.append_assoc,← hr',List.take_append_drop]; rfl⟩
  rw [this,← e]
end Go.Eng
namespace Go.Eng
open Go
variable {E : Nat → Option Fn} {X : Orc}
set_option linter.unusedSimpArgs false
set_option linter.unusedVariables false
def pw (i : Nat) : Nat := 512 * 2 ^ i
theorem pw_le (i : Nat) (h : i ≤ 18) : pw i ≤ 134217728 := by
  unfold pw
  have : 2 ^ i ≤ 2 ^ 18 := Nat.pow_le_pow_right (by omega) h
  omega
theorem least_or (p : Nat → Bool) : ∀ n,(∀ i,i < n → p i = false) ∨ ∃ j,j < n ∧ p j = true ∧ ∀ i,i < j → p i = false := by
  intro n
  induction n with
  | zero => exact .inl (fun i hi => by omega)
  | succ n ih =>
    rcases ih with ih | ⟨j,h1,h2,h3⟩
    · cases hp : p n with
      | true => exact .inr ⟨n,by omega,hp,ih⟩
      | false => exact .inl (fun i hi => by
          by_cases h : i < n
          · exact ih i h
          · have : i = n := by omega
            rw [this]; exact hp)
    · exact .inr ⟨j,by omega,h2,h3⟩
structure FsI (v0 : V) (q i : Nat) (h0 : H) (T : Tr V) (h : H) : Prop where
  t0 : evO T (.t 0) = v0
  t2 : evO T (.t 2) = .ptr (some (q,0))
  t5 : evO T (.t 5) = .int .i64 (pw i : Int)
  g : ∃ vs,h.get q = some (.cells vs .rw) ∧ vs.length = 4
  kp : Kp h0 h
  lt : q < h.next
def Z4 : List V := [.int .u32 0,.slice none 0 (some 0) 0,.slice none 0 (some 0) 0,.int .u32 0]
theorem fitZ4 : Fit 4 Z4 := ⟨rfl,rfl⟩
theorem rdRes_f (l : List Nat) (P : List V) (h : (rxT l).2.2 = true) : rdRes l P = .tup [.agg Z4,.int .i64 0,.int .i64 60] := by unfold rdRes; rw [h]; rfl
theorem rdRes_t (l : List Nat) (P : List V) (h : (rxT l).2.2 = false) : rdRes l P = .tup [.agg P,.int .i64 ((rxT l).2.1 : Nat),.int .i64 0] := by unfold rdRes; rw [h]
theorem fs_round (e : EnRr E) (x : NoRr X) (K m : Nat) (hK : 100 < K) (l : List Nat) (bl : byt l = true) (hl : l.length ≤ 100000000) (a0 : Option (Nat × Nat)) (c0 : Option Nat) (e0 : Nat) (hc : l ≠ [] → c0 = none ∧ e0 = 1) (q : Nat) (h0 : H) (hq : h0.next ≤ q) (src : SrcH h0 a0 e0 l) (i : Nat) (hi : i ≤ 18) (hp : pw i < l.length) (T : Tr V) (h : H) (I : FsI (.slice a0 l.length c0 e0) q i h0 T h) :
    ((rxT (l.take (pw i))).2.2 = true → ∃ T' h',evC (callX E X (K + 21)) 30 m none L_tx_First_0 ⟨T,[],h⟩ = some (.normal,⟨T',[],h'⟩) ∧ FsI (.slice a0 l.length c0 e0) q (i + 1) h0 T' h') ∧
    ((rxT (l.take (pw i))).2.2 = false → ∃ T' h' P,evC (callX E X (K + 21)) 30 m none L_tx_First_0 ⟨T,[],h⟩ = some (.ret,⟨T',[],h'⟩) ∧ evO T' (.t 2) = .ptr (some (q,0)) ∧ h'.get q = some (.cells P .rw) ∧ evO T' (.t 3) = .int .i64 ((rxT l).2.1 : Nat) ∧ evO T' (.t 4) = .int .i64 0 ∧ Kp h0 h' ∧ TxC (fun j => h0.next ≤ j) h' (rxT l).1 P) := by
  obtain ⟨t0,t2,t5,⟨vs,g,lv⟩,kp,lq⟩ := I
  obtain ⟨rfl,rfl⟩ := hc (by intro h; rw [h] at hp; simp at hp)
  have lt : (l.take (pw i)).length = pw i := by rw [List.length_take]; omega
  have hpl := pw_le i hi
  obtain ⟨h1,P,r1,k1,tc,le1⟩ := txread_go e x K hK (l.take (pw i)) (byt_take bl _) (by omega) a0 none 1 h ((src.mono kp).take (pw i))
  rw [lt] at r1
  have kn := kp.1
  have kn1 := k1.1
  have sl := slcV_hiA l.length (pw i) a0 .i64 (by omega)
  have c0' : decide ((pw i : Int) < (l.length : Int)) = true := decide_eq_true (by omega)
  have wm : wr .i64 ((pw i : Int) * 2) = (pw (i + 1) : Int) := by
    rw [wr_i64 (by omega)]; unfold pw; rw [Nat.pow_succ]; omega
  have g1 : h1.get q = some (.cells vs .rw) := by rw [k1.2 _ lq,g]
  constructor
  · intro hf
    rw [rdRes_f _ _ hf] at r1
    have st := fun h i => fit_st fitZ4 h i
    have pu := fun h i => fit_put fitZ4 h i vs lv
    have z : decide ((60 : Int) = 0) = false := rfl
    have l4 : Z4.length = 4 := rfl
    generalize Z4 = z4 at *
    obtain ⟨pi,epi⟩ : ∃ p,pw i = p := ⟨_,rfl⟩
    rw [epi] at t5 r1 sl c0' wm
    obtain ⟨n,en⟩ : ∃ n,l.length = n := ⟨_,rfl⟩
    rw [en] at t0 sl c0'
    have kF : Kp h0 (h1.put q (.cells z4 .rw)) := ⟨by show h0.next ≤ h1.next; omega,fun j hj => by rw [h_put_ne _ _ (by omega),k1.2 _ (by omega),kp.2 _ hj]⟩
    exact ⟨_,_,by
      simp (config := {maxSteps := 2000000}) (disch := first | omega | (simp only [List.length_cons,List.length_nil,List.length_append,List.length_drop]; omega)) only [L_tx_First_0,t0,t2,t5,c0',sl,r1,g1,st,pu,wm,↓x_slcS,x_M0,x_M1,↓s_len,x_lenS,↓m_st,m_stE,x_lenS,↓s_len,Int.reduceEq,↓s_skip,↓s_ops,↓s_seq,↓s_cond,↓s_block,↓s_nil,↓s_op,↓s_bindS,s_bindS,↓s_bindE,s_bindE,s_norm,↓s_condV,s_condV,s_block_normal,↓s_getp,↓s_getp0,↓s_con,↓s_os0,↓s_os1,↓s_mov,↓s_bin,↓s_call,↓s_ext,s_same,b_eql,b_lss,b_mul,↓iteN_true,↓iteN_false,iteN_true,iteN_false,Nat.reduceEqDiff,decide_true,decide_false,List.getElem?_cons_zero,List.getElem?_cons_succ]
      exact rfl,⟨by rw [en]; exact (by (simp only [s_getp,s_getp0,Nat.reduceEqDiff,decide_false,iteN_false,t0]; try rfl)),(by (simp only [s_getp,s_getp0,Nat.reduceEqDiff,decide_false,iteN_false,t2]; try rfl)),(by (simp only [s_getp,decide_true,iteN_true]; try rfl)),⟨_,h_put_same _ _ _,l4⟩,kF,by show q < h1.next; omega⟩⟩
  · intro hf
    rw [rdRes_t _ _ hf] at r1
    have eT := rxT_take l bl (pw i) hf
    rw [← eT] at r1 tc
    have fi := tc.fit
    have st := fun h i => fit_st fi h i
    have pu := fun h i => fit_put fi h i vs lv
    have pu2 := fun h i => fit_put fi h i P fi.1
    have ld := fun m => fit_ld fi m
    have z : decide ((0 : Int) = 0) = true := rfl
    obtain ⟨pi,epi⟩ : ∃ p,pw i = p := ⟨_,rfl⟩
    rw [epi] at t5 r1 sl c0' wm
    obtain ⟨n,en⟩ : ∃ n,l.length = n := ⟨_,rfl⟩
    rw [en] at t0 sl c0'
    have kF : Kp h0 ((h1.put q (.cells P .rw)).put q (.cells P .rw)) := ⟨by show h0.next ≤ h1.next; omega,fun j hj => by rw [h_put_ne _ _ (by omega),h_put_ne _ _ (by omega),k1.2 _ (by omega),kp.2 _ hj]⟩
    have tF : TxC (fun j => h0.next ≤ j) ((h1.put q (.cells P .rw)).put q (.cells P .rw)) (rxT l).1 P := by
      refine itTx.mono tc (Nat.le_refl _) (fun j hj _ => ?_) (fun j hj _ => by have : h.next ≤ j := hj; show h0.next ≤ j; omega)
      have : h.next ≤ j := hj
      rw [h_put_ne _ _ (by omega),h_put_ne _ _ (by omega)]
    generalize (rxT l).2.1 = at_ at *
    exact ⟨_,_,P,by
      simp (config := {maxSteps := 2000000}) (disch := first | omega | (simp only [List.length_cons,List.length_nil,List.length_append,List.length_drop]; omega)) only [L_tx_First_0,t0,t2,t5,c0',sl,r1,g1,st,pu,pu2,ld,↓x_slcS,x_M0,x_M1,↓s_len,x_lenS,↓h_put_get,↓s_load,m_load,↓m_st,m_stE,x_lenS,↓s_len,↓s_skip,↓s_ops,↓s_seq,↓s_cond,↓s_block,↓s_ret,↓s_nil,↓s_op,↓s_bindS,s_bindS,↓s_bindE,s_bindE,s_bindE_ret,s_norm,↓s_condV,s_condV,s_block_ret,↓s_getp,↓s_getp0,↓s_con,↓s_os0,↓s_os1,↓s_mov,↓s_bin,↓s_call,↓s_ext,s_same,b_eql,b_lss,↓iteN_true,↓iteN_false,iteN_true,iteN_false,Nat.reduceEqDiff,decide_true,decide_false,List.getElem?_cons_zero,List.getElem?_cons_succ]
      exact rfl,(by (simp only [s_getp,s_getp0,Nat.reduceEqDiff,decide_false,iteN_false,t2]; try rfl)),h_put_same _ _ _,(by (simp only [s_getp,Nat.reduceEqDiff,decide_false,decide_true,iteN_false,iteN_true]; try rfl)),(by (simp only [s_getp,decide_true,iteN_true]; try rfl)),kF,tF⟩
theorem txfirst_go (e : EnRr E) (x : NoRr X) (K : Nat) (hK : 100 < K) (l : List Nat) (bl : byt l = true) (hl : l.length ≤ 100000000) (a0 : Option (Nat × Nat)) (c0 : Option Nat) (e0 : Nat) (hc : l ≠ [] → c0 = none ∧ e0 = 1) (h : H) (src : SrcH h a0 e0 l) :
    ∃ h' P,callX E X (K + 22) (.fn k_tx_First) [.slice a0 l.length c0 e0] h = some (rdRes l P,h') ∧ Kp h h' ∧ TxC (fun j => h.next ≤ j) h' (rxT l).1 P ∧ (rxT l).2.1 ≤ l.length ∧ Fit 4 P := by
  rw [x_cfn e.fi _ _ (Nat.le_of_ble_eq_true rfl) (x.fi _ _)]
  rw [show ([.int .u32 0,.slice none 0 (some 0) 0,.slice none 0 (some 0) 0,.int .u32 0] : List V) = Z4 from rfl]
  obtain ⟨hA,ehA⟩ : ∃ hA,h.new (.cells Z4 .rw) = hA := ⟨_,rfl⟩
  have kA : Kp h hA := by rw [← ehA]; exact Kp.new _ _
  have nA : hA.next = h.next + 1 := by rw [← ehA]; rfl
  have gA : hA.get h.next = some (.cells Z4 .rw) := by rw [← ehA]; exact h_new_same _ _
  have hle : (rxT l).2.1 ≤ l.length := by
    obtain ⟨h',P,_,_,_,le⟩ := txread_go e x K hK l bl hl a0 c0 e0 h src
    exact le
  obtain ⟨L,l1,l2,l3⟩ : ∃ L,L ≤ 18 ∧ (l.length ≤ pw L ∨ (pw L < l.length ∧ (rxT (l.take (pw L))).2.2 = false)) ∧ ∀ i,i < L → pw i < l.length ∧ (rxT (l.take (pw i))).2.2 = true := by
    rcases least_or (fun i => decide (l.length ≤ pw i) || !(rxT (l.take (pw i))).2.2) 19 with h1 | ⟨j,j1,j2,j3⟩
    · have := h1 18 (by omega)
      simp only [Bool.or_eq_false_iff,decide_eq_false_iff_not] at this
      have p18 : pw 18 = 134217728 := rfl
      omega
    · refine ⟨j,by omega,?_,fun i hi => ?_⟩
      · by_cases hj : l.length ≤ pw j
        · exact .inl hj
        · right
          simp only [Bool.or_eq_true,decide_eq_true_eq,Bool.not_eq_true'] at j2
          exact ⟨by omega,j2.resolve_left hj⟩
      · have := j3 i hi
        simp only [Bool.or_eq_false_iff,decide_eq_false_iff_not,Bool.not_eq_false'] at this
        exact ⟨by omega,this.2⟩
  have fin : ∀ T,FsI (.slice a0 l.length c0 e0) h.next 0 h T hA → ∃ h' P,fnEnd [.cell 2 (some 4),.tmp 3,.tmp 4] (bindE (blockE 0 (loopN (evC (callX E X (K + 21)) 30 (K + 21) none L_tx_First_0) (K + 21) ⟨T,[],hA⟩)) (evC (callX E X (K + 21)) 30 (K + 21) none R_tx_First_0)) = some (rdRes l P,h') ∧ Kp h h' ∧ TxC (fun j => h.next ≤ j) h' (rxT l).1 P ∧ (rxT l).2.1 ≤ l.length ∧ Fit 4 P := by
    intro T I
    rcases l2 with hz | ⟨hz,hok⟩
    · obtain ⟨T',h',rr,J⟩ := loop_go (f := evC (callX E X (K + 21)) 30 (K + 21) none L_tx_First_0) (fun i T h' => FsI (.slice a0 l.length c0 e0) h.next i h T h') L (.exit 0) (by intro h; cases h) (fun T h' => FsI (.slice a0 l.length c0 e0) h.next L h T h') (fun i T h' hi I => (fs_round e x K (K + 21) hK l bl hl a0 c0 e0 hc h.next h (Nat.le_refl _) src i (by omega) (l3 i hi).1 T h' I).1 (l3 i hi).2) (fun T h' I => by
        obtain ⟨t0,t2,t5,g,kp,lq⟩ := I
        have c0' : decide ((pw L : Int) < (l.length : Int)) = false := decide_eq_false (by omega)
        obtain ⟨pi,epi⟩ : ∃ p,pw L = p := ⟨_,rfl⟩
        rw [epi] at t5 c0'
        obtain ⟨n,en⟩ : ∃ n,l.length = n := ⟨_,rfl⟩
        rw [en] at t0 c0'
        exact ⟨_,h',by
          simp (config := {maxSteps := 2000000}) (disch := first | omega | (simp only [List.length_cons,List.length_nil,List.length_append,List.length_drop]; omega)) only [L_tx_First_0,t0,t5,c0',↓s_len,x_lenS,x_lenS,↓s_len,↓s_ops,↓s_seq,↓s_cond,↓s_exit,↓s_nil,↓s_op,↓s_bindS,s_bindS,↓s_bindE,s_bindE,s_bindE_exit,s_norm,↓s_condV,s_condV,↓s_getp,↓s_mov,↓s_bin,s_same,b_lss,↓iteN_true,↓iteN_false,iteN_true,iteN_false,Nat.reduceEqDiff,decide_true,decide_false]
          exact rfl,⟨by rw [en]; exact (by (simp only [s_getp,Nat.reduceEqDiff,decide_false,iteN_false,t0]; try rfl)),(by (simp only [s_getp,Nat.reduceEqDiff,decide_false,iteN_false,t2]; try rfl)),by rw [epi]; exact (by (simp only [s_getp,Nat.reduceEqDiff,decide_false,iteN_false,t5]; try rfl)),g,kp,lq⟩⟩) L 0 (by omega) (K + 21) (by omega) T hA I
      rw [rr]
      obtain ⟨t0,t2,t5,⟨vs,g,lv⟩,kp,lq⟩ := J
      have kn := kp.1
      obtain ⟨h1,P,r1,k1,tc,le1⟩ := txread_go e x K hK l bl hl a0 c0 e0 h' (src.mono kp)
      have kn1 := k1.1
      have g1 : h1.get h.next = some (.cells vs .rw) := by rw [k1.2 _ lq,g]
      have fi := tc.fit
      have tF : ∀ b,TxC (fun j => h.next ≤ j) (h1.put h.next b) (rxT l).1 P := fun b =>
        itTx.mono tc (Nat.le_refl _) (fun j hj _ => by have : h'.next ≤ j := hj; exact h_put_ne _ _ (by omega)) (fun j hj _ => by have : h'.next ≤ j := hj; show h.next ≤ j; omega)
      have kF : ∀ b,Kp h (h1.put h.next b) := fun b => ⟨by show h.next ≤ h1.next; omega,fun j hj => by rw [h_put_ne _ _ (by omega),k1.2 _ (by omega),kp.2 _ hj]⟩
      have stZ := fun h i => fit_st fitZ4 h i
      have puZ := fun h i => fit_put fitZ4 h i vs lv
      have ldZ := fun m => fit_ld fitZ4 m
      have st := fun h i => fit_st fi h i
      have pu := fun h i => fit_put fi h i vs lv
      have ld := fun m => fit_ld fi m
      cases hf : (rxT l).2.2 with
      | true =>
        refine ⟨h1.put h.next (.cells Z4 .rw),P,?_,kF _,tF _,hle,fi⟩
        rw [rdRes_f _ _ hf] at r1 ⊢
        generalize Z4 = z4 at *
        generalize l.length = n at *
        simp (config := {maxSteps := 2000000}) (disch := first | omega | (simp only [List.length_cons,List.length_nil,List.length_append,List.length_drop]; omega)) only [R_tx_First_0,t0,t2,r1,g1,stZ,puZ,ldZ,↓h_put_get,m_load,↓m_st,m_stE,s_resc,s_consR,s_res0,↓s_ops,↓s_seq,↓s_ret,↓s_nil,↓s_op,↓s_bindS,s_bindS,↓s_bindE,s_bindE,s_norm,s_block_exit,↓s_getp,↓s_getp0,↓s_os0,↓s_os1,↓s_mov,↓s_call,↓s_ext,s_same,s_end,s_res0,s_res1,s_tup2,↓iteN_true,↓iteN_false,iteN_true,iteN_false,Nat.reduceEqDiff,decide_true,decide_false,List.getElem?_cons_zero,List.getElem?_cons_succ,if_true]
        try rfl
      | false =>
        refine ⟨h1.put h.next (.cells P .rw),P,?_,kF _,tF _,hle,fi⟩
        rw [rdRes_t _ _ hf] at r1 ⊢
        generalize (rxT l).2.1 = at_ at *
        generalize l.length = n at *
        simp (config := {maxSteps := 2000000}) (disch := first | omega | (simp only [List.length_cons,List.length_nil,List.length_append,List.length_drop]; omega)) only [R_tx_First_0,t0,t2,r1,g1,st,pu,ld,↓h_put_get,m_load,↓m_st,m_stE,s_resc,s_consR,s_res0,↓s_ops,↓s_seq,↓s_ret,↓s_nil,↓s_op,↓s_bindS,s_bindS,↓s_bindE,s_bindE,s_norm,s_block_exit,↓s_getp,↓s_getp0,↓s_os0,↓s_os1,↓s_mov,↓s_call,↓s_ext,s_same,s_end,s_res0,s_res1,s_tup2,↓iteN_true,↓iteN_false,iteN_true,iteN_false,Nat.reduceEqDiff,decide_true,decide_false,List.getElem?_cons_zero,List.getElem?_cons_succ,if_true]
        try rfl
    · obtain ⟨T',h',rr,P,t2,g,t3,t4,kp,tc⟩ := loop_go (f := evC (callX E X (K + 21)) 30 (K + 21) none L_tx_First_0) (fun i T h' => FsI (.slice a0 l.length c0 e0) h.next i h T h') L .ret (by intro h; cases h) (fun T h' => ∃ P,evO T (.t 2) = .ptr (some (h.next,0)) ∧ h'.get h.next = some (.cells P .rw) ∧ evO T (.t 3) = .int .i64 ((rxT l).2.1 : Nat) ∧ evO T (.t 4) = .int .i64 0 ∧ Kp h h' ∧ TxC (fun j => h.next ≤ j) h' (rxT l).1 P) (fun i T h' hi I => (fs_round e x K (K + 21) hK l bl hl a0 c0 e0 hc h.next h (Nat.le_refl _) src i (by omega) (l3 i hi).1 T h' I).1 (l3 i hi).2) (fun T h' I => by
        obtain ⟨T',h'',P,q1,q2,q3,q4,q5,q6,q7⟩ := (fs_round e x K (K + 21) hK l bl hl a0 c0 e0 hc h.next h (Nat.le_refl _) src L (by omega) hz T h' I).2 hok
        exact ⟨T',h'',q1,P,q2,q3,q4,q5,q6,q7⟩) L 0 (by omega) (K + 21) (by omega) T hA I
      rw [rr]
      have hf : (rxT l).2.2 = false := by rw [rxT_take l bl _ hok]; exact hok
      refine ⟨h',P,?_,kp,tc,hle,tc.fit⟩
      rw [rdRes_t _ _ hf]
      have ld := fun m => fit_ld tc.fit m
      generalize (rxT l).2.1 = at_ at *
      simp (config := {maxSteps := 2000000}) (disch := first | omega | (simp only [List.length_cons,List.length_nil,List.length_append,List.length_drop]; omega)) only [t2,t3,t4,g,ld,m_load,s_resc,s_consR,s_res0,s_bindE_ret,s_block_ret,s_end,s_res0,s_res1,s_tup2]
      try rfl
  obtain ⟨R,eR⟩ : ∃ R,R_tx_First_0 = R := ⟨_,rfl⟩
  obtain ⟨Lo,eL⟩ : ∃ R,L_tx_First_0 = R := ⟨_,rfl⟩
  rw [eR,eL] at fin ⊢
  have p0 : pw 0 = 512 := rfl
  have fin' := fun T q0 q2 q5 => fin T ⟨q0,q2,q5,⟨Z4,gA,rfl⟩,kA,by omega⟩
  rw [p0] at fin'
  clear fin
  generalize Z4 = z4 at *
  generalize l.length = n at *
  simp (config := {maxSteps := 2000000}) (disch := first | omega | (simp only [List.length_cons,List.length_nil,List.length_append,List.length_drop]; omega)) only [ehA,↓l_loop,↓l_succ,↓s_alloc,↓s_ops,↓s_seq,↓s_block,↓s_nil,↓s_op,↓s_bindS,s_bindS,↓s_bindE,s_bindE,s_norm,↓s_con,↓s_list0,↓s_list1,↓s_mov]
  exact fin' _ (by (simp only [s_getp,Nat.reduceEqDiff,decide_false,iteN_false]; try rfl)) (by (simp only [s_getp,Nat.reduceEqDiff,decide_false,decide_true,iteN_false,iteN_true]; try rfl)) (by (simp only [s_getp,decide_true,iteN_true]; try rfl))
theorem txdecode_go (e : EnRr E) (x : NoRr X) (K : Nat) (hK : 100 < K) (l : List Nat) (bl : byt l = true) (hl : l.length ≤ 100000000) (a0 : Option (Nat × Nat)) (c0 : Option Nat) (e0 : Nat) (hc : l ≠ [] → c0 = none ∧ e0 = 1) (h : H) (src : SrcH h a0 e0 l) :
    ∃ h',Kp h h' ∧ (((rxT l).2 = (l.length,false) ∧ ∃ P,callX E X (K + 23) (.fn k_tx_Decode) [.slice a0 l.length c0 e0] h = some (.tup [.agg P,.int .i64 0],h') ∧ TxC (fun j => h.next ≤ j) h' (rxT l).1 P) ∨ ((rxT l).2 ≠ (l.length,false) ∧ callX E X (K + 23) (.fn k_tx_Decode) [.slice a0 l.length c0 e0] h = some (.tup [.agg Z4,.int .i64 60],h'))) := by
  rw [x_cfn e.de _ _ (Nat.le_of_ble_eq_true rfl) (x.de _ _)]
  rw [show ([.int .u32 0,.slice none 0 (some 0) 0,.slice none 0 (some 0) 0,.int .u32 0] : List V) = Z4 from rfl]
  obtain ⟨hA,ehA⟩ : ∃ hA,h.new (.cells Z4 .rw) = hA := ⟨_,rfl⟩
  have kA : Kp h hA := by rw [← ehA]; exact Kp.new _ _
  have nA : hA.next = h.next + 1 := by rw [← ehA]; rfl
  have gA : hA.get h.next = some (.cells Z4 .rw) := by rw [← ehA]; exact h_new_same _ _
  obtain ⟨h1,P,r1,k1,tc,le,fi⟩ := txfirst_go e x K hK l bl hl a0 c0 e0 hc hA (src.mono kA)
  have kn1 := k1.1
  have g1 : h1.get h.next = some (.cells Z4 .rw) := by rw [k1.2 _ (by omega),gA]
  have stZ := fun h i => fit_st fitZ4 h i
  have puZ := fun h i => fit_put fitZ4 h i Z4 rfl
  have ldZ := fun m => fit_ld fitZ4 m
  have st := fun h i => fit_st fi h i
  have pu := fun h i => fit_put fi h i Z4 rfl
  have ld := fun m => fit_ld fi m
  have fz : fillV Z4 [] = some Z4 := rfl
  have lZ : Z4.length = 4 := rfl
  have cel : ∀ l : List V,(V.agg l).cells = l := fun _ => rfl
  -- the second block
  have key : ∀ (Q : List V),Fit 4 Q → ∃ h2,(h1.new (.cells Z4 .rw)).put h1.next (.cells Q .rw) = h2 ∧ h2.get h1.next = some (.cells Q .rw) ∧ h2.get h.next = some (.cells Z4 .rw) ∧ h2.next = h1.next + 1 ∧ ∀ j,j < h1.next → h2.get j = h1.get j := fun Q _ => ⟨_,rfl,h_put_same _ _ _,by rw [h_put_ne _ _ (by omega),h_new_ne _ _ (by omega),g1],rfl,fun j hj => by rw [h_put_ne _ _ (by omega),h_new_ne _ _ (by omega)]⟩
  have gz : (h1.new (.cells Z4 .rw)).get h1.next = some (.cells Z4 .rw) := h_new_same _ _
  have kF : ∀ (h2 : H) b,h2.next = h1.next + 1 → (∀ j,j < h1.next → h2.get j = h1.get j) → Kp h (h2.put h.next b) := fun h2 b n2 f2 => ⟨by show h.next ≤ h2.next; omega,fun j hj => by rw [h_put_ne _ _ (by omega),f2 _ (by omega),k1.2 _ (by omega),kA.2 _ hj]⟩
  cases hf : (rxT l).2.2 with
  | true =>
    obtain ⟨h2,e2,g21,g22,n2,f2⟩ := key Z4 fitZ4
    refine ⟨h2.put h.next (.cells Z4 .rw),kF h2 _ n2 f2,.inr ⟨(by intro h; rw [h] at hf; cases hf),?_⟩⟩
    rw [rdRes_f _ _ hf] at r1
    have z : decide ((60 : Int) = 0) = false := rfl
    generalize Z4 = z4 at *
    generalize l.length = n at *
    simp (config := {maxSteps := 2000000}) (disch := first | omega | (simp only [List.length_cons,List.length_nil,List.length_append,List.length_drop]; omega)) only [ehA,r1,stZ,puZ,ldZ,e2,g22,Bool.not_false,fz,↓x_build,x_aggO,↓h_put_get,↓h_new_get,m_load,↓m_st,m_stE,↓s_alloc,↓x_P0,Int.reduceEq,s_resc,s_consR,s_res0,↓s_ops,↓s_seq,↓s_cond,↓s_ret,↓s_nil,↓s_op,↓s_opg,↓s_wanted',↓s_wantV,s_wantV,beq_false,↓s_bindS,s_bindS,↓s_bindE,s_bindE,s_bindE_ret,s_norm,↓s_condV,s_condV,↓s_getp,↓s_getp0,↓s_get,↓s_con,↓s_os0,↓s_os1,↓s_list0,↓s_list1,↓s_mov,↓s_pick,↓s_pickE,s_pickE,↓s_bin,↓s_call,↓s_ext,s_same,b_neq,s_end,s_res0,s_res1,s_tup2,↓iteN_true,↓iteN_false,iteN_true,iteN_false,Nat.reduceEqDiff,decide_true,decide_false,Bool.not_true,Bool.not_false,List.getElem?_cons_zero,List.getElem?_cons_succ]
    try rfl
  | false =>
    rw [rdRes_t _ _ hf] at r1
    obtain ⟨h2,e2,g21,g22,n2,f2⟩ := key P fi
    have z : decide ((0 : Int) = 0) = true := rfl
    by_cases hn : (rxT l).2.1 = l.length
    · refine ⟨h2.put h.next (.cells P .rw),kF h2 _ n2 f2,.inl ⟨Prod.ext hn hf,P,?_,?_⟩⟩
      · rw [hn] at r1
        have c1 : decide ((l.length : Int) < (l.length : Int)) = false := decide_eq_false (by omega)
        generalize Z4 = z4 at *
        generalize l.length = n at *
        simp (config := {maxSteps := 2000000}) (disch := first | omega | (simp only [List.length_cons,List.length_nil,List.length_append,List.length_drop]; omega)) only [ehA,r1,st,pu,ld,e2,g21,g22,c1,Bool.not_true,↓s_len,x_lenS,↓h_put_get,↓h_new_get,↓s_load,m_load,↓m_st,m_stE,↓s_alloc,x_lenS,↓s_len,s_resc,s_consR,s_res0,↓s_skip,↓s_ops,↓s_seq,↓s_cond,↓s_ret,↓s_nil,↓s_op,↓s_opg,↓s_wanted',↓s_wantV,s_wantV,↓s_bindS,s_bindS,↓s_bindE,s_bindE,s_norm,↓s_condV,s_condV,↓s_getp,↓s_getp0,↓s_get,↓s_con,↓s_os0,↓s_os1,↓s_list0,↓s_list1,↓s_mov,↓s_pick,↓s_pickE,s_pickE,↓s_bin,↓s_call,↓s_ext,s_same,b_neq,b_lss,s_end,s_res0,s_res1,s_tup2,↓iteN_true,↓iteN_false,iteN_true,iteN_false,Nat.reduceEqDiff,decide_true,decide_false,Bool.not_true,List.getElem?_cons_zero,List.getElem?_cons_succ,beq_self_eq_true]
        try rfl
      · exact itTx.mono tc (by show h1.next ≤ h2.next; omega) (fun j hj hj2 => by have : hA.next ≤ j := hj; rw [h_put_ne _ _ (by omega),f2 _ hj2]) (fun j hj _ => by have : hA.next ≤ j := hj; show h.next ≤ j; omega)
    · refine ⟨h2.put h.next (.cells Z4 .rw),kF h2 _ n2 f2,.inr ⟨fun h => hn (by rw [h]),?_⟩⟩
      have c1 : decide (((rxT l).2.1 : Int) < (l.length : Int)) = true := decide_eq_true (by omega)
      generalize Z4 = z4 at *
      generalize l.length = n at *
      generalize (rxT l).2.1 = at_ at *
      simp (config := {maxSteps := 2000000}) (disch := first | omega | (simp only [List.length_cons,List.length_nil,List.length_append,List.length_drop]; omega)) only [ehA,r1,stZ,st,puZ,pu,ldZ,e2,g22,c1,fz,Bool.not_true,↓x_build,x_aggO,↓s_len,x_lenS,↓h_put_get,↓h_new_get,m_load,↓m_st,m_stE,↓s_alloc,x_lenS,↓s_len,↓x_P0,s_resc,s_consR,s_res0,↓s_ops,↓s_seq,↓s_cond,↓s_ret,↓s_nil,↓s_op,↓s_opg,↓s_wanted',↓s_wantV,s_wantV,↓s_bindS,s_bindS,↓s_bindE,s_bindE,s_bindE_ret,s_norm,↓s_condV,s_condV,↓s_getp,↓s_getp0,↓s_get,↓s_con,↓s_os0,↓s_os1,↓s_list0,↓s_list1,↓s_mov,↓s_pick,↓s_pickE,s_pickE,↓s_bin,↓s_call,↓s_ext,s_same,b_neq,b_lss,s_end,s_res0,s_res1,s_tup2,↓iteN_true,↓iteN_false,iteN_true,iteN_false,Nat.reduceEqDiff,decide_true,decide_false,Bool.not_true,List.getElem?_cons_zero,List.getElem?_cons_succ,beq_self_eq_true]
      try rfl
end Go.Eng
namespace Go.Eng
open Go
variable {E : Nat → Option Fn} {X : Orc}
set_option linter.unusedSimpArgs false
set_option linter.unusedVariables false
theorem inB_byt (o : InQ) (ok : o.ok) : byt (inB o) = true := by
  unfold inB
  exact byt_app (byt_app (byt_app ok.bt (leN_byt _ _)) (byt_app (sizV_byt _) ok.bl)) (leN_byt _ _)
theorem outB_byt (o : OutQ) (ok : o.ok) : byt (outB o) = true := by
  unfold outB
  exact byt_app (leN_byt _ _) (byt_app (sizV_byt _) ok.bl)
theorem flat_byt {α : Type} (f : α → List Nat) (l : List α) (h : ∀ o ∈ l,byt (f o) = true) : byt (l.map f).flatten = true := by
  induction l with
  | nil => rfl
  | cons a r ih =>
    rw [List.map_cons,List.flatten_cons]
    exact byt_app (h a (List.mem_cons_self ..)) (ih (fun o ho => h o (List.mem_cons_of_mem _ ho)))
theorem txB_byt (t : TxQ) (ok : t.ok) : byt (txB t) = true := by
  unfold txB
  exact byt_app (byt_app (byt_app (byt_app (byt_app (leN_byt _ _) (sizV_byt _)) (flat_byt _ _ (fun o ho => inB_byt o (ok.io o ho)))) (sizV_byt _)) (flat_byt _ _ (fun o ho => outB_byt o (ok.oo o ho)))) (leN_byt _ _)
theorem Wb.hc {h : H} {w : List Nat} {a : Option (Nat × Nat)} {c : Option Nat} {e : Nat} (s : Wb h w a c e) : w ≠ [] → c = none ∧ e = 1 := by
  rcases s with ⟨h1,_⟩ | ⟨_,q,md,_,h3,h4,_⟩
  · intro h; exact absurd h1 h
  · intro _; exact ⟨h3,h4⟩
structure NoTb (X : Orc) : Prop where
  te : NoTe X
  tc : NoTc X
  gr : ∀ a h,X (.fn k_purserref06_Great) a h = none
  rr : NoRr X
  ts : NoTs X
theorem NoTb.al : NoTb (alT k_purserlaw06_alive) := by repeat' (first | exact fun _ _ => rfl | exact fun _ _ _ => rfl | exact fun _ => rfl | constructor)
theorem gt_of {t : TxQ} (h : ckOk t) : gtOk t := ⟨by have := h.1.2; omega,by have := h.2.1.2; omega,fun o ho => by have := h.2.2.1 o ho; omega,fun o ho => by have := h.2.2.2 o ho; omega⟩
end Go.Eng
