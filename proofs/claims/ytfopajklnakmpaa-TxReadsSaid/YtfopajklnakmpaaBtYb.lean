/- What functions of the program come to: own work. -/
import Derived.Test.YtfopajklnakmpaaBtYa
namespace Go.Eng
open Go
variable {E : Nat → Option Fn} {X : Orc}
set_option linter.unusedSimpArgs false
set_option linter.unusedVariables false
/-- First,within its inputs: what stands in t,and where it reads -/
structure DfI (a0 : Option (Nat × Nat)) (len : Nat) (r2 w : Nat) (v6 : V) (n : Nat) (u s2 v : V) (hB : H) (dn : List InQ) (at_ : Nat) (T : Tr V) (h : H) : Prop where
  t0 : evO T (.t 0) = .slice a0 len none 1
  t2 : evO T (.t 2) = .ptr (some (r2,0))
  t5 : evO T (.t 5) = .ptr (some (w,0))
  t6 : evO T (.t 6) = v6
  t7 : evO T (.t 7) = .int .i64 (at_ : Int)
  t9 : evO T (.t 9) = .int .u64 (n : Int)
  ti : evO T (.t 10) = .int .i64 (dn.length : Int)
  row : ∃ a c ez,h.get w = some (.cells [u,.slice a dn.length c ez,s2,v] .rw) ∧ RowF (fun j => hB.next ≤ j) hB.next 35 InC h dn a c ez
  nx : hB.next ≤ h.next
  fr : ∀ j,j < hB.next → j ≠ w → h.get j = hB.get j
theorem dfI_step (e : EnDr E) (x : NoDr X) (N m : Nat) (hN : 40 < N) (l : List Nat) (bl : byt l = true) (hl : l.length ≤ 100000000) (a0 : Option (Nat × Nat)) (r2 w : Nat) (v6 : V) (n : Nat) (hn : n ≤ 50) (u s2 v : V) (hB : H) (src : SrcH hB a0 1 l) (hw : w < hB.next) (aw : ∀ q o,a0 = some (q,o) → q ≠ w) (dn : List InQ) (hdn : dn.length < n) (at_ : Nat) (hat : at_ ≤ l.length) (T : Tr V) (h : H) (I : DfI a0 l.length r2 w v6 n u s2 v hB dn at_ T h) (ok : (rxI l (at_,false)).2.2 = false) :
    ∃ T' h',evC (callX E X (N + 24)) 125 m none L_purserref06_First_0 ⟨T,[],h⟩ = some (.normal,⟨T',[],h'⟩) ∧ (rxI l (at_,false)).2.1 ≤ l.length ∧ DfI a0 l.length r2 w v6 n u s2 v hB (dn ++ [(rxI l (at_,false)).1]) (rxI l (at_,false)).2.1 T' h' := by
  obtain ⟨t0,t2,t5,t6,t7,t9,ti,⟨a,c,ez,gw,row⟩,nx,fr⟩ := I
  have src' : SrcH h a0 1 l := by
    rcases src with hh | ⟨bi,off,vs,md,h1,h2,h3,h4,h5⟩
    · exact .inl hh
    · exact .inr ⟨bi,off,vs,md,h1,h2,by omega,by rw [fr _ h3 (aw _ _ h1),h4],h5⟩
  rcases din_go e x N hN l bl hl at_ hat a0 h src' with ⟨_,la,h1,b,cb,eb,r1,nw1⟩ | ⟨bad,_⟩
  rotate_left
  · rw [ok] at bad; cases bad
  obtain ⟨o,eo⟩ : ∃ o,(rxI l (at_,false)).1 = o := ⟨_,rfl⟩
  have l32 : o.tx.length = 32 := by rw [← eo]; exact rdH_len l (at_,false)
  obtain ⟨p',ep⟩ : ∃ p,(rxI l (at_,false)).2.1 = p := ⟨_,rfl⟩
  rw [eo,ep] at r1
  rw [ep] at la
  rw [eo] at nw1
  rw [eo,ep]
  have k1 := nw1.kp
  have kn1 := k1.1
  obtain ⟨Z,eZ⟩ : ∃ Z : List V,[.int .u8 0,.int .u8 0,.int .u8 0,.int .u8 0,.int .u8 0,.int .u8 0,.int .u8 0,.int .u8 0,.int .u8 0,.int .u8 0,.int .u8 0,.int .u8 0,.int .u8 0,.int .u8 0,.int .u8 0,.int .u8 0,.int .u8 0,.int .u8 0,.int .u8 0,.int .u8 0,.int .u8 0,.int .u8 0,.int .u8 0,.int .u8 0,.int .u8 0,.int .u8 0,.int .u8 0,.int .u8 0,.int .u8 0,.int .u8 0,.int .u8 0,.int .u8 0,.int .u32 0,.slice none 0 (some 0) 0,.int .u32 0] = Z := ⟨_,rfl⟩
  have lZ : Z.length = 35 := by rw [← eZ]; rfl
  obtain ⟨Q,eQ⟩ : ∃ Q,inV o b cb eb = Q := ⟨_,rfl⟩
  rw [eQ] at r1
  have s1 : SrcS (fun j => h.next ≤ j) h1 b eb o.l := nw1.toS (fun j => h.next ≤ j) (fun j hj => hj)
  have ic1 : InC (fun j => h.next ≤ j) h1 o Q := ⟨b,cb,eb,eQ.symm,s1,l32⟩
  have fQ := itIn.fit ic1
  have stQ := fun h i => fit_st fQ h i
  have puQ := fun h i => fit_put fQ h i Z lZ
  have ldQ := fun m => fit_ld fQ m
  obtain ⟨q,eq⟩ : ∃ q,h1.next = q := ⟨_,rfl⟩
  have gz : (h1.new (.cells Z .rw)).get q = some (.cells Z .rw) := by rw [← eq]; exact h_new_same _ _
  obtain ⟨h3,eh3⟩ : ∃ h3,(h1.new (.cells Z .rw)).put q (.cells Q .rw) = h3 := ⟨_,rfl⟩
  have k3 : Kp h1 h3 := by rw [← eh3]; (repeat (first | exact Kp.refl _ | refine Kp.put ?_ _ (by first | omega | (simp only [h_next_put,h_next_new,h_next_del]; omega)) | refine Kp.del ?_ (by first | omega | (simp only [h_next_put,h_next_new,h_next_del]; omega)) | refine Kp.trans ?_ (Kp.new _ _)))
  have n3 : h3.next = h1.next + 1 := by rw [← eh3]; rfl
  have g3 : h3.get q = some (.cells Q .rw) := by rw [← eh3]; exact h_put_same _ _ _
  have k13 : Kp h h3 := k1.trans k3
  have kn13 := k13.1
  have g3w : h3.get w = some (.cells [u,.slice a dn.length c ez,s2,v] .rw) := by rw [k13.2 _ (by omega),gw]
  obtain ⟨h4,eh4⟩ : ∃ h4,h3.new (.cells Q .rw) = h4 := ⟨_,rfl⟩
  have n4 : h4.next = h3.next + 1 := by rw [← eh4]; rfl
  have k4 : Kp h3 h4 := by rw [← eh4]; exact Kp.new _ _
  have srcQ := src_1 h3 fQ (by omega)
  rw [eh4] at srcQ
  have ff := fit_fill fQ Z lZ
  have row4 : RowF (fun j => hB.next ≤ j) hB.next 35 InC h4 dn a c ez := row.mono itIn (by omega) (fun j hj hn => by rw [k4.2 _ (by omega),k13.2 _ hn]) (fun q' o' eq => by
    have := row.lt eq
    rw [k4.2 _ (by omega),k13.2 _ (by omega)])
  have ic4 : InC (fun j => hB.next ≤ j ∧ a ≠ some (j,0)) h4 o Q := itIn.mono ic1 (by omega) (fun j _ hn => by rw [k4.2 _ (by omega),k3.2 _ hn]) (fun j hj _ => ⟨by omega,fun eq => by have := row.lt eq; omega⟩)
  obtain ⟨h5,ap,row5,n5,f5⟩ := rowF_app itIn (by omega) 72 (by omega) (fun j => hB.next ≤ j) hB.next h4 (by omega) dn (by omega) a c ez row4 o Q ic4
  have aw' : a ≠ some (w,0) := fun eq => by have := row.lt eq; omega
  have g5w : h5.get w = some (.cells [u,.slice a dn.length c ez,s2,v] .rw) := by rw [f5 _ (by omega) aw',k4.2 _ (by omega),g3w]
  have ln : (dn ++ [o]).length = dn.length + 1 := by simp
  have wn : wr .i64 (n : Int) = (n : Int) := wr_i64 (by omega)
  have cc : decide ((dn.length : Int) < (n : Int)) = true := decide_eq_true (by omega)
  have cp : decide ((p' : Int) < 0) = false := decide_eq_false (by omega)
  have wi : wr .i64 ((dn.length : Int) + 1) = ((dn.length + 1 : Nat) : Int) := by rw [wr_i64 (by omega)]; omega
  obtain ⟨h6,eh6⟩ : ∃ h6,h5.put w (.cells [u,.slice (some (h4.next,0)) (dn.length + 1) none 35,s2,v] .rw) = h6 := ⟨_,rfl⟩
  have n6 : h6.next = h5.next := by rw [← eh6]; rfl
  have g6 : h6.get w = some (.cells [u,.slice (some (h4.next,0)) (dn.length + 1) none 35,s2,v] .rw) := by rw [← eh6]; exact h_put_same _ _ _
  have f6 : ∀ j,j ≠ w → h6.get j = h5.get j := fun j hj => by rw [← eh6,h_put_ne _ _ (Ne.symm hj)]
  have row6 : RowF (fun j => hB.next ≤ j) hB.next 35 InC h6 (dn ++ [o]) (some (h4.next,0)) none 35 :=
    row5.mono itIn (by omega) (fun j hj _ => f6 j (by omega)) (fun q' o' eq => by cases eq; exact f6 _ (by omega))
  have stw : ∀ h i' o',storeV h 1 (.ptr (some (i',o'))) (.slice (some (h4.next,0)) (dn.length + 1) none 35) = storeE (h.get i') h i' o' [.slice (some (h4.next,0)) (dn.length + 1) none 35] := fun h i' o' => m_storeV h 1 i' o' _ rfl
  have fr6 : ∀ j,j < hB.next → j ≠ w → h6.get j = hB.get j := fun j hj1 hj2 => by
    rw [f6 _ hj2,f5 _ (by omega) (fun eq => by have := row.lt eq; omega),k4.2 _ (by omega),k13.2 _ (by omega),fr j hj1 hj2]
  obtain ⟨T',rr,u0,u2,u5,u6,u7,u9,ui⟩ : ∃ T',evC (callX E X (N + 24)) 125 m none L_purserref06_First_0 ⟨T,[],h⟩ = some (.normal,⟨T',[],h6⟩) ∧ evO T' (.t 0) = .slice a0 l.length none 1 ∧ evO T' (.t 2) = .ptr (some (r2,0)) ∧ evO T' (.t 5) = .ptr (some (w,0)) ∧ evO T' (.t 6) = v6 ∧ evO T' (.t 7) = .int .i64 (p' : Int) ∧ evO T' (.t 9) = .int .u64 (n : Int) ∧ evO T' (.t 10) = .int .i64 ((dn.length + 1 : Nat) : Int) := by
    clear eo ep row row4 row5 row6 ic1 ic4
    generalize l.length = len at *
    generalize dn.length = k at *
    exact ⟨_,by
      simp (config := {maxSteps := 2000000}) (disch := first | omega | (simp only [List.length_cons,List.length_nil,List.length_append,List.length_drop]; omega)) only [L_purserref06_First_0,eZ,t0,t5,t7,t9,ti,wn,cc,r1,eq,stQ,puQ,eh3,g3,cp,g3w,ldQ,ff,eh4,srcQ,ap,g5w,stw,eh6,wi,↓x_conv,x_convV,↓s_append,↓x_conv,x_convV,↓x_fieldAddr,x_fieldV,Nat.zero_add,↓h_new_get,↓s_load,m_load,↓m_load1,m_load1,↓m_st,m_stE,m_storeE,w_zero,w_succ,↓s_alloc,↓x_buildS,x_buildE,↓x_P0,↓x_P1,List.length_cons,List.length_nil,List.cons_append,List.drop_succ_cons,List.drop_zero,List.nil_append,↓s_skip,↓s_ops,↓s_seq,↓s_cond,↓s_block,↓s_nil,↓s_op,↓s_bindS,s_bindS,↓s_bindE,s_bindE,s_norm,↓s_condV,s_condV,s_block_normal,↓s_getp,↓s_getp0,↓s_con,↓s_os0,↓s_os1,↓s_mov,↓s_bin,↓s_call,↓s_ext,s_same,b_lss,b_add,↓iteN_true,↓iteN_false,iteN_true,iteN_false,Nat.zero_add,List.nil_append,Nat.reduceEqDiff,decide_true,decide_false,List.getElem?_cons_zero,List.getElem?_cons_succ]
      exact rfl,(by (simp only [s_getp,s_getp0,Nat.reduceEqDiff,decide_false,iteN_false,t0]; try rfl)),(by (simp only [s_getp,s_getp0,Nat.reduceEqDiff,decide_false,iteN_false,t2]; try rfl)),(by (simp only [s_getp,s_getp0,Nat.reduceEqDiff,decide_false,iteN_false,t5]; try rfl)),(by (simp only [s_getp,s_getp0,Nat.reduceEqDiff,decide_false,iteN_false,t6]; try rfl)),(by (simp only [s_getp,Nat.reduceEqDiff,decide_false,decide_true,iteN_false,iteN_true]; try rfl)),(by (simp only [s_getp,s_getp0,Nat.reduceEqDiff,decide_false,iteN_false,t9]; try rfl)),(by (simp only [s_getp,decide_true,iteN_true]; try rfl))⟩
  exact ⟨T',h6,rr,la,⟨u0,u2,u5,u6,u7,u9,by rw [ln]; exact ui,⟨_,_,_,by rw [ln]; exact g6,row6⟩,by omega,fr6⟩⟩
end Go.Eng
namespace Go.Eng
open Go
variable {E : Nat → Option Fn} {X : Orc}
set_option linter.unusedSimpArgs false
set_option linter.unusedVariables false
/-- First,within its outputs -/
structure DfO (a0 : Option (Nat × Nat)) (len : Nat) (r2 w : Nat) (v6 : V) (n : Nat) (u s2 v : V) (hB : H) (dn : List OutQ) (at_ : Nat) (T : Tr V) (h : H) : Prop where
  t0 : evO T (.t 0) = .slice a0 len none 1
  t2 : evO T (.t 2) = .ptr (some (r2,0))
  t5 : evO T (.t 5) = .ptr (some (w,0))
  t6 : evO T (.t 6) = v6
  t7 : evO T (.t 7) = .int .i64 (at_ : Int)
  t9 : evO T (.t 9) = .int .u64 (n : Int)
  ti : evO T (.t 13) = .int .i64 (dn.length : Int)
  row : ∃ a c ez,h.get w = some (.cells [u,s2,.slice a dn.length c ez,v] .rw) ∧ RowF (fun j => hB.next ≤ j) hB.next 2 OutC h dn a c ez
  nx : hB.next ≤ h.next
  fr : ∀ j,j < hB.next → j ≠ w → h.get j = hB.get j
theorem dfO_step (e : EnDr E) (x : NoDr X) (N m : Nat) (hN : 40 < N) (l : List Nat) (bl : byt l = true) (hl : l.length ≤ 100000000) (a0 : Option (Nat × Nat)) (r2 w : Nat) (v6 : V) (n : Nat) (hn : n ≤ 50) (u s2 v : V) (hB : H) (src : SrcH hB a0 1 l) (hw : w < hB.next) (aw : ∀ q o,a0 = some (q,o) → q ≠ w) (dn : List OutQ) (hdn : dn.length < n) (at_ : Nat) (hat : at_ ≤ l.length) (T : Tr V) (h : H) (I : DfO a0 l.length r2 w v6 n u s2 v hB dn at_ T h) (ok : (rxO l (at_,false)).2.2 = false) :
    ∃ T' h',evC (callX E X (N + 24)) 125 m none L_purserref06_First_1 ⟨T,[],h⟩ = some (.normal,⟨T',[],h'⟩) ∧ (rxO l (at_,false)).2.1 ≤ l.length ∧ DfO a0 l.length r2 w v6 n u s2 v hB (dn ++ [(rxO l (at_,false)).1]) (rxO l (at_,false)).2.1 T' h' := by
  obtain ⟨t0,t2,t5,t6,t7,t9,ti,⟨a,c,ez,gw,row⟩,nx,fr⟩ := I
  have src' : SrcH h a0 1 l := by
    rcases src with hh | ⟨bi,off,vs,md,h1,h2,h3,h4,h5⟩
    · exact .inl hh
    · exact .inr ⟨bi,off,vs,md,h1,h2,by omega,by rw [fr _ h3 (aw _ _ h1),h4],h5⟩
  rcases dout_go e x N l bl hl at_ hat a0 h src' with ⟨_,la,h1,b,cb,eb,r1,nw1⟩ | ⟨bad,_⟩
  rotate_left
  · rw [ok] at bad; cases bad
  obtain ⟨o,eo⟩ : ∃ o,(rxO l (at_,false)).1 = o := ⟨_,rfl⟩
  obtain ⟨p',ep⟩ : ∃ p,(rxO l (at_,false)).2.1 = p := ⟨_,rfl⟩
  rw [eo,ep] at r1
  rw [ep] at la
  rw [eo] at nw1
  rw [eo,ep]
  have k1 := nw1.kp
  have kn1 := k1.1
  obtain ⟨Z,eZ⟩ : ∃ Z : List V,[.int .i64 0,.slice none 0 (some 0) 0] = Z := ⟨_,rfl⟩
  have lZ : Z.length = 2 := by rw [← eZ]; rfl
  obtain ⟨Q,eQ⟩ : ∃ Q : List V,[.int .i64 o.v,.slice b o.l.length cb eb] = Q := ⟨_,rfl⟩
  rw [eQ] at r1
  have s1 : SrcS (fun j => h.next ≤ j) h1 b eb o.l := nw1.toS (fun j => h.next ≤ j) (fun j hj => hj)
  have ic1 : OutC (fun j => h.next ≤ j) h1 o Q := ⟨b,cb,eb,eQ.symm,s1⟩
  have fQ := itOut.fit ic1
  have stQ := fun h i => fit_st fQ h i
  have puQ := fun h i => fit_put fQ h i Z lZ
  have ldQ := fun m => fit_ld fQ m
  obtain ⟨q,eq⟩ : ∃ q,h1.next = q := ⟨_,rfl⟩
  have gz : (h1.new (.cells Z .rw)).get q = some (.cells Z .rw) := by rw [← eq]; exact h_new_same _ _
  obtain ⟨h3,eh3⟩ : ∃ h3,(h1.new (.cells Z .rw)).put q (.cells Q .rw) = h3 := ⟨_,rfl⟩
  have k3 : Kp h1 h3 := by rw [← eh3]; (repeat (first | exact Kp.refl _ | refine Kp.put ?_ _ (by first | omega | (simp only [h_next_put,h_next_new,h_next_del]; omega)) | refine Kp.del ?_ (by first | omega | (simp only [h_next_put,h_next_new,h_next_del]; omega)) | refine Kp.trans ?_ (Kp.new _ _)))
  have n3 : h3.next = h1.next + 1 := by rw [← eh3]; rfl
  have g3 : h3.get q = some (.cells Q .rw) := by rw [← eh3]; exact h_put_same _ _ _
  have k13 : Kp h h3 := k1.trans k3
  have kn13 := k13.1
  have g3w : h3.get w = some (.cells [u,s2,.slice a dn.length c ez,v] .rw) := by rw [k13.2 _ (by omega),gw]
  obtain ⟨h4,eh4⟩ : ∃ h4,h3.new (.cells Q .rw) = h4 := ⟨_,rfl⟩
  have n4 : h4.next = h3.next + 1 := by rw [← eh4]; rfl
  have k4 : Kp h3 h4 := by rw [← eh4]; exact Kp.new _ _
  have srcQ := src_1 h3 fQ (by omega)
  rw [eh4] at srcQ
  have ff := fit_fill fQ Z lZ
  have row4 : RowF (fun j => hB.next ≤ j) hB.next 2 OutC h4 dn a c ez := row.mono itOut (by omega) (fun j hj hn => by rw [k4.2 _ (by omega),k13.2 _ hn]) (fun q' o' eq => by
    have := row.lt eq
    rw [k4.2 _ (by omega),k13.2 _ (by omega)])
  have ic4 : OutC (fun j => hB.next ≤ j ∧ a ≠ some (j,0)) h4 o Q := itOut.mono ic1 (by omega) (fun j _ hn => by rw [k4.2 _ (by omega),k3.2 _ hn]) (fun j hj _ => ⟨by omega,fun eq => by have := row.lt eq; omega⟩)
  obtain ⟨h5,ap,row5,n5,f5⟩ := rowF_app itOut (by omega) 32 (by omega) (fun j => hB.next ≤ j) hB.next h4 (by omega) dn (by omega) a c ez row4 o Q ic4
  have aw' : a ≠ some (w,0) := fun eq => by have := row.lt eq; omega
  have g5w : h5.get w = some (.cells [u,s2,.slice a dn.length c ez,v] .rw) := by rw [f5 _ (by omega) aw',k4.2 _ (by omega),g3w]
  have ln : (dn ++ [o]).length = dn.length + 1 := by simp
  have wn : wr .i64 (n : Int) = (n : Int) := wr_i64 (by omega)
  have cc : decide ((dn.length : Int) < (n : Int)) = true := decide_eq_true (by omega)
  have cp : decide ((p' : Int) < 0) = false := decide_eq_false (by omega)
  have wi : wr .i64 ((dn.length : Int) + 1) = ((dn.length + 1 : Nat) : Int) := by rw [wr_i64 (by omega)]; omega
  obtain ⟨h6,eh6⟩ : ∃ h6,h5.put w (.cells [u,s2,.slice (some (h4.next,0)) (dn.length + 1) none 2,v] .rw) = h6 := ⟨_,rfl⟩
  have n6 : h6.next = h5.next := by rw [← eh6]; rfl
  have g6 : h6.get w = some (.cells [u,s2,.slice (some (h4.next,0)) (dn.length + 1) none 2,v] .rw) := by rw [← eh6]; exact h_put_same _ _ _
  have f6 : ∀ j,j ≠ w → h6.get j = h5.get j := fun j hj => by rw [← eh6,h_put_ne _ _ (Ne.symm hj)]
  have row6 : RowF (fun j => hB.next ≤ j) hB.next 2 OutC h6 (dn ++ [o]) (some (h4.next,0)) none 2 :=
    row5.mono itOut (by omega) (fun j hj _ => f6 j (by omega)) (fun q' o' eq => by cases eq; exact f6 _ (by omega))
  have stw : ∀ h i' o',storeV h 1 (.ptr (some (i',o'))) (.slice (some (h4.next,0)) (dn.length + 1) none 2) = storeE (h.get i') h i' o' [.slice (some (h4.next,0)) (dn.length + 1) none 2] := fun h i' o' => m_storeV h 1 i' o' _ rfl
  have fr6 : ∀ j,j < hB.next → j ≠ w → h6.get j = hB.get j := fun j hj1 hj2 => by
    rw [f6 _ hj2,f5 _ (by omega) (fun eq => by have := row.lt eq; omega),k4.2 _ (by omega),k13.2 _ (by omega),fr j hj1 hj2]
  obtain ⟨T',rr,u0,u2,u5,u6,u7,u9,ui⟩ : ∃ T',evC (callX E X (N + 24)) 125 m none L_purserref06_First_1 ⟨T,[],h⟩ = some (.normal,⟨T',[],h6⟩) ∧ evO T' (.t 0) = .slice a0 l.length none 1 ∧ evO T' (.t 2) = .ptr (some (r2,0)) ∧ evO T' (.t 5) = .ptr (some (w,0)) ∧ evO T' (.t 6) = v6 ∧ evO T' (.t 7) = .int .i64 (p' : Int) ∧ evO T' (.t 9) = .int .u64 (n : Int) ∧ evO T' (.t 13) = .int .i64 ((dn.length + 1 : Nat) : Int) := by
    clear eo ep row row4 row5 row6 ic1 ic4
    generalize l.length = len at *
    generalize dn.length = k at *
    exact ⟨_,by
      simp (config := {maxSteps := 2000000}) (disch := first | omega | (simp only [List.length_cons,List.length_nil,List.length_append,List.length_drop]; omega)) only [L_purserref06_First_1,eZ,t0,t5,t7,t9,ti,wn,cc,r1,eq,stQ,puQ,eh3,g3,cp,g3w,ldQ,ff,eh4,srcQ,ap,g5w,stw,eh6,wi,↓x_conv,x_convV,↓s_append,↓x_conv,x_convV,↓x_fieldAddr,x_fieldV,Nat.zero_add,↓h_new_get,↓s_load,m_load,↓m_load1,m_load1,↓m_st,m_stE,m_storeE,w_zero,w_succ,↓s_alloc,↓x_buildS,x_buildE,↓x_P0,↓x_P1,List.length_cons,List.length_nil,List.cons_append,List.drop_succ_cons,List.drop_zero,List.nil_append,↓s_skip,↓s_ops,↓s_seq,↓s_cond,↓s_block,↓s_nil,↓s_op,↓s_bindS,s_bindS,↓s_bindE,s_bindE,s_norm,↓s_condV,s_condV,s_block_normal,↓s_getp,↓s_getp0,↓s_con,↓s_os0,↓s_os1,↓s_mov,↓s_bin,↓s_call,↓s_ext,s_same,b_lss,b_add,↓iteN_true,↓iteN_false,iteN_true,iteN_false,Nat.zero_add,List.nil_append,Nat.reduceEqDiff,decide_true,decide_false,List.getElem?_cons_zero,List.getElem?_cons_succ]
      exact rfl,(by (simp only [s_getp,s_getp0,Nat.reduceEqDiff,decide_false,iteN_false,t0]; try rfl)),(by (simp only [s_getp,s_getp0,Nat.reduceEqDiff,decide_false,iteN_false,t2]; try rfl)),(by (simp only [s_getp,s_getp0,Nat.reduceEqDiff,decide_false,iteN_false,t5]; try rfl)),(by (simp only [s_getp,s_getp0,Nat.reduceEqDiff,decide_false,iteN_false,t6]; try rfl)),(by (simp only [s_getp,Nat.reduceEqDiff,decide_false,decide_true,iteN_false,iteN_true]; try rfl)),(by (simp only [s_getp,s_getp0,Nat.reduceEqDiff,decide_false,iteN_false,t9]; try rfl)),(by (simp only [s_getp,decide_true,iteN_true]; try rfl))⟩
  exact ⟨T',h6,rr,la,⟨u0,u2,u5,u6,u7,u9,by rw [ln]; exact ui,⟨_,_,_,by rw [ln]; exact g6,row6⟩,by omega,fr6⟩⟩
end Go.Eng
namespace Go.Eng
open Go
variable {E : Nat → Option Fn} {X : Orc}
set_option linter.unusedSimpArgs false
set_option linter.unusedVariables false
theorem dfI_stop (e : EnDr E) (x : NoDr X) (N m : Nat) (hN : 40 < N) (l : List Nat) (bl : byt l = true) (hl : l.length ≤ 100000000) (a0 : Option (Nat × Nat)) (r2 w : Nat) (v6 : V) (n : Nat) (hn : n ≤ 50) (u s2 v : V) (hB : H) (src : SrcH hB a0 1 l) (hw : w < hB.next) (hr : r2 < hB.next) (hrw : r2 ≠ w) (gr : hB.get r2 = some (.cells Z4 .rw)) (aw : ∀ q o,a0 = some (q,o) → q ≠ w) (dn : List InQ) (hdn : dn.length < n) (at_ : Nat) (hat : at_ ≤ l.length) (T : Tr V) (h : H) (I : DfI a0 l.length r2 w v6 n u s2 v hB dn at_ T h) (bad : (rxI l (at_,false)).2.2 = true) :
    ∃ T' h',evC (callX E X (N + 24)) 125 m none L_purserref06_First_0 ⟨T,[],h⟩ = some (.ret,⟨T',[],h'⟩) ∧ (evO T' (.t 2) = .ptr (some (r2,0)) ∧ evO T' (.t 3) = .int .i64 0 ∧ evO T' (.t 4) = .int .i64 60 ∧ h'.get r2 = some (.cells Z4 .rw) ∧ hB.next ≤ h'.next ∧ ∀ j,j < hB.next → j ≠ w → j ≠ r2 → h'.get j = hB.get j) := by
  obtain ⟨t0,t2,t5,t6,t7,t9,ti,⟨a,c,ez,gw,row⟩,nx,fr⟩ := I
  have src' : SrcH h a0 1 l := by
    rcases src with hh | ⟨bi,off,vs,md,h1,h2,h3,h4,h5⟩
    · exact .inl hh
    · exact .inr ⟨bi,off,vs,md,h1,h2,by omega,by rw [fr _ h3 (aw _ _ h1),h4],h5⟩
  rcases din_go e x N hN l bl hl at_ hat a0 h src' with ⟨ok,_⟩ | ⟨_,h1,P,r1,k1,fP⟩
  · rw [ok] at bad; cases bad
  have kn1 := k1.1
  obtain ⟨Z,eZ⟩ : ∃ Z : List V,[.int .u8 0,.int .u8 0,.int .u8 0,.int .u8 0,.int .u8 0,.int .u8 0,.int .u8 0,.int .u8 0,.int .u8 0,.int .u8 0,.int .u8 0,.int .u8 0,.int .u8 0,.int .u8 0,.int .u8 0,.int .u8 0,.int .u8 0,.int .u8 0,.int .u8 0,.int .u8 0,.int .u8 0,.int .u8 0,.int .u8 0,.int .u8 0,.int .u8 0,.int .u8 0,.int .u8 0,.int .u8 0,.int .u8 0,.int .u8 0,.int .u8 0,.int .u8 0,.int .u32 0,.slice none 0 (some 0) 0,.int .u32 0] = Z := ⟨_,rfl⟩
  have lZ : Z.length = 35 := by rw [← eZ]; rfl
  obtain ⟨q,eq⟩ : ∃ q,h1.next = q := ⟨_,rfl⟩
  have gz : (h1.new (.cells Z .rw)).get q = some (.cells Z .rw) := by rw [← eq]; exact h_new_same _ _
  have stP := fun h i => fit_st fP h i
  have puP := fun h i => fit_put fP h i Z lZ
  obtain ⟨h3,eh3⟩ : ∃ h3,(h1.new (.cells Z .rw)).put q (.cells P .rw) = h3 := ⟨_,rfl⟩
  have k3 : Kp h1 h3 := by rw [← eh3]; (repeat (first | exact Kp.refl _ | refine Kp.put ?_ _ (by first | omega | (simp only [h_next_put,h_next_new,h_next_del]; omega)) | refine Kp.del ?_ (by first | omega | (simp only [h_next_put,h_next_new,h_next_del]; omega)) | refine Kp.trans ?_ (Kp.new _ _)))
  have k13 : Kp h h3 := k1.trans k3
  have kn13 := k13.1
  have g3 : h3.get r2 = some (.cells Z4 .rw) := by rw [k13.2 _ (by omega),fr _ hr hrw,gr]
  have st4 := fun h i => fit_st fitZ4 h i
  have pu4 := fun h i => fit_put fitZ4 h i Z4 rfl
  have fz : fillV Z4 [] = some Z4 := rfl
  have wn : wr .i64 (n : Int) = (n : Int) := wr_i64 (by omega)
  have cc : decide ((dn.length : Int) < (n : Int)) = true := decide_eq_true (by omega)
  have cp : decide ((-1 : Int) < 0) = true := rfl
  have gF : (h3.put r2 (.cells Z4 .rw)).get r2 = some (.cells Z4 .rw) := h_put_same _ _ _
  have nF : hB.next ≤ (h3.put r2 (.cells Z4 .rw)).next := by show hB.next ≤ h3.next; omega
  have fF : ∀ j,j < hB.next → j ≠ w → j ≠ r2 → (h3.put r2 (.cells Z4 .rw)).get j = hB.get j := fun j h1 h2 h4 => by rw [h_put_ne _ _ h4.symm,k13.2 _ (by omega),fr j h1 h2]
  have e4 : ([.int .u32 0,.slice none 0 (some 0) 0,.slice none 0 (some 0) 0,.int .u32 0] : List V) = Z4 := rfl
  unfold L_purserref06_First_0
  rw [eZ,e4]
  generalize Z4 = z4 at *
  generalize l.length = len at *
  generalize dn.length = k at *
  refine ⟨_,h3.put r2 (.cells z4 .rw),by
    simp (config := {maxSteps := 2000000}) (disch := first | omega | (simp only [List.length_cons,List.length_nil,List.length_append,List.length_drop]; omega)) only [t0,t2,t7,t9,ti,wn,cc,r1,eq,stP,puP,eh3,g3,st4,pu4,fz,↓x_build,x_aggO,↓x_conv,x_convV,↓x_conv,x_convV,↓h_new_get,↓m_st,m_stE,↓s_alloc,↓x_P0,Int.reduceLT,↓s_skip,↓s_ops,↓s_seq,↓s_cond,↓s_block,↓s_ret,↓s_nil,↓s_op,↓s_bindS,s_bindS,↓s_bindE,s_bindE,s_bindE_ret,s_norm,↓s_condV,s_condV,s_block_ret,↓s_getp,↓s_getp0,↓s_con,↓s_os0,↓s_os1,↓s_mov,↓s_bin,↓s_call,↓s_ext,s_same,b_lss,↓iteN_true,↓iteN_false,iteN_true,iteN_false,Nat.reduceEqDiff,decide_true,decide_false,List.getElem?_cons_zero,List.getElem?_cons_succ]
    exact rfl,(by (simp only [s_getp,s_getp0,Nat.reduceEqDiff,decide_false,iteN_false,t2]; try rfl)),(by (simp only [s_getp,Nat.reduceEqDiff,decide_false,decide_true,iteN_false,iteN_true]; try rfl)),(by (simp only [s_getp,decide_true,iteN_true]; try rfl)),gF,nF,fF⟩
theorem dfO_stop (e : EnDr E) (x : NoDr X) (N m : Nat) (hN : 40 < N) (l : List Nat) (bl : byt l = true) (hl : l.length ≤ 100000000) (a0 : Option (Nat × Nat)) (r2 w : Nat) (v6 : V) (n : Nat) (hn : n ≤ 50) (u s2 v : V) (hB : H) (src : SrcH hB a0 1 l) (hw : w < hB.next) (hr : r2 < hB.next) (hrw : r2 ≠ w) (gr : hB.get r2 = some (.cells Z4 .rw)) (aw : ∀ q o,a0 = some (q,o) → q ≠ w) (dn : List OutQ) (hdn : dn.length < n) (at_ : Nat) (hat : at_ ≤ l.length) (T : Tr V) (h : H) (I : DfO a0 l.length r2 w v6 n u s2 v hB dn at_ T h) (bad : (rxO l (at_,false)).2.2 = true) :
    ∃ T' h',evC (callX E X (N + 24)) 125 m none L_purserref06_First_1 ⟨T,[],h⟩ = some (.ret,⟨T',[],h'⟩) ∧ (evO T' (.t 2) = .ptr (some (r2,0)) ∧ evO T' (.t 3) = .int .i64 0 ∧ evO T' (.t 4) = .int .i64 60 ∧ h'.get r2 = some (.cells Z4 .rw) ∧ hB.next ≤ h'.next ∧ ∀ j,j < hB.next → j ≠ w → j ≠ r2 → h'.get j = hB.get j) := by
  obtain ⟨t0,t2,t5,t6,t7,t9,ti,⟨a,c,ez,gw,row⟩,nx,fr⟩ := I
  have src' : SrcH h a0 1 l := by
    rcases src with hh | ⟨bi,off,vs,md,h1,h2,h3,h4,h5⟩
    · exact .inl hh
    · exact .inr ⟨bi,off,vs,md,h1,h2,by omega,by rw [fr _ h3 (aw _ _ h1),h4],h5⟩
  rcases dout_go e x N l bl hl at_ hat a0 h src' with ⟨ok,_⟩ | ⟨_,h1,P,r1,k1,fP⟩
  · rw [ok] at bad; cases bad
  have kn1 := k1.1
  obtain ⟨Z,eZ⟩ : ∃ Z : List V,[.int .i64 0,.slice none 0 (some 0) 0] = Z := ⟨_,rfl⟩
  have lZ : Z.length = 2 := by rw [← eZ]; rfl
  obtain ⟨q,eq⟩ : ∃ q,h1.next = q := ⟨_,rfl⟩
  have gz : (h1.new (.cells Z .rw)).get q = some (.cells Z .rw) := by rw [← eq]; exact h_new_same _ _
  have stP := fun h i => fit_st fP h i
  have puP := fun h i => fit_put fP h i Z lZ
  obtain ⟨h3,eh3⟩ : ∃ h3,(h1.new (.cells Z .rw)).put q (.cells P .rw) = h3 := ⟨_,rfl⟩
  have k3 : Kp h1 h3 := by rw [← eh3]; (repeat (first | exact Kp.refl _ | refine Kp.put ?_ _ (by first | omega | (simp only [h_next_put,h_next_new,h_next_del]; omega)) | refine Kp.del ?_ (by first | omega | (simp only [h_next_put,h_next_new,h_next_del]; omega)) | refine Kp.trans ?_ (Kp.new _ _)))
  have k13 : Kp h h3 := k1.trans k3
  have kn13 := k13.1
  have g3 : h3.get r2 = some (.cells Z4 .rw) := by rw [k13.2 _ (by omega),fr _ hr hrw,gr]
  have st4 := fun h i => fit_st fitZ4 h i
  have pu4 := fun h i => fit_put fitZ4 h i Z4 rfl
  have fz : fillV Z4 [] = some Z4 := rfl
  have wn : wr .i64 (n : Int) = (n : Int) := wr_i64 (by omega)
  have cc : decide ((dn.length : Int) < (n : Int)) = true := decide_eq_true (by omega)
  have cp : decide ((-1 : Int) < 0) = true := rfl
  have gF : (h3.put r2 (.cells Z4 .rw)).get r2 = some (.cells Z4 .rw) := h_put_same _ _ _
  have nF : hB.next ≤ (h3.put r2 (.cells Z4 .rw)).next := by show hB.next ≤ h3.next; omega
  have fF : ∀ j,j < hB.next → j ≠ w → j ≠ r2 → (h3.put r2 (.cells Z4 .rw)).get j = hB.get j := fun j h1 h2 h4 => by rw [h_put_ne _ _ h4.symm,k13.2 _ (by omega),fr j h1 h2]
  have e4 : ([.int .u32 0,.slice none 0 (some 0) 0,.slice none 0 (some 0) 0,.int .u32 0] : List V) = Z4 := rfl
  unfold L_purserref06_First_1
  rw [eZ,e4]
  generalize Z4 = z4 at *
  generalize l.length = len at *
  generalize dn.length = k at *
  refine ⟨_,h3.put r2 (.cells z4 .rw),by
    simp (config := {maxSteps := 2000000}) (disch := first | omega | (simp only [List.length_cons,List.length_nil,List.length_append,List.length_drop]; omega)) only [t0,t2,t7,t9,ti,wn,cc,r1,eq,stP,puP,eh3,g3,st4,pu4,fz,↓x_build,x_aggO,↓x_conv,x_convV,↓x_conv,x_convV,↓h_new_get,↓m_st,m_stE,↓s_alloc,↓x_P0,Int.reduceLT,↓s_skip,↓s_ops,↓s_seq,↓s_cond,↓s_block,↓s_ret,↓s_nil,↓s_op,↓s_bindS,s_bindS,↓s_bindE,s_bindE,s_bindE_ret,s_norm,↓s_condV,s_condV,s_block_ret,↓s_getp,↓s_getp0,↓s_con,↓s_os0,↓s_os1,↓s_mov,↓s_bin,↓s_call,↓s_ext,s_same,b_lss,↓iteN_true,↓iteN_false,iteN_true,iteN_false,Nat.reduceEqDiff,decide_true,decide_false,List.getElem?_cons_zero,List.getElem?_cons_succ]
    exact rfl,(by (simp only [s_getp,s_getp0,Nat.reduceEqDiff,decide_false,iteN_false,t2]; try rfl)),(by (simp only [s_getp,Nat.reduceEqDiff,decide_false,decide_true,iteN_false,iteN_true]; try rfl)),(by (simp only [s_getp,decide_true,iteN_true]; try rfl)),gF,nF,fF⟩
end Go.Eng
namespace Go.Eng
open Go
variable {E : Nat → Option Fn} {X : Orc}
set_option linter.unusedSimpArgs false
set_option linter.unusedVariables false
theorem dfI_loop (e : EnDr E) (x : NoDr X) (N m : Nat) (hN : 40 < N) (hm : 50 < m) (l : List Nat) (bl : byt l = true) (hl : l.length ≤ 100000000) (a0 : Option (Nat × Nat)) (r2 w : Nat) (v6 : V) (n : Nat) (hn : n ≤ 50) (u s2 v : V) (hB : H) (src : SrcH hB a0 1 l) (hw : w < hB.next) (hr : r2 < hB.next) (hrw : r2 ≠ w) (gr : hB.get r2 = some (.cells Z4 .rw)) (aw : ∀ q o,a0 = some (q,o) → q ≠ w) (S : Nat) (hat : S ≤ l.length) (T : Tr V) (h : H) (I : DfI a0 l.length r2 w v6 n u s2 v hB [] S T h) :
    ((rxR (rxI l) ([],(S,false)) n).2.2 = false ∧ (rxR (rxI l) ([],(S,false)) n).2.1 ≤ l.length ∧ (rxR (rxI l) ([],(S,false)) n).1.length = n ∧ ∃ T' h',loopN (evC (callX E X (N + 24)) 125 m none L_purserref06_First_0) m ⟨T,[],h⟩ = some (.exit 0,⟨T',[],h'⟩) ∧ DfI a0 l.length r2 w v6 n u s2 v hB (rxR (rxI l) ([],(S,false)) n).1 (rxR (rxI l) ([],(S,false)) n).2.1 T' h') ∨
    ((rxR (rxI l) ([],(S,false)) n).2.2 = true ∧ ∃ T' h',loopN (evC (callX E X (N + 24)) 125 m none L_purserref06_First_0) m ⟨T,[],h⟩ = some (.ret,⟨T',[],h'⟩) ∧ (evO T' (.t 2) = .ptr (some (r2,0)) ∧ evO T' (.t 3) = .int .i64 0 ∧ evO T' (.t 4) = .int .i64 60 ∧ h'.get r2 = some (.cells Z4 .rw) ∧ hB.next ≤ h'.next ∧ ∀ j,j < hB.next → j ≠ w → j ≠ r2 → h'.get j = hB.get j)) := by
  obtain ⟨R,eR⟩ : ∃ R,rxR (rxI l) ([],(S,false)) = R := ⟨_,rfl⟩
  obtain ⟨L,hL,hf,hs,he⟩ := rxR_stop (rxI l) ([],(S,false)) n
  have len := fun i => rxR_len (rxI l) ([],(S,false)) i
  have nxt : ∀ i,(R i).2.2 = false → R (i + 1) = ((R i).1 ++ [(rxI l ((R i).2.1,false)).1],(rxI l ((R i).2.1,false)).2) := fun i hi => by
    have e2 : (R i).2 = ((R i).2.1,false) := by rw [← hi]
    rw [← eR] at hi e2 ⊢
    rw [rxR,if_neg (by rw [hi]; simp)]
    unfold rxS
    rw [e2]
  have R0 : R 0 = ([],(S,false)) := by rw [← eR]; rfl
  rw [eR] at hf hs he len ⊢
  have step : ∀ i T h,i < n → (∀ j,j < i → (R j).2.2 = false) → (R i).2.2 = false → (R (i + 1)).2.2 = false → ((R i).2.1 ≤ l.length ∧ DfI a0 l.length r2 w v6 n u s2 v hB (R i).1 (R i).2.1 T h) → ∃ T' h',evC (callX E X (N + 24)) 125 m none L_purserref06_First_0 ⟨T,[],h⟩ = some (.normal,⟨T',[],h'⟩) ∧ ((R (i + 1)).2.1 ≤ l.length ∧ DfI a0 l.length r2 w v6 n u s2 v hB (R (i + 1)).1 (R (i + 1)).2.1 T' h') := fun i T h hi hj h0 h1 ⟨la,I⟩ => by
    have ln := len i hj
    rw [nxt i h0] at h1 ⊢
    simp only [List.length_nil,Nat.zero_add] at ln
    obtain ⟨T',h',rr,la',I'⟩ := dfI_step e x N m hN l bl hl a0 r2 w v6 n hn u s2 v hB src hw aw (R i).1 (by omega) (R i).2.1 la T h I h1
    exact ⟨T',h',rr,la',I'⟩
  have I0 : (R 0).2.1 ≤ l.length ∧ DfI a0 l.length r2 w v6 n u s2 v hB (R 0).1 (R 0).2.1 T h := by rw [R0]; exact ⟨hat,I⟩
  cases hb : (R L).2.2 with
  | true =>
    right
    refine ⟨by rw [he]; exact hb,?_⟩
    cases L with
    | zero => rw [R0] at hb; cases hb
    | succ k =>
      have hk := hf k (by omega)
      have lk := len k (fun j hj => hf j (by omega))
      simp only [List.length_nil,Nat.zero_add] at lk
      rw [nxt k hk] at hb
      exact loop_go (f := evC (callX E X (N + 24)) 125 m none L_purserref06_First_0) (fun i T h => (R i).2.1 ≤ l.length ∧ DfI a0 l.length r2 w v6 n u s2 v hB (R i).1 (R i).2.1 T h) k .ret (by intro h; cases h) _ (fun i T h hi I => step i T h (by omega) (fun j hj => hf j (by omega)) (hf i (by omega)) (hf (i + 1) (by omega)) I) (fun T h ⟨la,I⟩ => dfI_stop e x N m hN l bl hl a0 r2 w v6 n hn u s2 v hB src hw hr hrw gr aw (R k).1 (by omega) (R k).2.1 la T h I hb) k 0 (by omega) m (by omega) T h I0
  | false =>
    left
    have eL : L = n := by
      rcases hs with hs | hs
      · exact hs
      · rw [hb] at hs; cases hs
    subst eL
    have lL := len L hf
    simp only [List.length_nil,Nat.zero_add] at lL
    obtain ⟨T',h',rr,la,I'⟩ := loop_go (f := evC (callX E X (N + 24)) 125 m none L_purserref06_First_0) (fun i T h => (R i).2.1 ≤ l.length ∧ DfI a0 l.length r2 w v6 L u s2 v hB (R i).1 (R i).2.1 T h) L (.exit 0) (by intro h; cases h) (fun T h => (R L).2.1 ≤ l.length ∧ DfI a0 l.length r2 w v6 L u s2 v hB (R L).1 (R L).2.1 T h) (fun i T h hi I => step i T h hi (fun j hj => hf j (by omega)) (hf i hi) (by
      by_cases h1 : i + 1 < L
      · exact hf _ h1
      · rw [show i + 1 = L by omega]; exact hb) I) (fun T h ⟨la,I⟩ => by
      obtain ⟨t0,t2,t5,t6,t7,t9,ti,row,nx,fr⟩ := I
      have wn : wr .i64 (L : Int) = (L : Int) := wr_i64 (by omega)
      rw [lL] at ti
      have c0 : decide ((L : Int) < (L : Int)) = false := decide_eq_false (by omega)
      exact ⟨_,h,by
        simp (config := {maxSteps := 2000000}) (disch := first | omega | (simp only [List.length_cons,List.length_nil,List.length_append,List.length_drop]; omega)) only [L_purserref06_First_0,t9,ti,wn,c0,↓x_conv,x_convV,↓x_conv,x_convV,↓s_ops,↓s_seq,↓s_cond,↓s_exit,↓s_nil,↓s_op,↓s_bindS,s_bindS,↓s_bindE,s_bindE,s_bindE_exit,s_norm,↓s_condV,s_condV,↓s_getp,↓s_mov,↓s_bin,s_same,b_lss,↓iteN_true,↓iteN_false,iteN_true,iteN_false,Nat.reduceEqDiff,decide_true,decide_false]
        exact rfl,la,⟨(by (simp only [s_getp,Nat.reduceEqDiff,decide_false,iteN_false,t0]; try rfl)),(by (simp only [s_getp,Nat.reduceEqDiff,decide_false,iteN_false,t2]; try rfl)),(by (simp only [s_getp,Nat.reduceEqDiff,decide_false,iteN_false,t5]; try rfl)),(by (simp only [s_getp,Nat.reduceEqDiff,decide_false,iteN_false,t6]; try rfl)),(by (simp only [s_getp,Nat.reduceEqDiff,decide_false,iteN_false,t7]; try rfl)),(by (simp only [s_getp,Nat.reduceEqDiff,decide_false,iteN_false,t9]; try rfl)),by rw [lL]; exact (by (simp only [s_getp,Nat.reduceEqDiff,decide_false,iteN_false,ti]; try rfl)),row,nx,fr⟩⟩) L 0 (by omega) m (by omega) T h I0
    exact ⟨hb,la,lL,T',h',rr,I'⟩
theorem dfO_loop (e : EnDr E) (x : NoDr X) (N m : Nat) (hN : 40 < N) (hm : 50 < m) (l : List Nat) (bl : byt l = true) (hl : l.length ≤ 100000000) (a0 : Option (Nat × Nat)) (r2 w : Nat) (v6 : V) (n : Nat) (hn : n ≤ 50) (u s2 v : V) (hB : H) (src : SrcH hB a0 1 l) (hw : w < hB.next) (hr : r2 < hB.next) (hrw : r2 ≠ w) (gr : hB.get r2 = some (.cells Z4 .rw)) (aw : ∀ q o,a0 = some (q,o) → q ≠ w) (S : Nat) (hat : S ≤ l.length) (T : Tr V) (h : H) (I : DfO a0 l.length r2 w v6 n u s2 v hB [] S T h) :
    ((rxR (rxO l) ([],(S,false)) n).2.2 = false ∧ (rxR (rxO l) ([],(S,false)) n).2.1 ≤ l.length ∧ (rxR (rxO l) ([],(S,false)) n).1.length = n ∧ ∃ T' h',loopN (evC (callX E X (N + 24)) 125 m none L_purserref06_First_1) m ⟨T,[],h⟩ = some (.exit 2,⟨T',[],h'⟩) ∧ DfO a0 l.length r2 w v6 n u s2 v hB (rxR (rxO l) ([],(S,false)) n).1 (rxR (rxO l) ([],(S,false)) n).2.1 T' h') ∨
    ((rxR (rxO l) ([],(S,false)) n).2.2 = true ∧ ∃ T' h',loopN (evC (callX E X (N + 24)) 125 m none L_purserref06_First_1) m ⟨T,[],h⟩ = some (.ret,⟨T',[],h'⟩) ∧ (evO T' (.t 2) = .ptr (some (r2,0)) ∧ evO T' (.t 3) = .int .i64 0 ∧ evO T' (.t 4) = .int .i64 60 ∧ h'.get r2 = some (.cells Z4 .rw) ∧ hB.next ≤ h'.next ∧ ∀ j,j < hB.next → j ≠ w → j ≠ r2 → h'.get j = hB.get j)) := by
  obtain ⟨R,eR⟩ : ∃ R,rxR (rxO l) ([],(S,false)) = R := ⟨_,rfl⟩
  obtain ⟨L,hL,hf,hs,he⟩ := rxR_stop (rxO l) ([],(S,false)) n
  have len := fun i => rxR_len (rxO l) ([],(S,false)) i
  have nxt : ∀ i,(R i).2.2 = false → R (i + 1) = ((R i).1 ++ [(rxO l ((R i).2.1,false)).1],(rxO l ((R i).2.1,false)).2) := fun i hi => by
    have e2 : (R i).2 = ((R i).2.1,false) := by rw [← hi]
    rw [← eR] at hi e2 ⊢
    rw [rxR,if_neg (by rw [hi]; simp)]
    unfold rxS
    rw [e2]
  have R0 : R 0 = ([],(S,false)) := by rw [← eR]; rfl
  rw [eR] at hf hs he len ⊢
  have step : ∀ i T h,i < n → (∀ j,j < i → (R j).2.2 = false) → (R i).2.2 = false → (R (i + 1)).2.2 = false → ((R i).2.1 ≤ l.length ∧ DfO a0 l.length r2 w v6 n u s2 v hB (R i).1 (R i).2.1 T h) → ∃ T' h',evC (callX E X (N + 24)) 125 m none L_purserref06_First_1 ⟨T,[],h⟩ = some (.normal,⟨T',[],h'⟩) ∧ ((R (i + 1)).2.1 ≤ l.length ∧ DfO a0 l.length r2 w v6 n u s2 v hB (R (i + 1)).1 (R (i + 1)).2.1 T' h') := fun i T h hi hj h0 h1 ⟨la,I⟩ => by
    have ln := len i hj
    rw [nxt i h0] at h1 ⊢
    simp only [List.length_nil,Nat.zero_add] at ln
    obtain ⟨T',h',rr,la',I'⟩ := dfO_step e x N m hN l bl hl a0 r2 w v6 n hn u s2 v hB src hw aw (R i).1 (by omega) (R i).2.1 la T h I h1
    exact ⟨T',h',rr,la',I'⟩
  have I0 : (R 0).2.1 ≤ l.length ∧ DfO a0 l.length r2 w v6 n u s2 v hB (R 0).1 (R 0).2.1 T h := by rw [R0]; exact ⟨hat,I⟩
  cases hb : (R L).2.2 with
  | true =>
    right
    refine ⟨by rw [he]; exact hb,?_⟩
    cases L with
    | zero => rw [R0] at hb; cases hb
    | succ k =>
      have hk := hf k (by omega)
      have lk := len k (fun j hj => hf j (by omega))
      simp only [List.length_nil,Nat.zero_add] at lk
      rw [nxt k hk] at hb
      exact loop_go (f := evC (callX E X (N + 24)) 125 m none L_purserref06_First_1) (fun i T h => (R i).2.1 ≤ l.length ∧ DfO a0 l.length r2 w v6 n u s2 v hB (R i).1 (R i).2.1 T h) k .ret (by intro h; cases h) _ (fun i T h hi I => step i T h (by omega) (fun j hj => hf j (by omega)) (hf i (by omega)) (hf (i + 1) (by omega)) I) (fun T h ⟨la,I⟩ => dfO_stop e x N m hN l bl hl a0 r2 w v6 n hn u s2 v hB src hw hr hrw gr aw (R k).1 (by omega) (R k).2.1 la T h I hb) k 0 (by omega) m (by omega) T h I0
  | false =>
    left
    have eL : L = n := by
      rcases hs with hs | hs
      · exact hs
      · rw [hb] at hs; cases hs
    subst eL
    have lL := len L hf
    simp only [List.length_nil,Nat.zero_add] at lL
    obtain ⟨T',h',rr,la,I'⟩ := loop_go (f := evC (callX E X (N + 24)) 125 m none L_purserref06_First_1) (fun i T h => (R i).2.1 ≤ l.length ∧ DfO a0 l.length r2 w v6 L u s2 v hB (R i).1 (R i).2.1 T h) L (.exit 2) (by intro h; cases h) (fun T h => (R L).2.1 ≤ l.length ∧ DfO a0 l.length r2 w v6 L u s2 v hB (R L).1 (R L).2.1 T h) (fun i T h hi I => step i T h hi (fun j hj => hf j (by omega)) (hf i hi) (by
      by_cases h1 : i + 1 < L
      · exact hf _ h1
      · rw [show i + 1 = L by omega]; exact hb) I) (fun T h ⟨la,I⟩ => by
      obtain ⟨t0,t2,t5,t6,t7,t9,ti,row,nx,fr⟩ := I
      have wn : wr .i64 (L : Int) = (L : Int) := wr_i64 (by omega)
      rw [lL] at ti
      have c0 : decide ((L : Int) < (L : Int)) = false := decide_eq_false (by omega)
      exact ⟨_,h,by
        simp (config := {maxSteps := 2000000}) (disch := first | omega | (simp only [List.length_cons,List.length_nil,List.length_append,List.length_drop]; omega)) only [L_purserref06_First_1,t9,ti,wn,c0,↓x_conv,x_convV,↓x_conv,x_convV,↓s_ops,↓s_seq,↓s_cond,↓s_exit,↓s_nil,↓s_op,↓s_bindS,s_bindS,↓s_bindE,s_bindE,s_bindE_exit,s_norm,↓s_condV,s_condV,↓s_getp,↓s_mov,↓s_bin,s_same,b_lss,↓iteN_true,↓iteN_false,iteN_true,iteN_false,Nat.reduceEqDiff,decide_true,decide_false]
        exact rfl,la,⟨(by (simp only [s_getp,Nat.reduceEqDiff,decide_false,iteN_false,t0]; try rfl)),(by (simp only [s_getp,Nat.reduceEqDiff,decide_false,iteN_false,t2]; try rfl)),(by (simp only [s_getp,Nat.reduceEqDiff,decide_false,iteN_false,t5]; try rfl)),(by (simp only [s_getp,Nat.reduceEqDiff,decide_false,iteN_false,t6]; try rfl)),(by (simp only [s_getp,Nat.reduceEqDiff,decide_false,iteN_false,t7]; try rfl)),(by (simp only [s_getp,Nat.reduceEqDiff,decide_false,iteN_false,t9]; try rfl)),by rw [lL]; exact (by (simp only [s_getp,Nat.reduceEqDiff,decide_false,iteN_false,ti]; try rfl)),row,nx,fr⟩⟩) L 0 (by omega) m (by omega) T h I0
    exact ⟨hb,la,lL,T',h',rr,I'⟩
end Go.Eng
namespace Go.Eng
open Go
variable {E : Nat → Option Fn} {X : Orc}
set_option linter.unusedSimpArgs false
set_option linter.unusedVariables false
theorem rdW_fail (l : List Nat) (s : Nat × Bool) (h : s.2 = true) : (rdW l s).2.2 = true := by unfold rdW; rw [h]; rfl
theorem rxL_fail {α : Type} (item : List Nat → Nat × Bool → α × Nat × Bool) (l : List Nat) (s : Nat × Bool) (h : (rxB l s).2 = true) : (rxL item l s).2.2 = true := by
  unfold rxL
  rw [rxR_fail _ _ h]; exact h
theorem rxB_fail (l : List Nat) (s : Nat × Bool) (h : s.2 = true) : (rxB l s).2 = true := by unfold rxB; rw [h]; rfl
theorem rxT_1 (l : List Nat) (h : (rx1 l).2.2 = true) : (rxT l).2.2 = true := by
  unfold rxT rx4
  exact rdW_fail _ _ (rxL_fail _ _ _ (rxB_fail _ _ (rxL_fail _ _ _ (rxB_fail _ _ h))))
theorem rxT_2 (l : List Nat) (h : (rx2 l).2.2 = true) : (rxT l).2.2 = true := by
  unfold rxT rx4
  exact rdW_fail _ _ (rxL_fail _ _ _ (rxB_fail _ _ h))
theorem rxT_3 (l : List Nat) (h : (rx3 l).2.2 = true) : (rxT l).2.2 = true := by
  unfold rxT rx4
  exact rdW_fail _ _ h
theorem eySiz_le (l : List Nat) (bl : byt l = true) (n : Nat) (h : n ≤ l.length) : (eySiz l n).2.2 ≤ l.length := by
  unfold eySiz
  split
  · rename_i n' u hc
    have := (com_siz _ (byt_drop bl _) _ _ hc).2.2.1
    rw [List.length_drop] at this
    show n + u ≤ _
    omega
  · exact h
theorem dfC_go (e : EnDr E) (x : NoDr X) (N m : Nat) (l : List Nat) (bl : byt l = true) (hl : l.length ≤ 100000000) (a0 : Option (Nat × Nat)) (r2 w : Nat) (hrw : r2 ≠ w) (v1 : Nat) (hv : v1 < 4294967296) (a b : Option (Nat × Nat)) (na nb : Nat) (ca cb : Option Nat) (ea eb : Nat) (at_ : Nat) (hat : at_ ≤ l.length) (T : Tr V) (h : H) (src : SrcH h a0 1 l)
    (t0 : evO T (.t 0) = .slice a0 l.length none 1) (t2 : evO T (.t 2) = .ptr (some (r2,0))) (t5 : evO T (.t 5) = .ptr (some (w,0))) (t6 : evO T (.t 6) = .int .u64 (v1 : Int)) (t7 : evO T (.t 7) = .int .i64 (at_ : Int))
    (gw : h.get w = some (.cells [.int .u32 0,.slice a na ca ea,.slice b nb cb eb,.int .u32 0] .rw)) (gr : h.get r2 = some (.cells Z4 .rw)) :
    ((eyFix 4 l at_).2.1 = 0 ∧ ∃ h',fnEnd [.cell 2 (some 4),.tmp 3,.tmp 4] (evC (callX E X (N + 24)) 125 m none R_purserref06_First_0 ⟨T,[],h⟩) = some (.tup [.agg [.int .u32 (v1 : Int),.slice a na ca ea,.slice b nb cb eb,.int .u32 ((eyFix 4 l at_).1 : Nat)],.int .i64 ((eyFix 4 l at_).2.2 : Nat),.int .i64 0],h') ∧ h'.next = h.next ∧ ∀ j,j ≠ w → j ≠ r2 → h'.get j = h.get j) ∨
    ((eyFix 4 l at_).2.1 ≠ 0 ∧ ∃ h',fnEnd [.cell 2 (some 4),.tmp 3,.tmp 4] (evC (callX E X (N + 24)) 125 m none R_purserref06_First_0 ⟨T,[],h⟩) = some (.tup [.agg Z4,.int .i64 0,.int .i64 60],h') ∧ h'.next = h.next ∧ ∀ j,j ≠ w → j ≠ r2 → h'.get j = h.get j) := by
  have r1 := rgetfix_go e.rg x.rg (N + 3) 4 l bl hl at_ hat a0 h src
  replace r1 : callX E X (N + 24) (.fn k_purserref01_GetFixed) _ h = _ := r1
  have v4 := eyFix_lt 4 (.inl rfl) l bl at_
  obtain ⟨⟨n4,er4,at4⟩,ev4⟩ : ∃ z,eyFix 4 l at_ = z := ⟨_,rfl⟩
  have ev4' : eyFix ((4 : Nat) : Int) l at_ = (n4,er4,at4) := ev4
  rw [ev4'] at v4
  rw [ev4] at r1 ⊢
  simp only at r1 v4 ⊢
  have e4 : ([.int .u32 0,.slice none 0 (some 0) 0,.slice none 0 (some 0) 0,.int .u32 0] : List V) = Z4 := rfl
  have st4 := fun h i => fit_st fitZ4 h i
  have pu4 := fun h i => fit_put fitZ4 h i Z4 rfl
  have ld4 := fun m => fit_ld fitZ4 m
  have fz : fillV Z4 [] = some Z4 := rfl
  by_cases he : er4 = 0
  rotate_left
  · right
    have d1 : decide ((er4 : Int) = 0) = false := decide_eq_false (by omega)
    refine ⟨he,h.put r2 (.cells Z4 .rw),?_,rfl,fun j h1 h2 => h_put_ne _ _ h2.symm⟩
    unfold R_purserref06_First_0
    rw [e4]
    generalize Z4 = z4 at *
    generalize l.length = len at *
    simp (config := {maxSteps := 2000000}) (disch := first | omega | (simp only [List.length_cons,List.length_nil,List.length_append,List.length_drop]; omega)) only [t0,t2,t7,r1,d1,gr,st4,pu4,ld4,fz,Bool.not_false,↓x_build,x_aggO,↓h_put_get,m_load,↓m_st,m_stE,↓x_P0,s_resc,s_consR,s_res0,↓s_ops,↓s_seq,↓s_cond,↓s_ret,↓s_nil,↓s_op,↓s_bindS,s_bindS,↓s_bindE,s_bindE,s_bindE_ret,s_norm,↓s_condV,s_condV,↓s_getp,↓s_getp0,↓s_con,↓s_os0,↓s_os1,↓s_mov,↓s_bin,↓s_call,↓s_ext,s_same,b_neq,s_end,s_res0,s_res1,s_tup2,↓iteN_true,↓iteN_false,iteN_true,iteN_false,Nat.reduceEqDiff,decide_true,decide_false,Bool.not_false,List.getElem?_cons_zero,List.getElem?_cons_succ]
    try rfl
  subst he
  left
  have d1 : decide (((0 : Nat) : Int) = 0) = true := rfl
  have u1 : wr .u32 (v1 : Int) = (v1 : Int) := wr_u32 (by omega)
  have u4 : wr .u32 (n4 : Int) = (n4 : Int) := wr_u32 (by have : (256 : Nat) ^ 4 = 4294967296 := rfl; omega)
  have p1 : ∀ (h : H) p,storeE (some (.cells [.int .u32 0,.slice a na ca ea,.slice b nb cb eb,.int .u32 0] .rw)) h p 0 [.int .u32 (v1 : Int)] = some (h.put p (.cells [.int .u32 (v1 : Int),.slice a na ca ea,.slice b nb cb eb,.int .u32 0] .rw)) := fun h p => by
    rw [m_storeE _ _ _ _ _ (by simp only [List.length_cons,List.length_nil]; omega)]; rfl
  have p2 : ∀ (h : H) p,storeE (some (.cells [.int .u32 (v1 : Int),.slice a na ca ea,.slice b nb cb eb,.int .u32 0] .rw)) h p 3 [.int .u32 (n4 : Int)] = some (h.put p (.cells [.int .u32 (v1 : Int),.slice a na ca ea,.slice b nb cb eb,.int .u32 (n4 : Int)] .rw)) := fun h p => by
    rw [m_storeE _ _ _ _ _ (by simp only [List.length_cons,List.length_nil]; omega)]; rfl
  obtain ⟨P,eP⟩ : ∃ P : List V,[.int .u32 (v1 : Int),.slice a na ca ea,.slice b nb cb eb,.int .u32 (n4 : Int)] = P := ⟨_,rfl⟩
  have fP : Fit 4 P := by rw [← eP]; exact ⟨rfl,rfl⟩
  have stP := fun h i => fit_st fP h i
  have puP := fun h i => fit_put fP h i Z4 rfl
  have ldP := fun m => fit_ld fP m
  rw [eP] at p2
  obtain ⟨C0,eC0⟩ : ∃ P : List V,[.int .u32 0,.slice a na ca ea,.slice b nb cb eb,.int .u32 0] = P := ⟨_,rfl⟩
  obtain ⟨C1,eC1⟩ : ∃ P : List V,[.int .u32 (v1 : Int),.slice a na ca ea,.slice b nb cb eb,.int .u32 0] = P := ⟨_,rfl⟩
  rw [eC0] at p1 gw
  rw [eC1] at p1 p2
  rw [eP]
  obtain ⟨h1,eh1⟩ : ∃ h1,h.put w (.cells C1 .rw) = h1 := ⟨_,rfl⟩
  have g1 : h1.get w = some (.cells C1 .rw) := by rw [← eh1]; exact h_put_same _ _ _
  obtain ⟨h2,eh2⟩ : ∃ h2,h1.put w (.cells P .rw) = h2 := ⟨_,rfl⟩
  have g2 : h2.get w = some (.cells P .rw) := by rw [← eh2]; exact h_put_same _ _ _
  have g2r : h2.get r2 = some (.cells Z4 .rw) := by rw [← eh2,h_put_ne _ _ hrw.symm,← eh1,h_put_ne _ _ hrw.symm,gr]
  have n2 : h2.next = h.next := by rw [← eh2,← eh1]; rfl
  refine ⟨rfl,h2.put r2 (.cells P .rw),?_,n2,fun j h1' h2' => by rw [h_put_ne _ _ h2'.symm,← eh2,h_put_ne _ _ h1'.symm,← eh1,h_put_ne _ _ h1'.symm]⟩
  clear eP eC0 eC1
  generalize Z4 = z4 at *
  generalize l.length = len at *
  simp (config := {maxSteps := 2000000}) (disch := first | omega | (simp only [List.length_cons,List.length_nil,List.length_append,List.length_drop]; omega)) only [R_purserref06_First_0,t0,t2,t5,t6,t7,r1,u1,u4,gw,p1,eh1,g1,p2,eh2,g2,ldP,g2r,stP,puP,Bool.not_true,↓x_conv,x_convV,↓x_conv,x_convV,↓x_fieldAddr,x_fieldV,Nat.zero_add,Nat.add_zero,↓h_put_get,↓s_load,m_load,↓m_st,m_stE,m_storeI,Int.cast_ofNat_Int,s_resc,s_consR,s_res0,↓s_skip,↓s_ops,↓s_seq,↓s_cond,↓s_ret,↓s_nil,↓s_op,↓s_bindS,s_bindS,↓s_bindE,s_bindE,s_norm,↓s_condV,s_condV,↓s_getp,↓s_getp0,↓s_con,↓s_os0,↓s_os1,↓s_mov,↓s_bin,↓s_call,↓s_ext,s_same,b_neq,s_end,s_res0,s_res1,s_tup2,↓iteN_true,↓iteN_false,iteN_true,iteN_false,Nat.zero_add,Nat.reduceEqDiff,decide_true,decide_false,Bool.not_true,List.getElem?_cons_zero,List.getElem?_cons_succ]
  try rfl
end Go.Eng
