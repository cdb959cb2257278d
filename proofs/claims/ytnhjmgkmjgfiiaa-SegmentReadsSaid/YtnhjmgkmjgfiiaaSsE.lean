/- What functions of the program come to: own work. -/
import Derived.Test.YtnhjmgkmjgfiiaaSsD
namespace Go.Eng
open Go
variable {E:Nat→Option Fn} {X:Orc}
set_option linter.unusedSimpArgs false
set_option linter.unusedVariables false
theorem fl1 (y:V) (a:Option (Nat × Nat)) (n:Nat) (c:Option Nat) (e:Nat):fillV [y] [(0,1,.slice a n c e)]=some [.slice a n c e]:=rfl
/-- what is read in a group -/
theorem ga_of (num:Nat):∀ (n:Nat) (b:List Nat) (acc:List Rq) (g:List Rq) (j:Nat),byt b=true→gaV num n b acc=some (g,j)→∃ g',g=acc++g'∧g≠[]∧(∀ o ∈ g',o.kind≠255∧rqOk o=true∧o.ok∧o.l.length≤b.length)∧b.take j=rB (g'++[mkR num g.length])∧j≤b.length∧j=(rB g').length+25:=by
  intro n
  induction n with
  | zero => intro b acc g j bb h; cases h
  | succ n ih =>
    intro b acc g j bb h
    rw [ga_succ] at h
    cases hd:dcV b with
    | none => rw [hd] at h; cases h
    | some z =>
      obtain ⟨o,k⟩:=z
      rw [hd] at h
      obtain ⟨f1,f2,f3,f4,f5⟩:=dc_of b bb o k hd
      simp only at h
      by_cases hk:o.kind=255
      · rw [if_pos hk] at h
        by_cases hb:acc=[]∨o.l≠mkP num acc.length
        · rw [if_pos hb] at h; cases h
        · rw [if_neg hb] at h
          cases h
          have he:o.l=mkP num acc.length:=Classical.byContradiction (fun h => hb (.inr h))
          have eo:o=mkR num acc.length:=by
            cases o
            simp only at hk he
            rw [hk,he]; rfl
          refine ⟨[],by rw [List.append_nil],fun h => hb (.inl h),(fun o ho => by cases ho),?_,f5,?_⟩
          · rw [f3,eo,List.nil_append,rB_cons]; simp [rB]
          · rw [f4,he,mkP_len]; rfl
      · rw [if_neg hk] at h
        cases hg:gaV num n (b.drop k) (acc++[o]) with
        | none => rw [hg] at h; cases h
        | some w =>
          obtain ⟨gr,j'⟩:=w
          rw [hg] at h
          cases h
          obtain ⟨g',q1,q2,q3,q4,q5,q6⟩:=ih (b.drop k) (acc++[o]) g j' (byt_drop bb _) hg
          rw [List.length_drop] at q3 q5
          refine ⟨o :: g',by rw [q1,List.append_assoc]; rfl,q2,fun o' ho => ?_,?_,by omega,?_⟩
          · rcases List.mem_cons.1 ho with rfl | ho
            · exact ⟨hk,f1,f2,by omega⟩
            · obtain ⟨w1,w2,w3,w4⟩:=q3 o' ho; exact ⟨w1,w2,w3,by omega⟩
          · rw [List.take_add,f3,q4,List.cons_append,rB_cons]
          · rw [rB_cons,List.length_append,q6,f4,rqB_len]; omega
theorem gaR_of (num:Nat) (s:List Nat) (bs:byt s=true) (at_:Nat) (hat:at_≤s.length) (h:(gaR num s at_).2.2=true):at_+25≤(gaR num s at_).2.1∧(gaR num s at_).2.1≤s.length:=by
  unfold gaR at h ⊢
  cases hg:gaV num (s.length+1) (s.drop at_) [] with
  | none => rw [hg] at h; cases h
  | some w =>
    obtain ⟨g,j⟩:=w
    obtain ⟨g',q1,q2,q3,q4,q5,q6⟩:=ga_of num _ _ _ g j (byt_drop bs _) hg
    rw [List.length_drop] at q5
    constructor
    · show at_+25≤at_+j; omega
    · show at_+j≤_; omega
/-- all groups that stand from a place on -/
def grV (s:List Nat):Nat→Nat→Nat→List (List Rq) × Nat
  | 0,at_,_ => ([],at_)
  | n+1,at_,num => if num=0 then ([],at_) else if (gaR num s at_).2.2=false then ([],at_) else ((gaR num s at_).1 :: (grV s n (gaR num s at_).2.1 ((num+1) % 18446744073709551616)).1,(grV s n (gaR num s at_).2.1 ((num+1) % 18446744073709551616)).2)
theorem gr_succ (s:List Nat) (n at_ num:Nat):grV s (n+1) at_ num=if num=0 then ([],at_) else if (gaR num s at_).2.2=false then ([],at_) else ((gaR num s at_).1 :: (grV s n (gaR num s at_).2.1 ((num+1) % 18446744073709551616)).1,(grV s n (gaR num s at_).2.1 ((num+1) % 18446744073709551616)).2):=rfl
abbrev geK (lo:Nat):Nat→Prop:=fun j => lo≤j
theorem gy_go (x:NoSg X) (M L p4 p5 D lo:Nat) (T0:Tr V) (t4:evO T0 (.t 4)=.ptr (some (p4,0))) (t5:evO T0 (.t 5)=.ptr (some (p5,0))) (hp4:p4 < lo) (hp5:p5 < lo) (hL:L < lo) (z45:p4≠p5) (zL4:L≠p4) (zL5:L≠p5) (h:H) (hlo:lo≤h.next) (gs:List (List Rq)) (hd:gs.length≤1000000) (a:Option (Nat × Nat)) (c:Option Nat) (ez:Nat) (n0:Int)
    (g4:h.get p4=some (.cells [.slice a gs.length c ez] .rw)) (g5:h.get p5=some (.cells [.int .i64 n0] .rw)) (gL:h.get L=some (.loop 0 none 20 T0 [11,12] A_segment_Read_0 B_segment_Read_0 D)) (row:GgF (geK lo) lo h gs a c ez)
    (g:List Rq) (b:Option (Nat × Nat)) (cb:Option Nat) (eb:Nat) (hs:RrK (fun j => lo≤j∧a≠some (j,0)) h g b eb) (at':Nat) :
    ∃ h' a' c' e',callX E X (M+1) (.yld L) [.int .i64 (at':Int),.slice b g.length cb eb] h=some (.bool true,h')∧h.next≤h'.next∧h'.get p4=some (.cells [.slice a' (gs.length+1) c' e'] .rw)∧h'.get p5=some (.cells [.int .i64 (at':Int)] .rw)∧h'.get L=some (.loop 0 none 20 T0 [11,12] A_segment_Read_0 B_segment_Read_0 D)∧GgF (geK lo) lo h' (gs++[g]) a' c' e'∧∀ i,i < lo→i≠p4→i≠p5→i≠L→h'.get i=h.get i:=by
  have yx:callX E X (M+1) (.yld L) [.int .i64 (at':Int),.slice b g.length cb eb] h=cYld (callX E X M) M L [.int .i64 (at':Int),.slice b g.length cb eb] h:=x_yld (x.y _ _ _)
  rw [yx]
  have y4:(L=p4)=False:=by simp; omega
  have y4':(p4=L)=False:=by simp; omega
  have y5:(L=p5)=False:=by simp; omega
  have y5':(p5=L)=False:=by simp; omega
  obtain ⟨hB,eB⟩:∃ hB,h.put L (.loop 1 none 20 T0 [11,12] A_segment_Read_0 B_segment_Read_0 D)=hB:=⟨_,rfl⟩
  have nB:hB.next=h.next:=by rw [← eB]; rfl
  have fB:∀ i,i≠L→hB.get i=h.get i:=fun i hne => by rw [← eB,h_put_ne _ _ (Ne.symm hne)]
  have gBL:hB.get L=some (.loop 1 none 20 T0 [11,12] A_segment_Read_0 B_segment_Read_0 D):=by rw [← eB]; exact h_put_same _ _ _
  have gB4:hB.get p4=some (.cells [.slice a gs.length c ez] .rw):=by rw [fB _ (Ne.symm zL4),g4]
  obtain ⟨hC,eC⟩:∃ hC,hB.new (.cells [.slice b g.length cb eb] .rw)=hC:=⟨_,rfl⟩
  have kC:Kp hB hC:=by rw [← eC]; exact Kp.new _ _
  have nC:hC.next=h.next+1:=by rw [← eC,h_next_new,nB]
  have frC:∀ i,lo≤i→i < h.next→hC.get i=h.get i:=fun i h1 h2 => by rw [kC.2 _ (by omega),fB _ (by omega)]
  have rowC:GgF (geK lo) lo hC gs a c ez:=row.mono (by omega) frC frC
  have hsC:RrK (fun j => lo≤j∧a≠some (j,0)) hC g b eb:=hs.mono (by omega) (fun i hk hi => frC i hk.1 hi) (fun _ h _ => h)
  obtain ⟨hD,ap,rowD,nD,fD⟩:=gap_row (geK lo) lo hC (by omega) gs hd a c ez rowC g b cb eb hsC
  have scC:=src_g hB b g.length cb eb
  rw [eC] at scC
  have na4:a≠some (p4,0):=fun e => by have:=(row.lt e).1; omega
  have na5:a≠some (p5,0):=fun e => by have:=(row.lt e).1; omega
  have naL:a≠some (L,0):=fun e => by have:=(row.lt e).1; omega
  have gD4:hD.get p4=some (.cells [.slice a gs.length c ez] .rw):=by rw [fD _ (by omega) na4,kC.2 _ (by omega),gB4]
  have gD5:hD.get p5=some (.cells [.int .i64 n0] .rw):=by rw [fD _ (by omega) na5,kC.2 _ (by omega),fB _ (Ne.symm zL5),g5]
  have gDL:hD.get L=some (.loop 1 none 20 T0 [11,12] A_segment_Read_0 B_segment_Read_0 D):=by rw [fD _ (by omega) naL,kC.2 _ (by omega),gBL]
  obtain ⟨hE,eE⟩:∃ hE,((hD.put p4 (.cells [.slice (some (hC.next,0)) (gs.length+1) none 1] .rw)).put p5 (.cells [.int .i64 (at':Int)] .rw)).put L (.loop 0 none 20 T0 [11,12] A_segment_Read_0 B_segment_Read_0 D)=hE:=⟨_,rfl⟩
  have z2:(p4=p5)=False:=by simp; omega
  have z3:(p5=p4)=False:=by simp; omega
  have nE:hE.next=hD.next:=by rw [← eE]; rfl
  have frE:∀ i,lo≤i→hE.get i=hD.get i:=fun i h1 => by rw [← eE,h_put_ne _ _ (by omega),h_put_ne _ _ (by omega),h_put_ne _ _ (by omega)]
  refine ⟨hE,some (hC.next,0),none,1,?_,by omega,by rw [← eE]; (simp (disch:=omega) only [h_put_get,decide_true,decide_false,iteN_true,iteN_false,y4,z3]; try rfl),by rw [← eE]; (simp (disch:=omega) only [h_put_get,decide_true,decide_false,iteN_true,iteN_false,y5]; try rfl),by rw [← eE]; exact h_put_same _ _ _,rowD.mono (by omega) (fun i h1 h2 => frE i h1) (fun i h1 h2 => frE i h1),fun i hi n4 n5 nL => by rw [← eE,h_put_ne _ _ (Ne.symm nL),h_put_ne _ _ (Ne.symm n5),h_put_ne _ _ (Ne.symm n4),fD _ (by omega) (fun e => by have:=(row.lt e).1; omega),kC.2 _ (by omega),fB _ nL]⟩
  generalize gs.length=gl at *
  generalize g.length=gg at *
  simp (config:={maxSteps:=2000000}) (disch:=first | omega | (simp only [List.length_cons,List.length_nil,List.length_append,List.length_drop]; omega)) only [gL,t4,t5,y4',y5',z2,m_storeS,eB,gB4,eC,scC,ap,gD4,gD5,gDL,eE,y_cyld,y_ready,y_set2,y_mid,y_busy,y_end,y_done,y_jn,Option.isNone_none,↓u_A_segment_Read_0,↓u_B_segment_Read_0,↓s_append,Nat.zero_add,↓h_put_get,↓s_load,m_load,↓m_load1,m_load1,↓m_st,m_stE,m_storeI,m_storeE,w_zero,↓x_buildS,x_buildE,↓x_P0,↓x_P1,x_fill0,x_fills,List.length_cons,List.length_nil,List.drop_succ_cons,List.drop_nil,↓s_ops,↓s_seq,↓s_block,↓s_nil,↓s_op,↓s_bindS,s_bindS,↓s_bindE,s_bindE,s_norm,s_block_normal,↓s_getp,↓s_getp0,↓s_get,↓s_mov,s_same,↓iteN_true,↓iteN_false,iteN_true,iteN_false,Nat.zero_add,List.append_nil,Nat.reduceEqDiff,decide_true,decide_false,List.getElem?_cons_zero]
structure GwI (hB:H) (L p4 p5 pn lo D:Nat) (T0:Tr V) (gs:List (List Rq)) (at_ num:Nat) (h:H):Prop where
  st:∃ a c e,h.get p4=some (.cells [.slice a gs.length c e] .rw)∧GgF (geK lo) lo h gs a c e
  g5:h.get p5=some (.cells [.int .i64 (at_:Int)] .rw)
  gn:h.get pn=some (.cells [.int .u64 (num:Int)] .rw)
  gL:h.get L=some (.loop 0 none 20 T0 [11,12] A_segment_Read_0 B_segment_Read_0 D)
  nx:lo≤h.next
  fr:∀ i,i < lo→i≠p4→i≠p5→i≠pn→i≠L→h.get i=hB.get i
structure GwE (hB:H) (L p4 p5 pn lo D:Nat) (T0:Tr V) (gs:List (List Rq)) (at_:Nat) (h:H):Prop where
  st:∃ a c e,h.get p4=some (.cells [.slice a gs.length c e] .rw)∧GgF (geK lo) lo h gs a c e
  g5:h.get p5=some (.cells [.int .i64 (at_:Int)] .rw)
  gL:h.get L=some (.loop 0 none 20 T0 [11,12] A_segment_Read_0 B_segment_Read_0 D)
  nx:lo≤h.next
  fr:∀ i,i < lo→i≠p4→i≠p5→i≠pn→i≠L→h.get i=hB.get i
theorem gr_walk (e:EnSg E) (x:NoSg X) (M:Nat) (hM:1000000 < M) (hB:H) (L p4 p5 pn ps lo D:Nat) (T0:Tr V) (t4:evO T0 (.t 4)=.ptr (some (p4,0))) (t5:evO T0 (.t 5)=.ptr (some (p5,0))) (hp4:p4 < lo) (hp5:p5 < lo) (hpn:pn < lo) (hL:L < lo) (hps:ps < lo) (z45:p4≠p5) (zL4:L≠p4) (zL5:L≠p5) (n4:pn≠p4) (n5:pn≠p5) (nL:pn≠L) (s4:ps≠p4) (s5:ps≠p5) (sn:ps≠pn) (sL:ps≠L)
    (s:List Nat) (bs:byt s=true) (hs:s.length≤900000) (a:Option (Nat × Nat)) (c:Option Nat) (ez:Nat) (sb:SB s a c ez) (md:Md) (gs_:hB.get ps=some (.cells [.slice a s.length c ez] md)) (src:∀ h:H,lo≤h.next→(∀ i,i < lo→i≠p4→i≠p5→i≠pn→i≠L→h.get i=hB.get i)→SrcH h a ez s) :
    ∀ (n g:Nat) (gs:List (List Rq)) (at_ num:Nat) (T:Tr V) (h:H),s.length - at_≤n→n+1 < g→at_≤s.length→gs.length≤at_→num < 18446744073709551616→evO T (.t 0)=.yld L→evO T (.t 1)=.ptr (some (pn,0))→evO T (.t 2)=.ptr (some (ps,0))→evO T (.t 4)=.int .i64 (at_:Int)→GwI hB L p4 p5 pn lo D T0 gs at_ num h →
    ∃ ex T' h',loopN (evC (callX E X (M+23)) 30 (M+23) none L_segment_groups_1_0) g ⟨T,[],h⟩=some (ex,⟨T',[],h'⟩)∧(ex=.exit 0∨ex=.ret)∧GwE hB L p4 p5 pn lo D T0 (gs++(grV s (n+1) at_ num).1) (grV s (n+1) at_ num).2 h'∧h.next≤h'.next:=by
  -- nothing more
  have stop:∀ (gs:List (List Rq)) (at_ num:Nat) (T:Tr V) (h:H),at_≤s.length→num < 18446744073709551616→evO T (.t 0)=.yld L→evO T (.t 1)=.ptr (some (pn,0))→evO T (.t 2)=.ptr (some (ps,0))→evO T (.t 4)=.int .i64 (at_:Int)→GwI hB L p4 p5 pn lo D T0 gs at_ num h→(num=0∨(gaR num s at_).2.2=false)→∃ ex T' h',evC (callX E X (M+23)) 30 (M+23) none L_segment_groups_1_0 ⟨T,[],h⟩=some (ex,⟨T',[],h'⟩)∧(ex=.exit 0∨ex=.ret)∧GwE hB L p4 p5 pn lo D T0 gs at_ h'∧h.next≤h'.next:=by
    intro gs at_ num T h hat hnum t0 t1 t2 t4' I hd
    have gn:=I.gn
    by_cases hz:num=0
    · subst hz
      have z0:decide (((0:Nat):Int)=0)=true:=rfl
      have z1:decide ((0:Int)=0)=true:=rfl
      refine ⟨.exit 0,_,h,by
        simp (config:={maxSteps:=2000000}) (disch:=first | omega | (simp only [List.length_cons,List.length_nil,List.length_append,List.length_drop]; omega)) only [L_segment_groups_1_0,t1,gn,Bool.not_true,↓s_load,m_load,↓m_load1,m_load1,Int.cast_ofNat_Int,↓s_ops,↓s_seq,↓s_cond,↓s_exit,↓s_nil,↓s_op,↓s_bindS,s_bindS,↓s_bindE,s_bindE,s_bindE_exit,s_norm,↓s_condV,s_condV,↓s_getp,↓s_con,↓s_bin,s_same,b_neq,↓iteN_true,↓iteN_false,iteN_true,iteN_false,decide_true,Bool.not_true,List.getElem?_cons_zero]
        exact rfl,.inl rfl,⟨I.st,I.g5,I.gL,I.nx,I.fr⟩,Nat.le_refl _⟩
    · have hf:(gaR num s at_).2.2=false:=hd.resolve_left hz
      have z0:decide ((num:Int)=0)=false:=decide_eq_false (by omega)
      have gs':h.get ps=some (.cells [.slice a s.length c ez] md):=by rw [I.fr _ hps s4 s5 sn sL,gs_]
      obtain ⟨h1,ar,cr,er,r1,k1,row1⟩:=groupAt_go e x M hM s bs hs a c ez sb at_ num hat hnum h (src h I.nx I.fr)
      rw [hf] at r1
      have kn:=k1.1
      have nx:=I.nx
      obtain ⟨⟨ar',cr',er',g4,row⟩,g5,_,gL,_,fr⟩:=I
      generalize (gaR num s at_).1.length=gl at *
      generalize (gaR num s at_).2.1=gn' at *
      obtain ⟨sl,esl⟩:∃ k,s.length=k:=⟨_,rfl⟩
      rw [esl] at gs' r1
      exact ⟨.ret,_,h1,by
        simp (config:={maxSteps:=2000000}) (disch:=first | omega | (simp only [List.length_cons,List.length_nil,List.length_append,List.length_drop]; omega)) only [L_segment_groups_1_0,t1,t2,t4',gn,gs',z0,r1,Bool.not_false,↓s_load,m_load,↓m_load1,m_load1,↓s_skip,↓s_ops,↓s_seq,↓s_cond,↓s_block,↓s_ret,↓s_nil,↓s_op,↓s_opg,↓s_wanted',↓s_wantV,s_wantV,beq_false,↓s_bindS,s_bindS,↓s_bindE,s_bindE,s_bindE_ret,s_norm,↓s_condV,s_condV,s_block_ret,↓s_getp,↓s_con,↓s_os0,↓s_os1,↓s_mov,↓s_pick,↓s_pickE,s_pickE,↓s_bin,↓s_un,↓s_call,↓s_ext,s_same,b_neq,u_not,↓iteN_true,↓iteN_false,iteN_true,iteN_false,Nat.reduceEqDiff,decide_true,decide_false,Bool.not_true,Bool.not_false,List.getElem?_cons_zero,List.getElem?_cons_succ]
        exact rfl,.inr rfl,⟨⟨ar',cr',er',by rw [k1.2 _ (by omega),g4],row.kp k1⟩,by rw [k1.2 _ (by omega),g5],by rw [k1.2 _ (by omega),gL],by omega,fun i h1 h2 h3 h4 h5 => by rw [k1.2 _ (by omega),fr i h1 h2 h3 h4 h5]⟩,by omega⟩
  intro n
  induction n with
  | zero =>
    intro g gs at_ num T h hn hg hat hgs hnum t0 t1 t2 t4' I
    obtain ⟨g,rfl⟩:∃ k,g=k+1:=⟨g - 1,by omega⟩
    have hf:num=0∨(gaR num s at_).2.2=false:=by
      right
      cases hb:(gaR num s at_).2.2 with
      | false => rfl
      | true => have:=gaR_of num s bs at_ hat hb; omega
    obtain ⟨ex,T',h',r,q,J,nx⟩:=stop gs at_ num T h hat hnum t0 t1 t2 t4' I hf
    refine ⟨ex,T',h',by rw [l_succ,r]; rcases q with rfl | rfl <;> rfl,q,?_,nx⟩
    rw [gr_succ]
    rcases hf with hf | hf
    · rw [if_pos hf,List.append_nil]; exact J
    · by_cases hz:num=0
      · rw [if_pos hz,List.append_nil]; exact J
      · rw [if_neg hz,if_pos hf,List.append_nil]; exact J
  | succ n ih =>
    intro g gs at_ num T h hn hg hat hgs hnum t0 t1 t2 t4' I
    obtain ⟨g,rfl⟩:∃ k,g=k+1:=⟨g - 1,by omega⟩
    by_cases hf:num=0∨(gaR num s at_).2.2=false
    · obtain ⟨ex,T',h',r,q,J,nx⟩:=stop gs at_ num T h hat hnum t0 t1 t2 t4' I hf
      refine ⟨ex,T',h',by rw [l_succ,r]; rcases q with rfl | rfl <;> rfl,q,?_,nx⟩
      rw [gr_succ]
      by_cases hz:num=0
      · rw [if_pos hz,List.append_nil]; exact J
      · rw [if_neg hz,if_pos (hf.resolve_left hz),List.append_nil]; exact J
    · have hz:num≠0:=fun h => hf (.inl h)
      have ht:(gaR num s at_).2.2=true:=by
        cases hb:(gaR num s at_).2.2 with
        | true => rfl
        | false => exact absurd (.inr hb) hf
      rw [gr_succ,if_neg hz,ht,if_neg (by simp)]
      have z0:decide ((num:Int)=0)=false:=decide_eq_false (by omega)
      have gs':h.get ps=some (.cells [.slice a s.length c ez] md):=by rw [I.fr _ hps s4 s5 sn sL,gs_]
      obtain ⟨h1,ar,cr,er,r1,k1,row1⟩:=groupAt_go e x M hM s bs hs a c ez sb at_ num hat hnum h (src h I.nx I.fr)
      rw [ht] at r1
      obtain ⟨w1,w2⟩:=gaR_of num s bs at_ hat ht
      obtain ⟨G,eG⟩:∃ G,(gaR num s at_).1=G:=⟨_,rfl⟩
      obtain ⟨nx',enx⟩:∃ G,(gaR num s at_).2.1=G:=⟨_,rfl⟩
      rw [eG,enx] at r1 ⊢
      rw [eG] at row1
      rw [enx] at w1 w2
      have kn:=k1.1
      have nx:=I.nx
      have gn:=I.gn
      obtain ⟨⟨ar',cr',er',g4,row⟩,g5,_,gL,_,fr⟩:=I
      obtain ⟨h3,a3,c3,e3,yr,yn,y4,y5,yL,yrow,yfr⟩:=gy_go (E:=E) x (M+22) L p4 p5 D lo T0 t4 t5 hp4 hp5 hL z45 zL4 zL5 h1 (by omega) gs (by omega) ar' cr' er' (at_:Int) (by rw [k1.2 _ (by omega),g4]) (by rw [k1.2 _ (by omega),g5]) (by rw [k1.2 _ (by omega),gL]) (row.kp k1) G ar cr er (row1.k.mono (Nat.le_refl _) (fun _ _ _ => rfl) (fun i hk hi => ⟨by omega,fun e => by have:=(row.lt e).2.1; omega⟩)) nx'
      have gn1:h1.get pn=some (.cells [.int .u64 (num:Int)] .rw):=by rw [k1.2 _ (by omega),gn]
      have gn3:h3.get pn=some (.cells [.int .u64 (num:Int)] .rw):=by rw [yfr _ hpn n4 n5 nL,gn1]
      have wn:wr .u64 ((num:Int)+1)=(((num+1) % 18446744073709551616:Nat):Int):=by
        by_cases h64:num+1 < 18446744073709551616
        · rw [Nat.mod_eq_of_lt h64,wr_u64 (by omega)]; rfl
        · have:num=18446744073709551615:=by omega
          rw [this]; rfl
      obtain ⟨nm,enm⟩:∃ k,(num+1) % 18446744073709551616=k:=⟨_,rfl⟩
      have hnm:nm < 18446744073709551616:=by rw [← enm]; exact Nat.mod_lt _ (by decide)
      rw [enm] at wn ⊢
      obtain ⟨h4,eh4⟩:∃ h4,h3.put pn (.cells [.int .u64 (nm:Int)] .rw)=h4:=⟨_,rfl⟩
      have n4':h4.next=h3.next:=by rw [← eh4]; rfl
      have f4':∀ i,i≠pn→h4.get i=h3.get i:=fun i hi => by rw [← eh4,h_put_ne _ _ (Ne.symm hi)]
      have I4:GwI hB L p4 p5 pn lo D T0 (gs++[G]) nx' nm h4:=⟨⟨a3,c3,e3,by rw [f4' _ (Ne.symm n4),y4,List.length_append]; rfl,yrow.mono (by omega) (fun i h1 h2 => f4' i (by have:lo≤i:=h1; omega)) (fun i h1 h2 => f4' i (by omega))⟩,by rw [f4' _ (Ne.symm n5),y5],by rw [← eh4]; exact h_put_same _ _ _,by rw [f4' _ (Ne.symm nL),yL],by omega,fun i h1 h2 h3 h4' h5 => by rw [f4' i h4',yfr i h1 h2 h3 h5,k1.2 _ (by omega),fr i h1 h2 h3 h4' h5]⟩
      obtain ⟨T1,eT,u0,u1,u2,u4⟩:∃ T1,evC (callX E X (M+23)) 30 (M+23) none L_segment_groups_1_0 ⟨T,[],h⟩=some (.normal,⟨T1,[],h4⟩)∧evO T1 (.t 0)=.yld L∧evO T1 (.t 1)=.ptr (some (pn,0))∧evO T1 (.t 2)=.ptr (some (ps,0))∧evO T1 (.t 4)=.int .i64 (nx':Int):=by
        obtain ⟨sl,esl⟩:∃ k,s.length=k:=⟨_,rfl⟩
        obtain ⟨gl,egl⟩:∃ k,G.length=k:=⟨_,rfl⟩
        rw [esl] at gs' r1
        rw [egl] at r1 yr
        exact ⟨_,by
          simp (config:={maxSteps:=2000000}) (disch:=first | omega | (simp only [List.length_cons,List.length_nil,List.length_append,List.length_drop]; omega)) only [L_segment_groups_1_0,t0,t1,t2,t4',gn,gs',z0,r1,yr,gn3,wn,eh4,s_callVy,Bool.not_false,Bool.not_true,Nat.zero_add,↓s_load,m_load,↓m_load1,m_load1,↓m_st,m_stE,m_storeI,m_storeE,w_zero,List.length_cons,List.length_nil,List.drop_succ_cons,List.drop_nil,↓s_skip,↓s_ops,↓s_seq,↓s_cond,↓s_block,↓s_nil,↓s_op,↓s_opg,↓s_wanted',↓s_wantV,s_wantV,↓s_bindS,s_bindS,↓s_bindE,s_bindE,s_norm,↓s_condV,s_condV,s_block_normal,↓s_getp,↓s_con,↓s_os0,↓s_os1,↓s_mov,↓s_pick,↓s_pickE,s_pickE,↓s_bin,↓s_un,↓s_call,↓s_callv,↓s_ext,s_same,b_neq,b_add,u_not,↓iteN_true,↓iteN_false,iteN_true,iteN_false,Nat.zero_add,List.append_nil,Nat.reduceEqDiff,decide_true,decide_false,Bool.not_true,Bool.not_false,List.getElem?_cons_zero,List.getElem?_cons_succ,beq_self_eq_true]
          exact rfl,(by (simp only [s_getp,s_getp0,Nat.reduceEqDiff,decide_false,iteN_false,t0]; try rfl)),(by (simp only [s_getp,s_getp0,Nat.reduceEqDiff,decide_false,iteN_false,t1]; try rfl)),(by (simp only [s_getp,s_getp0,Nat.reduceEqDiff,decide_false,iteN_false,t2]; try rfl)),(by (simp only [s_getp,s_getp0,Nat.reduceEqDiff,decide_false,decide_true,iteN_false,iteN_true]; try rfl))⟩
      obtain ⟨ex,T',h',r,q1,q2,q3⟩:=ih g (gs++[G]) nx' nm T1 h4 (by omega) (by omega) w2 (by rw [List.length_append]; simp; omega) hnm u0 u1 u2 u4 I4
      refine ⟨ex,T',h',by rw [l_succ,eT,l_normal]; exact r,q1,?_,by omega⟩
      rw [List.append_assoc] at q2
      exact q2
end Go.Eng
namespace Go.Eng
open Go
variable {E:Nat→Option Fn} {X:Orc}
set_option linter.unusedSimpArgs false
set_option linter.unusedVariables false
theorem GgF.lo {lo lo2:Nat} {h:H} {gs:List (List Rq)} {a:Option (Nat × Nat)} {c:Option Nat} {e:Nat} (r:GgF (geK lo) lo h gs a c e) (hl:lo2≤lo):GgF (geK lo2) lo2 h gs a c e:=by
  rcases r with r | ⟨h1,q,md,vs,e1,e2,e3,g,hv,hm,hl',hq,at_⟩
  · exact .inl r
  · exact .inr ⟨h1,q,md,vs,e1,e2,e3,g,hv,hm,by omega,hq,fun i o ho => by
      obtain ⟨b,cb,eb,e4,s⟩:=at_ i o ho
      exact ⟨b,cb,eb,e4,s.mono (Nat.le_refl _) (fun _ _ _ => rfl) (fun i hk _ => ⟨by have:lo≤i:=hk.1; show lo2≤i; omega,hk.2⟩)⟩⟩
/-- what Read answers -/
def srR (s:List Nat) (num:Nat):List (List Rq) × Nat:=grV s (s.length+1) 0 num
theorem groups_go (e:EnSg E) (x:NoSg X) (N:Nat) (a:Option (Nat × Nat)) (n:Nat) (c:Option Nat) (ez:Nat) (num:Int) (h:H) :
    callX E X (N+1) (.fn k_segment_groups) [.slice a n c ez,.int .u64 num] h=some (.fn k_segment_groups_1 [] [.ptr (some (h.next+1,0)),.ptr (some (h.next,0))],(h.new (.cells [.slice a n c ez] .rw)).new (.cells [.int .u64 num] .rw)):=by
  rw [x_cfn e.gr _ _ (Nat.le_of_ble_eq_true rfl) (x.gr _ _)]
  have c1:(V.slice a n c ez).cells=[.slice a n c ez]:=rfl
  have c2:(V.int .u64 num).cells=[.int .u64 num]:=rfl
  simp (config:={maxSteps:=2000000}) (disch:=first | omega | (simp only [List.length_cons,List.length_nil,List.length_append,List.length_drop]; omega)) only [c1,c2,↓s_box,↓s_mkfn,Nat.zero_add,h_next_new,s_res0,↓s_ops,↓s_seq,↓s_ret,↓s_nil,↓s_op,↓s_bindS,s_bindS,↓s_bindE,s_bindE,s_norm,↓s_getp,↓s_get,↓s_con,↓s_os0,↓s_os1,↓s_list0,↓s_list1,↓s_mov,s_end,s_res0,s_res1,s_tup1,↓iteN_true,↓iteN_false,iteN_true,iteN_false,Nat.zero_add,Nat.reduceEqDiff,decide_true,decide_false]
theorem grp1_go (e:EnSg E) (x:NoSg X) (M:Nat) (hM:1000000 < M) (hB:H) (L p4 p5 pn ps lo D:Nat) (T0:Tr V) (t4:evO T0 (.t 4)=.ptr (some (p4,0))) (t5:evO T0 (.t 5)=.ptr (some (p5,0))) (hp4:p4 < lo) (hp5:p5 < lo) (hpn:pn < lo) (hL:L < lo) (hps:ps < lo) (z45:p4≠p5) (zL4:L≠p4) (zL5:L≠p5) (n4:pn≠p4) (n5:pn≠p5) (nL:pn≠L) (s4:ps≠p4) (s5:ps≠p5) (sn:ps≠pn) (sL:ps≠L)
    (s:List Nat) (bs:byt s=true) (hs:s.length≤900000) (a:Option (Nat × Nat)) (c:Option Nat) (ez:Nat) (sb:SB s a c ez) (md:Md) (gs_:hB.get ps=some (.cells [.slice a s.length c ez] md)) (src:∀ h:H,lo≤h.next→(∀ i,i < lo→i≠p4→i≠p5→i≠pn→i≠L→h.get i=hB.get i)→SrcH h a ez s) (num:Nat) (hnum:num < 18446744073709551616) (I:GwI hB L p4 p5 pn lo D T0 [] 0 num hB) :
    ∃ h',callX E X (M+24) (.fn k_segment_groups_1) [.yld L,.ptr (some (pn,0)),.ptr (some (ps,0))] hB=some (.tup [],h')∧GwE hB L p4 p5 pn lo D T0 (srR s num).1 (srR s num).2 h'∧hB.next≤h'.next:=by
  have fin:∀ T,evO T (.t 0)=.yld L→evO T (.t 1)=.ptr (some (pn,0))→evO T (.t 2)=.ptr (some (ps,0))→evO T (.t 4)=.int .i64 0→∃ h',fnEnd [] (blockE 0 (loopN (evC (callX E X (M+23)) 30 (M+23) none L_segment_groups_1_0) (M+23) ⟨T,[],hB⟩))=some (.tup [],h')∧GwE hB L p4 p5 pn lo D T0 (srR s num).1 (srR s num).2 h'∧hB.next≤h'.next:=by
    intro T t0 t1 t2 t4'
    obtain ⟨ex,T',h',r,q1,q2,q3⟩:=gr_walk e x M hM hB L p4 p5 pn ps lo D T0 t4 t5 hp4 hp5 hpn hL hps z45 zL4 zL5 n4 n5 nL s4 s5 sn sL s bs hs a c ez sb md gs_ src s.length (M+23) [] 0 num T hB (by omega) (by omega) (Nat.zero_le _) (by simp) hnum t0 t1 t2 t4' I
    rw [List.nil_append] at q2
    refine ⟨h',?_,q2,q3⟩
    rw [r]
    rcases q1 with rfl | rfl <;> rfl
  obtain ⟨Lo,eL⟩:∃ R,L_segment_groups_1_0=R:=⟨_,rfl⟩
  rw [x_cfn e.gr1 _ _ (Nat.le_of_ble_eq_true rfl) (x.gr1 _ _)]
  rw [eL] at fin ⊢
  simp (config:={maxSteps:=2000000}) (disch:=first | omega | (simp only [List.length_cons,List.length_nil,List.length_append,List.length_drop]; omega)) only [Nat.zero_add,↓l_loop,↓l_succ,Nat.reduceAdd,↓s_ops,↓s_seq,↓s_block,↓s_nil,↓s_op,↓s_bindS,s_bindS,↓s_bindE,s_bindE,s_norm,↓s_con,↓s_list0,↓s_list1,↓s_mov,Nat.zero_add]
  exact fin _ rfl rfl rfl rfl
theorem segread_go (e:EnSg E) (x:NoSg X) (M:Nat) (hM:1000000 < M) (s:List Nat) (bs:byt s=true) (hs:s.length≤900000) (num:Nat) (hnum:num < 18446744073709551616) (a:Option (Nat × Nat)) (c:Option Nat) (ez:Nat) (sb:SB s a c ez) (h:H) (src:SrcH h a ez s) :
    ∃ h' ar cr er,callX E X (M+26) (.fn k_segment_Read) [.slice a s.length c ez,.int .u64 (num:Int)] h=some (.tup [.slice ar (srR s num).1.length cr er,.int .i64 ((srR s num).2:Int)],h')∧Kp h h'∧GgF (geK h.next) h.next h' (srR s num).1 ar cr er:=by
  rw [x_cfn e.rd _ _ (Nat.le_of_ble_eq_true rfl) (x.rd _ _)]
  have hg:=fun h => groups_go e x (M+24) a s.length c ez (num:Int) h
  obtain ⟨hA,eA⟩:∃ hA,(((h.new (.cells [.slice none 0 (some 0) 0] .rw)).new (.cells [.int .i64 0] .rw)).new (.cells [.slice a s.length c ez] .rw)).new (.cells [.int .u64 (num:Int)] .rw)=hA:=⟨_,rfl⟩
  have nA:hA.next=h.next+4:=by rw [← eA]; rfl
  have gA0:hA.get h.next=some (.cells [.slice none 0 (some 0) 0] .rw):=by rw [← eA]; (simp (disch:=omega) only [h_new_get,h_next_new,Nat.add_assoc,Nat.add_eq_left,Nat.reduceAdd,decide_true,decide_false,iteN_true,iteN_false,Nat.reduceAdd,reduceCtorEq,]; try rfl)
  have gA1:hA.get (h.next+1)=some (.cells [.int .i64 0] .rw):=by rw [← eA]; (simp (disch:=omega) only [h_new_get,h_next_new,Nat.add_assoc,Nat.add_left_cancel_iff,Nat.reduceAdd,decide_true,decide_false,iteN_true,iteN_false,Nat.reduceEqDiff,Nat.reduceAdd,]; try rfl)
  have gA2:hA.get (h.next+2)=some (.cells [.slice a s.length c ez] .rw):=by rw [← eA]; (simp (disch:=omega) only [h_new_get,h_next_new,Nat.add_assoc,Nat.add_left_cancel_iff,Nat.reduceAdd,decide_true,decide_false,iteN_true,iteN_false,Nat.reduceEqDiff,Nat.reduceAdd,]; try rfl)
  have gA3:hA.get (h.next+3)=some (.cells [.int .u64 (num:Int)] .rw):=by rw [← eA]; (simp (disch:=omega) only [h_new_get,h_next_new,Nat.add_assoc,Nat.reduceAdd,decide_true,iteN_true,Nat.reduceAdd,]; try rfl)
  have kA:Kp h hA:=by rw [← eA]; (repeat (first | exact Kp.refl _ | refine Kp.put ?_ _ (by first | omega | (simp only [h_next_put,h_next_new,h_next_del]; omega)) | refine Kp.del ?_ (by first | omega | (simp only [h_next_put,h_next_new,h_next_del]; omega)) | refine Kp.trans ?_ (Kp.new _ _)))
  have fin:∀ T0,evO T0 (.t 0)=.slice a s.length c ez→evO T0 (.t 4)=.ptr (some (h.next,0))→evO T0 (.t 5)=.ptr (some (h.next+1,0))→∃ h' ar cr er,fnEnd [.cell 4 none,.cell 5 none] (bindE (blockE 0 (rangeEnd (h.next+5) T0 [h.next+4] (callF (callX E X (M+25)) (.yld (h.next+5)) (.fn k_segment_groups_1 [] [.ptr (some (h.next+3,0)),.ptr (some (h.next+2,0))]) ((hA.new .defers).new (.loop 0 none 20 T0 [11,12] A_segment_Read_0 B_segment_Read_0 (h.next+4)))))) (evC (callX E X (M+25)) 20 (M+25) none R_segment_Read_0))=some (.tup [.slice ar (srR s num).1.length cr er,.int .i64 ((srR s num).2:Int)],h')∧Kp h h'∧GgF (geK h.next) h.next h' (srR s num).1 ar cr er:=by
    intro T0 t0 t4 t5
    obtain ⟨hB,eB⟩:∃ hB,(hA.new .defers).new (.loop 0 none 20 T0 [11,12] A_segment_Read_0 B_segment_Read_0 (h.next+4))=hB:=⟨_,rfl⟩
    have nB:hB.next=h.next+6:=by rw [← eB]; simp only [h_next_new,nA]
    have kB:Kp hA hB:=by rw [← eB]; exact (Kp.new _ _).trans (Kp.new _ _)
    have gBd:hB.get (h.next+4)=some .defers:=by rw [← eB,h_new_ne _ _ (by rw [h_next_new,nA]; omega)]; exact h_new_same' _ _ nA
    have gBL:hB.get (h.next+5)=some (.loop 0 none 20 T0 [11,12] A_segment_Read_0 B_segment_Read_0 (h.next+4)):=by rw [← eB]; exact h_new_same' _ _ (by rw [h_next_new,nA])
    have gB0:hB.get h.next=some (.cells [.slice none 0 (some 0) 0] .rw):=by rw [kB.2 _ (by omega),gA0]
    have gB1:hB.get (h.next+1)=some (.cells [.int .i64 0] .rw):=by rw [kB.2 _ (by omega),gA1]
    have gB2:hB.get (h.next+2)=some (.cells [.slice a s.length c ez] .rw):=by rw [kB.2 _ (by omega),gA2]
    have gB3:hB.get (h.next+3)=some (.cells [.int .u64 (num:Int)] .rw):=by rw [kB.2 _ (by omega),gA3]
    obtain ⟨hC,r,I,nC⟩:=grp1_go e x (M+1) (by omega) hB (h.next+5) h.next (h.next+1) (h.next+3) (h.next+2) (h.next+6) (h.next+4) T0 t4 t5 (by omega) (by omega) (by omega) (by omega) (by omega) (by omega) (by omega) (by omega) (by omega) (by omega) (by omega) (by omega) (by omega) (by omega) (by omega) s bs hs a c ez sb .rw gB2 (fun h2 n2 f2 => by
      rcases src with s0 | ⟨bi,off,vs,m,h1,h2',h3,h4,h5,h6⟩
      · exact .inl s0
      · exact .inr ⟨bi,off,vs,m,h1,h2',by omega,by rw [f2 _ (by omega) (by omega) (by omega) (by omega) (by omega),kB.2 _ (by omega),kA.2 _ h3,h4],h5,h6⟩) num hnum ⟨⟨none,some 0,0,gB0,.inl ⟨rfl,rfl,rfl,rfl⟩⟩,gB1,gB3,gBL,by omega,fun _ _ _ _ _ _ => rfl⟩
    obtain ⟨⟨ar,cr,er,gC0,row⟩,gC1,gCL,_,fr⟩:=I
    have gCd:hC.get (h.next+4)=some .defers:=by rw [fr _ (by omega) (by omega) (by omega) (by omega) (by omega),gBd]
    have z2:(h.next+5=h.next+4)=False:=by simp
    have z2':(h.next+4=h.next+5)=False:=by simp
    have z3:(h.next+5=h.next+1)=False:=by simp
    have z4:(h.next+4=h.next+1)=False:=by simp
    have z5:(h.next+5=h.next)=False:=by simp
    have z6:(h.next+4=h.next)=False:=by simp
    have z7:(h.next+1=h.next)=False:=by simp
    have z8:(h.next=h.next+1)=False:=by simp
    rw [eB]
    replace r:callX E X (M+25) (.fn k_segment_groups_1) [.yld (h.next+5),.ptr (some (h.next+3,0)),.ptr (some (h.next+2,0))] hB=some (.tup [],hC):=r
    obtain ⟨hD,eD⟩:∃ hD,hC.del (h.next+5)=hD:=⟨_,rfl⟩
    have nD:hD.next=hC.next:=by rw [← eD]; rfl
    have fD:∀ i,i≠h.next+5→hD.get i=hC.get i:=fun i h1 => by rw [← eD,h_del_ne _ (Ne.symm h1)]
    obtain ⟨dn,edn⟩:∃ dn,(srR s num).1=dn:=⟨_,rfl⟩
    obtain ⟨en,een⟩:∃ en,(srR s num).2=en:=⟨_,rfl⟩
    rw [edn] at gC0 row
    rw [een] at gC1
    rw [edn,een]
    have gD0:hD.get h.next=some (.cells [.slice ar dn.length cr er] .rw):=by rw [fD _ (by omega),gC0]
    have gD1:hD.get (h.next+1)=some (.cells [.int .i64 (en:Int)] .rw):=by rw [fD _ (by omega),gC1]
    have gDd:hD.get (h.next+4)=some .defers:=by rw [fD _ (by omega),gCd]
    obtain ⟨hF,eF⟩:∃ hF,(hD.put h.next (.cells [.slice ar dn.length cr er] .rw)).put (h.next+1) (.cells [.int .i64 (en:Int)] .rw)=hF:=⟨_,rfl⟩
    have gFd:hF.get (h.next+4)=some .defers:=by rw [← eF,h_put_ne _ _ (by omega),h_put_ne _ _ (by omega),gDd]
    obtain ⟨hE,eE⟩:∃ hE,hF.del (h.next+4)=hE:=⟨_,rfl⟩
    have nE:hE.next=hC.next:=by rw [← eE,← eF]; exact nD
    have fE:∀ i,i≠h.next→i≠h.next+1→i≠h.next+5→i≠h.next+4→hE.get i=hC.get i:=fun i h1 h2 h3 h4 => by rw [← eE,h_del_ne _ (Ne.symm h4),← eF,h_put_ne _ _ (Ne.symm h2),h_put_ne _ _ (Ne.symm h1),fD _ h3]
    have gE0:hE.get h.next=some (.cells [.slice ar dn.length cr er] .rw):=by rw [← eE,h_del_ne _ (by omega),← eF]; (simp (disch:=omega) only [h_put_get,decide_true,decide_false,iteN_true,iteN_false,z7]; try rfl)
    have gE1:hE.get (h.next+1)=some (.cells [.int .i64 (en:Int)] .rw):=by rw [← eE,h_del_ne _ (by omega),← eF]; (simp (disch:=omega) only [h_put_get,decide_true,iteN_true,]; try rfl)
    have kE:Kp h hE:=⟨by omega,fun i hi => by rw [fE _ (by omega) (by omega) (by omega) (by omega),fr _ (by omega) (by omega) (by omega) (by omega) (by omega),kB.2 _ (by omega),kA.2 _ hi]⟩
    have rowE:GgF (geK h.next) h.next hE dn ar cr er:=by
      have row2:GgF (geK (h.next+6)) (h.next+6) hE dn ar cr er:=row.mono (by omega) (fun i h1 h2 => by have h1:h.next+6≤i:=h1; exact fE i (by omega) (by omega) (by omega) (by omega)) (fun i h1 h2 => fE i (by omega) (by omega) (by omega) (by omega))
      exact row2.lo (by omega)
    refine ⟨hE,ar,cr,er,?_,kE,rowE⟩
    generalize dn.length=dl at *
    generalize s.length=sl at *
    simp (config:={maxSteps:=2000000}) (disch:=first | omega | (simp only [List.length_cons,List.length_nil,List.length_append,List.length_drop]; omega)) only [s_callF,List.nil_append,List.cons_append,r,t4,t5,gCL,vb_i64 (en:Int),z8,eD,gD0,gD1,eF,gFd,eE,gE0,gE1,m_storeS,R_segment_Read_0,r_end,r_0,r_jn,e_ret,d_cons,d_yes,d_nil,e_some,Nat.zero_add,↓s_evD,↓s_dnil,↓s_dR,↓s_dRj,↓s_dB,↓s_bindD,s_bindD,s_finDx,s_addP0,↓s_bump0,s_ok0,↓s_ok1,s_okR0,↓s_okR1,↓s_okE,s_okE,s_okE1,s_nth0,s_nthS,Bool.and_self,↓h_put_get,↓s_load,m_load,↓m_load1,m_load1,↓m_st,m_stE,m_storeI,m_storeE,w_zero,List.length_cons,List.length_nil,List.cons_append,List.drop_succ_cons,List.drop_nil,List.nil_append,s_resc,s_consR,s_res0,↓s_dops,↓s_seq,↓s_ret,↓s_bindE,s_bindE,s_norm,s_block_normal,↓s_getp,↓s_getp0,s_same,s_res0,s_tup2,↓iteN_true,↓iteN_false,iteN_true,iteN_false,Nat.zero_add,List.nil_append,List.append_nil,Nat.reduceEqDiff,decide_true,decide_false,List.getElem?_cons_zero]
    try rfl
  obtain ⟨R,eR⟩:∃ R,R_segment_Read_0=R:=⟨_,rfl⟩
  rw [eR] at fin ⊢
  obtain ⟨sl,esl⟩:∃ n,s.length=n:=⟨_,rfl⟩
  rw [esl] at hg eA fin ⊢
  simp (config:={maxSteps:=2000000}) (disch:=first | omega | (simp only [List.length_cons,List.length_nil,List.length_append,List.length_drop]; omega)) only [hg,eA,nA,↓s_range,Nat.zero_add,h_next_new,Nat.add_assoc,↓s_alloc,Nat.reduceAdd,↓s_ops,↓s_seq,↓s_block,↓s_nil,↓s_op,↓s_bindS,s_bindS,↓s_bindE,s_bindE,s_norm,↓s_getp,↓s_get,↓s_os0,↓s_os1,↓s_list0,↓s_list1,↓s_mov,↓s_call,↓iteN_true,↓iteN_false,iteN_true,iteN_false,Nat.zero_add,Nat.reduceEqDiff,decide_true,decide_false]
  exact fin _ (by (simp only [s_getp,Nat.reduceEqDiff,decide_false,iteN_false]; try rfl)) (by (simp only [s_getp,Nat.reduceEqDiff,decide_false,decide_true,iteN_false,iteN_true]; try rfl)) (by (simp only [s_getp,Nat.reduceEqDiff,decide_false,decide_true,iteN_false,iteN_true]; try rfl))
end Go.Eng
namespace Go.Eng
open Go
variable {E:Nat→Option Fn} {X:Orc}
set_option linter.unusedSimpArgs false
set_option linter.unusedVariables false
/-! are groups great,and the same? -/
def ggR (gs:List (List Rq)):Bool:=decide (20 < gs.length) || gs.any grR
theorem gg_or (gs:List (List Rq)):(∀ g ∈ gs,grR g=false)∨∃ (j:Nat) (g:List Rq),gs[j]?=some g∧grR g=true∧∀ (i:Nat) (g':List Rq),i < j→gs[i]?=some g'→grR g'=false:=by
  induction gs with
  | nil => exact .inl (fun o ho => by cases ho)
  | cons a r ih =>
    cases ha:grR a with
    | true => exact .inr ⟨0,a,rfl,ha,fun i o' hi => by omega⟩
    | false =>
      rcases ih with ih | ⟨j,o,h1,h2,h3⟩
      · exact .inl (fun o ho => by rcases List.mem_cons.1 ho with rfl | ho; exact ha; exact ih o ho)
      · refine .inr ⟨j+1,o,by simpa using h1,h2,fun i o' hi ho => ?_⟩
        cases i with
        | zero => simp at ho; subst ho; exact ha
        | succ i => simp at ho; exact h3 i o' (by omega) ho
structure G7I (v:V) (n:Nat) (h0:H) (i:Nat) (T:Tr V) (h:H):Prop where
  il:i≤n
  t0:evO T (.t 0)=v
  t3:evO T (.t 3)=.int .i64 (i:Int)
  hh:h=h0
theorem great7_go (e:EnSg E) (x:NoSg X) (M:Nat) (hM:100 < M) (gs:List (List Rq)) (hb:gs.length < 9223372036854775807) (hbg:∀ g ∈ gs,g.length < 9223372036854775807) (a:Option (Nat × Nat)) (c:Option Nat) (ez:Nat) (h:H) (K:Nat→Prop) (row:GsK K h gs a ez) :
    callX E X (M+2) (.fn k_purserref17_Great) [.slice a gs.length c ez] h=some (.int .i64 (if ggR gs=true then 1 else 0),h):=by
  rw [x_cfn e.g7 _ _ (Nat.le_of_ble_eq_true rfl) (x.g7 _ _)]
  unfold ggR
  by_cases hl:20 < gs.length
  · have d0:decide ((20:Int) < (gs.length:Int))=true:=decide_eq_true (by omega)
    rw [decide_eq_true hl,Bool.true_or,if_pos rfl]
    generalize gs.length=n at *
    simp (config:={maxSteps:=2000000}) (disch:=first | omega | (simp only [List.length_cons,List.length_nil,List.length_append,List.length_drop]; omega)) only [d0,↓s_len,x_lenS,x_lenS,↓s_len,s_res0,↓s_ops,↓s_seq,↓s_cond,↓s_ret,↓s_nil,↓s_op,↓s_bindS,s_bindS,↓s_bindE,s_bindE,s_bindE_ret,s_norm,↓s_condV,s_condV,↓s_getp,↓s_get,↓s_con,↓s_list0,↓s_list1,↓s_mov,↓s_bin,s_same,b_gtr,s_end,s_res0,s_res1,s_tup1,↓iteN_true,↓iteN_false,iteN_true,iteN_false,Nat.reduceEqDiff,decide_true,decide_false]
    try rfl
  rw [decide_eq_false hl,Bool.false_or]
  have d0:decide ((20:Int) < (gs.length:Int))=false:=decide_eq_false (by omega)
  have y1:decide ((0:Int) < 1)=true:=rfl
  have y0:decide ((0:Int) < 0)=false:=rfl
  have one:∀ (i:Nat) (g:List Rq),gs[i]?=some g→∃ q off vs md b cb eb,a=some (q,off)∧ez=1∧h.get q=some (.cells vs md)∧vs[off+i]?=some (.slice b g.length cb eb)∧callX E X (M+1) (.fn k_purserref16_Great) [.slice b g.length cb eb] h=some (.int .i64 (if grR g=true then 1 else 0),h):=fun i g hg => by
    obtain ⟨q,off,vs,md,b,cb,eb,f1,f2,f3,f4,f5,f6,_⟩:=gs_at row i g hg
    exact ⟨q,off,vs,md,b,cb,eb,f1,f2,f4,f5,great_go e.g6 x.g6 M (by omega) g (hbg g (List.mem_of_getElem? hg)) b cb eb h f6.row⟩
  have fin:∀ T,G7I (.slice a gs.length c ez) gs.length h 0 T h→fnEnd [.tmp 2] (bindE (blockE 0 (loopN (evC (callX E X (M+1)) 19 (M+1) none L_purserref17_Great_0) (M+1) ⟨T,[],h⟩)) (evC (callX E X (M+1)) 19 (M+1) none R_purserref17_Great_0))=some (.int .i64 (if (gs.any grR)=true then 1 else 0),h):=by
    intro T I
    have step:∀ (i:Nat) (T:Tr V) (h':H) (g:List Rq),gs[i]?=some g→grR g=false→G7I (.slice a gs.length c ez) gs.length h i T h'→∃ T' h'',evC (callX E X (M+1)) 19 (M+1) none L_purserref17_Great_0 ⟨T,[],h'⟩=some (.normal,⟨T',[],h''⟩)∧G7I (.slice a gs.length c ez) gs.length h (i+1) T' h'':=by
      intro i T h' g hg hv ⟨_,t0,t3,hh⟩
      subst hh
      have hi:i < gs.length:=(List.getElem?_eq_some_iff.1 hg).1
      have c0:decide ((i:Int) < (gs.length:Int))=true:=decide_eq_true (by omega)
      have wi:wr .i64 ((i:Int)+1)=((i+1:Nat):Int):=by rw [wr_i64 (by omega)]; omega
      have ix:idx (i:Int) gs.length=some i:=idxn hi
      obtain ⟨q,off,vs,md,b,cb,eb,rfl,rfl,gq,cg,r1⟩:=one i g hg
      rw [hv,if_neg (by simp)] at r1
      have i1:i+1≤gs.length:=hi
      generalize g.length=w at *
      obtain ⟨n,en⟩:∃ n,gs.length=n:=⟨_,rfl⟩
      rw [en] at t0 c0 ix
      refine ⟨_,_,by
        simp (config:={maxSteps:=2000000}) (disch:=first | omega | (simp only [List.length_cons,List.length_nil,List.length_append,List.length_drop]; omega)) only [L_purserref17_Great_0,t0,t3,gq,cg,c0,wi,ix,r1,↓s_len,x_lenS,Nat.mul_one,↓s_load,m_load,↓m_load1,m_load1,↓x_idxS,x_idxSE,x_addrE,x_lenS,↓s_len,Int.reduceLT,↓s_skip,↓s_ops,↓s_seq,↓s_cond,↓s_block,↓s_nil,↓s_op,↓s_bindS,s_bindS,↓s_bindE,s_bindE,s_norm,↓s_condV,s_condV,s_block_normal,↓s_getp,↓s_con,↓s_os0,↓s_os1,↓s_mov,↓s_bin,↓s_call,s_same,b_lss,b_gtr,b_add,↓iteN_true,↓iteN_false,iteN_true,iteN_false,Nat.reduceEqDiff,decide_true,decide_false]
        exact rfl,⟨i1,by rw [en]; exact (by (simp only [s_getp,Nat.reduceEqDiff,decide_false,iteN_false,t0]; try rfl)),(by (simp only [s_getp,decide_true,iteN_true]; try rfl)),rfl⟩⟩
    rcases gg_or gs with hall | ⟨j,g,h1,h2,h3⟩
    · rw [List.any_eq_false.2 (fun g hg => by rw [hall g hg]; simp),if_neg (by simp)]
      obtain ⟨T',h',r,hh⟩:=loop_go (f:=evC (callX E X (M+1)) 19 (M+1) none L_purserref17_Great_0) (G7I (.slice a gs.length c ez) gs.length h) gs.length (.exit 0) (by intro h; cases h) (fun T h' => h'=h) (fun i T h' hi I => step i T h' _ (List.getElem?_eq_getElem hi) (hall _ (List.getElem_mem hi)) I) (fun T h' I => by
        obtain ⟨il,t0,t3,hh⟩:=I
        have c0:decide ((gs.length:Int) < (gs.length:Int))=false:=decide_eq_false (by omega)
        obtain ⟨n,en⟩:∃ n,gs.length=n:=⟨_,rfl⟩
        rw [en] at t0 t3 c0
        refine ⟨_,_,by
          simp (config:={maxSteps:=2000000}) (disch:=first | omega | (simp only [List.length_cons,List.length_nil,List.length_append,List.length_drop]; omega)) only [L_purserref17_Great_0,t0,t3,c0,↓s_len,x_lenS,x_lenS,↓s_len,↓s_ops,↓s_seq,↓s_cond,↓s_exit,↓s_nil,↓s_op,↓s_bindS,s_bindS,↓s_bindE,s_bindE,s_bindE_exit,s_norm,↓s_condV,s_condV,↓s_getp,↓s_mov,↓s_bin,s_same,b_lss,↓iteN_true,↓iteN_false,iteN_true,iteN_false,Nat.reduceEqDiff,decide_true,decide_false]
          exact rfl,hh⟩) gs.length 0 (by omega) (M+1) (by omega) T h I
      rw [r,hh]
      simp (config:={maxSteps:=2000000}) (disch:=first | omega | (simp only [List.length_cons,List.length_nil,List.length_append,List.length_drop]; omega)) only [R_purserref17_Great_0,s_res0,↓s_ops,↓s_seq,↓s_ret,↓s_nil,↓s_op,↓s_bindS,s_bindS,↓s_bindE,s_bindE,s_norm,s_block_exit,↓s_getp,↓s_con,↓s_mov,s_end,s_res0,s_res1,s_tup1,↓iteN_true,iteN_true,decide_true,if_true]
      try rfl
    · rw [List.any_eq_true.2 ⟨g,List.mem_of_getElem? h1,h2⟩,if_pos rfl]
      have hj:j < gs.length:=(List.getElem?_eq_some_iff.1 h1).1
      obtain ⟨T',h',r,t2,hh⟩:=loop_go (f:=evC (callX E X (M+1)) 19 (M+1) none L_purserref17_Great_0) (G7I (.slice a gs.length c ez) gs.length h) j .ret (by intro h; cases h) (fun T h' => evO T (.t 2)=.int .i64 1∧h'=h) (fun i T h' hi I => step i T h' _ (List.getElem?_eq_getElem (by omega)) (h3 i _ hi (List.getElem?_eq_getElem (by omega))) I) (fun T h' I => by
        obtain ⟨il,t0,t3,hh⟩:=I
        subst hh
        have c0:decide ((j:Int) < (gs.length:Int))=true:=decide_eq_true (by omega)
        have ix:idx (j:Int) gs.length=some j:=idxn hj
        obtain ⟨q,off,vs,md,b,cb,eb,rfl,rfl,gq,cg,r1⟩:=one j g h1
        rw [h2,if_pos rfl] at r1
        generalize g.length=w at *
        obtain ⟨n,en⟩:∃ n,gs.length=n:=⟨_,rfl⟩
        rw [en] at t0 c0 ix
        refine ⟨_,_,by
          simp (config:={maxSteps:=2000000}) (disch:=first | omega | (simp only [List.length_cons,List.length_nil,List.length_append,List.length_drop]; omega)) only [L_purserref17_Great_0,t0,t3,gq,cg,c0,ix,r1,↓s_len,x_lenS,Nat.mul_one,↓s_load,m_load,↓m_load1,m_load1,↓x_idxS,x_idxSE,x_addrE,x_lenS,↓s_len,Int.reduceLT,↓s_skip,↓s_ops,↓s_seq,↓s_cond,↓s_block,↓s_ret,↓s_nil,↓s_op,↓s_bindS,s_bindS,↓s_bindE,s_bindE,s_bindE_ret,s_norm,↓s_condV,s_condV,s_block_ret,↓s_getp,↓s_con,↓s_os0,↓s_os1,↓s_mov,↓s_bin,↓s_call,s_same,b_lss,b_gtr,↓iteN_true,↓iteN_false,iteN_true,iteN_false,Nat.reduceEqDiff,decide_true,decide_false]
          exact rfl,(by (simp only [s_getp,decide_true,iteN_true]; try rfl)),rfl⟩) j 0 (by omega) (M+1) (by omega) T h I
      rw [r,hh]
      simp (config:={maxSteps:=2000000}) (disch:=first | omega | (simp only [List.length_cons,List.length_nil,List.length_append,List.length_drop]; omega)) only [t2,s_res0,s_bindE_ret,s_block_ret,s_end,s_res0,s_res1,s_tup1]
      try rfl
  obtain ⟨R,eR⟩:∃ R,R_purserref17_Great_0=R:=⟨_,rfl⟩
  obtain ⟨Lo,eL⟩:∃ R,L_purserref17_Great_0=R:=⟨_,rfl⟩
  rw [eR,eL] at fin ⊢
  simp (config:={maxSteps:=2000000}) (disch:=first | omega | (simp only [List.length_cons,List.length_nil,List.length_append,List.length_drop]; omega)) only [d0,↓s_len,x_lenS,↓l_loop,↓l_succ,x_lenS,↓s_len,↓s_skip,↓s_ops,↓s_seq,↓s_cond,↓s_block,↓s_nil,↓s_op,↓s_bindS,s_bindS,↓s_bindE,s_bindE,s_norm,↓s_condV,s_condV,↓s_getp,↓s_get,↓s_con,↓s_list0,↓s_list1,↓s_mov,↓s_bin,s_same,b_gtr,↓iteN_true,↓iteN_false,iteN_true,iteN_false,Nat.reduceEqDiff,decide_true,decide_false]
  exact fin _ ⟨by omega,(by (simp only [s_getp,Nat.reduceEqDiff,decide_false,iteN_false]; try rfl)),(by (simp only [s_getp,decide_true,iteN_true]; try rfl)),rfl⟩
theorem eq_or2 {α:Type} [DecidableEq α]:∀ (as bs:List α),as.length=bs.length→as=bs∨∃ (j:Nat) (o p:α),as[j]?=some o∧bs[j]?=some p∧o≠p∧∀ (i:Nat) (o' p':α),i < j→as[i]?=some o'→bs[i]?=some p'→o'=p':=by
  intro as
  induction as with
  | nil => intro bs h; left; exact (List.length_eq_zero_iff.1 h.symm).symm
  | cons a r ih =>
    intro bs h
    cases bs with
    | nil => cases h
    | cons b s =>
      by_cases ab:a=b
      · rcases ih s (by simpa using h) with e | ⟨j,o,p,h1,h2,h3,h4⟩
        · left; rw [ab,e]
        · refine .inr ⟨j+1,o,p,by simpa using h1,by simpa using h2,h3,fun i o' p' hi ho hp => ?_⟩
          cases i with
          | zero => simp at ho hp; rw [← ho,← hp]; exact ab
          | succ i => simp at ho hp; exact h4 i o' p' (by omega) ho hp
      · exact .inr ⟨0,a,b,rfl,rfl,ab,fun i _ _ hi => by omega⟩
structure S7I (va vb:V) (n:Nat) (h0:H) (i:Nat) (T:Tr V) (h:H):Prop where
  il:i≤n
  t0:evO T (.t 0)=va
  t1:evO T (.t 1)=vb
  t5:evO T (.t 5)=.int .i64 (i:Int)
  hh:h=h0
theorem same7_go (e:EnSg E) (x:NoSg X) (M:Nat) (as bs:List (List Rq)) (hn:as.length≤1000000) (hM:as.length < M) (hbn:bs.length < 9223372036854775807) (hga:∀ g ∈ as,g.length≤1000000∧g.length < M∧∀ o ∈ g,o.ok) (hgb:∀ g ∈ bs,g.length < 9223372036854775807∧∀ o ∈ g,o.ok) (a b:Option (Nat × Nat)) (c d:Option Nat) (ea eb:Nat) (h:H) (K K':Nat→Prop) (ra:GsK K h as a ea) (rb:GsK K' h bs b eb) :
    callX E X (M+2) (.fn k_purserref17_Same) [.slice a as.length c ea,.slice b bs.length d eb] h=some (.bool (decide (as=bs)),h):=by
  rw [x_cfn e.ss _ _ (Nat.le_of_ble_eq_true rfl) (x.ss _ _)]
  by_cases hl:as.length=bs.length
  · have round:∀ (i:Nat) (T:Tr V) (h':H) (g k:List Rq),as[i]?=some g→bs[i]?=some k→S7I (.slice a as.length c ea) (.slice b bs.length d eb) as.length h i T h'→∃ T',(g=k→evC (callX E X (M+1)) 29 (M+1) none L_purserref17_Same_0 ⟨T,[],h'⟩=some (.normal,⟨T',[],h'⟩)∧S7I (.slice a as.length c ea) (.slice b bs.length d eb) as.length h (i+1) T' h')∧(g≠k→evC (callX E X (M+1)) 29 (M+1) none L_purserref17_Same_0 ⟨T,[],h'⟩=some (.ret,⟨T',[],h'⟩)∧evO T' (.t 4)=.bool false):=by
      intro i T h' g k hg hk ⟨_,t0,t1,t5,hh⟩
      subst hh
      have hi:i < as.length:=(List.getElem?_eq_some_iff.1 hg).1
      have c0:decide ((i:Int) < (as.length:Int))=true:=decide_eq_true (by omega)
      have wi:wr .i64 ((i:Int)+1)=((i+1:Nat):Int):=by rw [wr_i64 (by omega)]; omega
      have ix:idx (i:Int) as.length=some i:=idxn hi
      have ix2:idx (i:Int) bs.length=some i:=idxn (by omega)
      obtain ⟨q,off,vs,md,b1,cb1,eb1,rfl,rfl,_,gq,cg,rr1,_⟩:=gs_at ra i g hg
      obtain ⟨q2,off2,vs2,md2,b2,cb2,eb2,rfl,rfl,_,gq2,cg2,rr2,_⟩:=gs_at rb i k hk
      obtain ⟨w1,w2,w3⟩:=hga g (List.mem_of_getElem? hg)
      obtain ⟨w4,w5⟩:=hgb k (List.mem_of_getElem? hk)
      have r1:=dsame_go e.sa x.sa M g k w1 w2 w4 w3 w5 b1 b2 cb1 cb2 eb1 eb2 h' rr1.row rr2.row
      have i1:i+1≤as.length:=hi
      obtain ⟨n,en⟩:∃ n,as.length=n:=⟨_,rfl⟩
      obtain ⟨n2,en2⟩:∃ n,bs.length=n:=⟨_,rfl⟩
      generalize g.length=gl at *
      generalize k.length=kl at *
      rw [en] at t0 c0 ix
      rw [en2] at t1 ix2
      by_cases eg:g=k
      · rw [decide_eq_true eg] at r1
        obtain ⟨T',r,u0,u1,u5⟩:∃ T',evC (callX E X (M+1)) 29 (M+1) none L_purserref17_Same_0 ⟨T,[],h'⟩=some (.normal,⟨T',[],h'⟩)∧evO T' (.t 0)=.slice (some (q,off)) n c 1∧evO T' (.t 1)=.slice (some (q2,off2)) n2 d 1∧evO T' (.t 5)=.int .i64 ((i+1:Nat):Int):=by
          exact ⟨_,by
            simp (config:={maxSteps:=2000000}) (disch:=first | omega | (simp only [List.length_cons,List.length_nil,List.length_append,List.length_drop]; omega)) only [L_purserref17_Same_0,t0,t1,t5,gq,gq2,cg,cg2,r1,c0,wi,ix,ix2,Bool.not_true,↓s_len,x_lenS,Nat.mul_one,↓s_evD,↓s_dnil,↓s_dL,↓s_dR,↓s_dB,↓s_bindD,s_bindD,s_finD,s_addP0,↓s_bump0,↓s_load,m_load,↓m_load1,m_load1,↓x_idxS,x_idxSE,x_addrE,x_lenS,↓s_len,↓s_skip,↓s_ops,↓s_dops,↓s_seq,↓s_cond,↓s_block,↓s_nil,↓s_op,↓s_bindS,s_bindS,↓s_bindE,s_bindE,s_norm,↓s_condV,s_condV,s_block_normal,↓s_getp,↓s_con,↓s_os0,↓s_os1,↓s_mov,↓s_bin,↓s_un,↓s_call,s_same,b_lss,b_add,u_not,↓iteN_true,↓iteN_false,iteN_true,iteN_false,Nat.reduceEqDiff,decide_true,decide_false,Bool.not_true]
            exact rfl,(by (simp only [s_getp,Nat.reduceEqDiff,decide_false,iteN_false,t0]; try rfl)),(by (simp only [s_getp,Nat.reduceEqDiff,decide_false,iteN_false,t1]; try rfl)),(by (simp only [s_getp,decide_true,iteN_true]; try rfl))⟩
        exact ⟨T',fun _ => ⟨r,i1,by rw [en]; exact u0,by rw [en2]; exact u1,u5,rfl⟩,fun h => absurd eg h⟩
      · rw [decide_eq_false eg] at r1
        obtain ⟨T',r,u4⟩:∃ T',evC (callX E X (M+1)) 29 (M+1) none L_purserref17_Same_0 ⟨T,[],h'⟩=some (.ret,⟨T',[],h'⟩)∧evO T' (.t 4)=.bool false:=by
          exact ⟨_,by
            simp (config:={maxSteps:=2000000}) (disch:=first | omega | (simp only [List.length_cons,List.length_nil,List.length_append,List.length_drop]; omega)) only [L_purserref17_Same_0,t0,t1,t5,gq,gq2,cg,cg2,r1,c0,ix,ix2,Bool.not_false,↓s_len,x_lenS,Nat.mul_one,↓s_evD,↓s_dnil,↓s_dL,↓s_dR,↓s_dB,↓s_bindD,s_bindD,s_finD,s_addP0,↓s_bump0,↓s_load,m_load,↓m_load1,m_load1,↓x_idxS,x_idxSE,x_addrE,x_lenS,↓s_len,↓s_skip,↓s_ops,↓s_dops,↓s_seq,↓s_cond,↓s_block,↓s_ret,↓s_nil,↓s_op,↓s_bindS,s_bindS,↓s_bindE,s_bindE,s_bindE_ret,s_norm,↓s_condV,s_condV,s_block_ret,↓s_getp,↓s_con,↓s_os0,↓s_os1,↓s_mov,↓s_bin,↓s_un,↓s_call,s_same,b_lss,u_not,↓iteN_true,↓iteN_false,iteN_true,iteN_false,Nat.reduceEqDiff,decide_true,decide_false,Bool.not_false]
            exact rfl,(by (simp only [s_getp,decide_true,iteN_true]; try rfl))⟩
        exact ⟨T',fun h => absurd h eg,fun _ => ⟨r,u4⟩⟩
    have fin:∀ T,S7I (.slice a as.length c ea) (.slice b bs.length d eb) as.length h 0 T h→fnEnd [.tmp 4] (bindE (blockE 0 (loopN (evC (callX E X (M+1)) 29 (M+1) none L_purserref17_Same_0) (M+1) ⟨T,[],h⟩)) (evC (callX E X (M+1)) 29 (M+1) none R_purserref17_Same_0))=some (.bool (decide (as=bs)),h):=by
      intro T I
      have get:∀ i,i < as.length→∃ o p,as[i]?=some o∧bs[i]?=some p:=fun i hi => ⟨_,_,List.getElem?_eq_getElem hi,List.getElem?_eq_getElem (by omega)⟩
      rcases eq_or2 as bs hl with eab | ⟨j,o,p,h1,h2,h3,h4⟩
      · rw [decide_eq_true eab]
        obtain ⟨T',h',rr,kp⟩:=loop_go (f:=evC (callX E X (M+1)) 29 (M+1) none L_purserref17_Same_0) (S7I (.slice a as.length c ea) (.slice b bs.length d eb) as.length h) as.length (.exit 0) (by intro h; cases h) (fun _ h' => h'=h) (fun i T h' hi I => by
          obtain ⟨o,p,ho,hp⟩:=get i hi
          obtain ⟨T',q,_⟩:=round i T h' o p ho hp I
          rw [eab,hp] at ho
          cases ho
          exact ⟨T',h',q rfl⟩) (fun T h' I => by
          obtain ⟨il,t0,t1,t5,hh⟩:=I
          have c0:decide ((as.length:Int) < (as.length:Int))=false:=decide_eq_false (by omega)
          generalize as.length=n at *
          exact ⟨_,h',by
            simp (config:={maxSteps:=2000000}) (disch:=first | omega | (simp only [List.length_cons,List.length_nil,List.length_append,List.length_drop]; omega)) only [L_purserref17_Same_0,t0,t5,c0,↓s_len,x_lenS,x_lenS,↓s_len,↓s_ops,↓s_seq,↓s_cond,↓s_exit,↓s_nil,↓s_op,↓s_bindS,s_bindS,↓s_bindE,s_bindE,s_bindE_exit,s_norm,↓s_condV,s_condV,↓s_getp,↓s_mov,↓s_bin,s_same,b_lss,↓iteN_true,↓iteN_false,iteN_true,iteN_false,Nat.reduceEqDiff,decide_true,decide_false]
            exact rfl,hh⟩) as.length 0 (by omega) (M+1) (by omega) T h I
        rw [rr,kp]
        simp (config:={maxSteps:=2000000}) (disch:=first | omega | (simp only [List.length_cons,List.length_nil,List.length_append,List.length_drop]; omega)) only [R_purserref17_Same_0,s_res0,↓s_ops,↓s_seq,↓s_ret,↓s_nil,↓s_op,↓s_bindS,s_bindS,↓s_bindE,s_bindE,s_norm,s_block_exit,↓s_getp,↓s_con,↓s_mov,s_end,s_res0,s_res1,s_tup1,↓iteN_true,iteN_true,decide_true,if_true]
      · have hne:as≠bs:=fun e => h3 (by rw [e,h2] at h1; cases h1; rfl)
        rw [decide_eq_false hne]
        have hj:j < as.length:=(List.getElem?_eq_some_iff.1 h1).1
        obtain ⟨T',h',rr,u4,kp⟩:=loop_go (f:=evC (callX E X (M+1)) 29 (M+1) none L_purserref17_Same_0) (S7I (.slice a as.length c ea) (.slice b bs.length d eb) as.length h) j .ret (by intro h; cases h) (fun T h' => evO T (.t 4)=.bool false∧h'=h) (fun i T h' hi I => by
          obtain ⟨o,p,ho,hp⟩:=get i (by omega)
          obtain ⟨T',q,_⟩:=round i T h' o p ho hp I
          exact ⟨T',h',q (h4 i o p hi ho hp)⟩) (fun T h' I => by
          obtain ⟨T',_,q⟩:=round j T h' o p h1 h2 I
          obtain ⟨q1,q2⟩:=q h3
          exact ⟨T',h',q1,q2,I.hh⟩) j 0 (by omega) (M+1) (by omega) T h I
        rw [rr,kp]
        simp (config:={maxSteps:=2000000}) (disch:=first | omega | (simp only [List.length_cons,List.length_nil,List.length_append,List.length_drop]; omega)) only [u4,s_res0,s_bindE_ret,s_block_ret,s_end,s_res0,s_res1,s_tup1]
    have c1:(!decide ((as.length:Int)=(bs.length:Int)))=false:=by rw [decide_eq_true (by omega)]; rfl
    obtain ⟨R,eR⟩:∃ R,R_purserref17_Same_0=R:=⟨_,rfl⟩
    obtain ⟨Lo,eL⟩:∃ R,L_purserref17_Same_0=R:=⟨_,rfl⟩
    rw [eR,eL] at fin ⊢
    obtain ⟨n,en⟩:∃ n,as.length=n:=⟨_,rfl⟩
    obtain ⟨n2,en2⟩:∃ n,bs.length=n:=⟨_,rfl⟩
    rw [en,en2] at c1 fin ⊢
    simp (config:={maxSteps:=2000000}) (disch:=first | omega | (simp only [List.length_cons,List.length_nil,List.length_append,List.length_drop]; omega)) only [c1,↓s_len,x_lenS,Nat.zero_add,↓l_loop,↓l_succ,x_lenS,↓s_len,↓s_skip,↓s_ops,↓s_seq,↓s_cond,↓s_block,↓s_nil,↓s_op,↓s_bindS,s_bindS,↓s_bindE,s_bindE,s_norm,↓s_condV,s_condV,↓s_getp,↓s_get,↓s_con,↓s_list0,↓s_list1,↓s_mov,↓s_bin,s_same,b_neq,↓iteN_true,↓iteN_false,iteN_true,iteN_false,Nat.zero_add,Nat.reduceEqDiff,decide_true,decide_false]
    exact fin _ ⟨Nat.zero_le _,(by (simp only [s_getp,Nat.reduceEqDiff,decide_false,iteN_false]; try rfl)),(by (simp only [s_getp,Nat.reduceEqDiff,decide_false,iteN_false]; try rfl)),(by (simp only [s_getp,decide_true,iteN_true]; try rfl)),rfl⟩
  · rw [decide_eq_false (fun e => hl (by rw [e]))]
    have c1:(!decide ((as.length:Int)=(bs.length:Int)))=true:=by rw [decide_eq_false (by omega)]; rfl
    obtain ⟨Lo,eL⟩:∃ R,L_purserref17_Same_0=R:=⟨_,rfl⟩
    rw [eL]
    generalize as.length=n at *
    generalize bs.length=n2 at *
    simp (config:={maxSteps:=2000000}) (disch:=first | omega | (simp only [List.length_cons,List.length_nil,List.length_append,List.length_drop]; omega)) only [c1,↓s_len,x_lenS,Nat.zero_add,x_lenS,↓s_len,s_res0,↓s_ops,↓s_seq,↓s_cond,↓s_ret,↓s_nil,↓s_op,↓s_bindS,s_bindS,↓s_bindE,s_bindE,s_bindE_ret,s_norm,↓s_condV,s_condV,↓s_getp,↓s_get,↓s_con,↓s_list0,↓s_list1,↓s_mov,↓s_bin,s_same,b_neq,s_end,s_res0,s_res1,s_tup1,↓iteN_true,↓iteN_false,iteN_true,iteN_false,Nat.zero_add,Nat.reduceEqDiff,decide_true,decide_false]
end Go.Eng
namespace Go.Eng
open Go
variable {E:Nat→Option Fn} {X:Orc}
set_option linter.unusedSimpArgs false
set_option linter.unusedVariables false
/-- groups' bytes,by numbers -/
def gsB:Nat→List (List Rq)→List Nat
  | _,[] => []
  | n,g :: r => sgB n g++gsB (n+1) r
end Go.Eng
namespace Go.Eng
open Go
set_option linter.unusedSimpArgs false
set_option linter.unusedVariables false
theorem sgOk_ok {num:Nat} {g:List Rq} (h:sgOk num g=true):1≤num∧g≠[]∧∀ o ∈ g,o.kind≠255∧rqOk o=true:=by
  unfold sgOk noM at h
  simp only [Bool.and_eq_true,decide_eq_true_eq,List.all_eq_true] at h
  obtain ⟨⟨⟨h1,h2⟩,h3⟩,h4⟩:=h
  exact ⟨h1,h2,fun o ho => ⟨h3 o ho,h4 o ho⟩⟩
theorem sgB_eq (num:Nat) (g:List Rq) (r:List Nat):sgB num g++r=rB g++(rqB (mkR num g.length)++r):=by
  have e:rB [mkR num g.length]=rqB (mkR num g.length):=by unfold rB; simp
  unfold sgB
  rw [rB_app,e,List.append_assoc]
theorem sgB_ge (num:Nat) (g:List Rq):13 * g.length+25≤(sgB num g).length:=by have:=rB_ge g; rw [sgB_len]; omega
theorem ga_fuel (num:Nat):∀ (n m:Nat) (b:List Nat) (acc:List Rq),byt b=true→b.length < n→b.length < m→gaV num n b acc=gaV num m b acc:=by
  intro n
  induction n with
  | zero => intro m b acc _ h; omega
  | succ n ih =>
    intro m b acc bb h1 h2
    obtain ⟨m,rfl⟩:∃ k,m=k+1:=⟨m - 1,by omega⟩
    rw [ga_succ,ga_succ]
    cases hd:dcV b with
    | none => rfl
    | some z =>
      obtain ⟨o,k⟩:=z
      obtain ⟨f1,f2,f3,f4,f5⟩:=dc_of b bb o k hd
      simp only
      rw [ih m (b.drop k) (acc++[o]) (byt_drop bb _) (by rw [List.length_drop]; omega) (by rw [List.length_drop]; omega)]
theorem gaR_some {num:Nat} {s:List Nat} {at_:Nat} {g:List Rq} {j:Nat} (h:gaV num (s.length+1) (s.drop at_) []=some (g,j)):gaR num s at_=(g,at_+j,true):=by unfold gaR; rw [h]
theorem gaR_none {num:Nat} {s:List Nat} {at_:Nat} (h:gaV num (s.length+1) (s.drop at_) []=none):gaR num s at_=([],0,false):=by unfold gaR; rw [h]
theorem gsB_app:∀ (a b:List (List Rq)) (n:Nat),gsB n (a++b)=gsB n a++gsB (n+a.length) b:=by
  intro a
  induction a with
  | nil => intro b n; rfl
  | cons x r ih => intro b n; show sgB n x++gsB (n+1) (r++b)=sgB n x++gsB (n+1) r++_; rw [ih,List.append_assoc,List.length_cons,show n+1+r.length=n+(r.length+1) by omega]
theorem gsB_split (n:Nat) (gs:List (List Rq)) (i:Nat) (g:List Rq) (h:gs[i]?=some g):gsB n gs=gsB n (gs.take i)++(sgB (n+i) g++gsB (n+i+1) (gs.drop (i+1))):=by
  have hlt:=(List.getElem?_eq_some_iff.1 h).1
  have e:gs=gs.take i++(g :: gs.drop (i+1)):=by
    have h2:gs.drop i=g :: gs.drop (i+1):=by
      rw [List.drop_eq_getElem_cons hlt]
      rw [List.getElem?_eq_getElem hlt] at h; cases h; rfl
    rw [← h2,List.take_append_drop]
  have h3:=congrArg (gsB n) e
  rw [gsB_app,List.length_take,Nat.min_eq_left (by omega)] at h3
  exact h3
theorem gsB_ge:∀ (gs:List (List Rq)) (n:Nat),25 * gs.length≤(gsB n gs).length:=by
  intro gs
  induction gs with
  | nil => intro n; exact Nat.zero_le _
  | cons g t ih => intro n; have:=ih (n+1); have:=sgB_ge n g; show _≤(sgB n g++gsB (n+1) t).length; rw [List.length_append,List.length_cons]; omega
end Go.Eng
namespace Go.Eng
open Go
variable {E:Nat→Option Fn} {X:Orc}
set_option linter.unusedSimpArgs false
set_option linter.unusedVariables false
def GgAt (h:H) (g:List Rq) (p:List V):Prop:=∃ a,p=[.slice a g.length none 2]∧RqsH h a g
/-- a row of groups,as an argument -/
def GgsH (h:H) (a:Option (Nat × Nat)) (gs:List (List Rq)):Prop:=∃ parts,Al2 (GgAt h) gs parts∧(gs=[]∨∃ k md,a=some (k,0)∧k < h.next∧h.get k=some (.cells parts.flatten md))
def GgsR (gs:List (List Rq)) (h:H) (vs:List V):Prop:=∃ a,vs=[.slice a gs.length none 1]∧GgsH h a gs
section
variable {Hh:Type} {enc:TypeId × Value→Hh} {P:Program} {W:World} {spare:Nat→Bool} {held:Bool} {base:Nat}
theorem trod_rqs' {t e eb:TypeId} {f0 f1:Field} (ht:P.underlying t=some (.slice e)) (he:P.underlying e=some (.struct #[f0,f1])) (h0:P.underlying f0.type=some (.int .i64)) (h1:P.underlying f1.type=some (.slice eb)) (hb:P.underlying eb=some (.int .u8)) (hc:P.cellsOf eb=1) (hce:P.cellsOf e=2)
    {f:Nat} {cs:List Value} {d:DataW Hh} {p:List MemPlace} (hf:DataW.trod enc P W base spare held f t cs=some (d,p)) :
    ∃ ops:List Rq,(∀ o ∈ ops,o.ok)∧(P.bytesOf e=32→P.bytesOf eb=1→∀ B,(∀ n ∈ d.weights P t,n≤B)→ops.length≤B∧∀ o ∈ ops,o.l.length≤B)∧∀ n,Rd (absD P (n+4) t d) (RqsR ops):=by
  have one:∀ (g:Nat) (cs:List Value) (x:DataW Hh × List MemPlace),DataW.trod enc P W base spare held g e cs=some x→∃ o:Rq,(o.ok∧(P.bytesOf eb=1→∀ B,(∀ n ∈ x.1.weights P e,n≤B)→o.l.length≤B))∧∀ n,Rd (absD P (n+3) e x.1) (fun h vs => RqAt h o vs):=by
    intro g cs x hx
    obtain ⟨xs,m,_,rfl,_,hl,hf⟩:=DataW.trod_struct he hx
    obtain ⟨x0,x1,rfl⟩:=xs2 hl
    obtain ⟨k,_,e0,w0⟩:=DataW.trod_int h0 (hf 0 f0 rfl)
    obtain ⟨l,bl,wt,r3⟩:=trod_u8s' h1 hb hc (hf 1 f1 rfl)
    simp [Lit.wf,IntKind.min,IntKind.max,IntKind.signed,IntKind.bits] at w0
    refine ⟨⟨k,l⟩,⟨⟨w0.1,by have:=w0.2; show k < _; omega,bl⟩,fun h1' B hB => wt h1' B (fun m hm => hB m ?_)⟩,fun j => ?_⟩
    · show m ∈ DataW.weights P e (.agg [x0.1,x1.1])
      simp only [DataW.weights,he,List.map_cons,List.map_nil,DataW.weightsEach,List.mem_append]
      exact .inr (.inl hm)
    have hz:=rd_struct (Hh:=Hh) (j+2) he [x0.1,x1.1] rfl (Rs:=[_,_]) (.cons (by rw [e0]; exact rd_int (j+1) h0 k) (.cons (r3 j) .nil))
    intro nx
    obtain ⟨vs,bls,n1,q1,q2,q3⟩:=hz nx
    refine ⟨vs,bls,n1,q1,q2,fun h hh => ?_⟩
    obtain ⟨parts,rfl,al⟩:=q3 h hh
    cases al with | cons a0 al => cases al with | cons a3 al =>
    cases al
    obtain ⟨a,e3,sr⟩:=a3
    exact ⟨a,by rw [a0,e3]; rfl,sr⟩
  rcases DataW.trod_slice ht hf with ⟨_,hx⟩ | ⟨ad,len,cap,elems,rest,n,_,_,hx,_,_,_,hl,hi,_,_⟩
  · have hd:d=.nil:=congrArg Prod.fst hx
    subst hd
    refine ⟨[],(fun o ho => by cases ho),(fun _ _ _ _ => ⟨Nat.zero_le _,fun o ho => by cases ho⟩),fun n nx => ?_⟩
    obtain ⟨vs,bl,n1,e1,l1,k1⟩:=rd_nil (Hh:=Hh) (n+3) ht nx
    exact ⟨vs,bl,n1,e1,l1,fun h hh => ⟨none,by rw [k1 h hh,hce]; rfl,[],.nil,.inl rfl⟩⟩
  · have hd:d=.slice (elems.map (·.1)) (rest.map (·.1)):=congrArg Prod.fst hx
    obtain ⟨ops,al⟩:=gather (p:=fun (x:DataW Hh × List MemPlace) (o:Rq) => (o.ok∧(P.bytesOf eb=1→∀ B,(∀ n ∈ x.1.weights P e,n≤B)→o.l.length≤B))∧∀ n,Rd (absD P (n+3) e x.1) (fun h vs => RqAt h o vs)) elems (fun y hy => by
      obtain ⟨i,hi1,hi2⟩:=List.getElem_of_mem hy
      have hi3:elems[i]?=some y:=by rw [List.getElem?_eq_getElem hi1,hi2]
      have h4:=(hi i (by omega)).trans hi3
      simp only [Option.bind_eq_some_iff] at h4
      obtain ⟨cs,_,h5⟩:=h4
      exact one _ _ _ h5)
    refine ⟨ops,fun o ho => ?_,fun h32 hb1 B hB => ?_,fun n nx => ?_⟩
    · clear hl hi hx hd hf
      induction al with
      | nil => cases ho
      | cons h1 _ ih => rcases List.mem_cons.1 ho with rfl | ho
                        · exact h1.1.1
                        · exact ih ho
    · have hB':∀ n ∈ ((elems.map (·.1)).length+(rest.map (·.1)).length) * P.bytesOf e :: DataW.weightsAll P e (elems.map (·.1)),n≤B:=by
        intro n hn
        apply hB n
        rw [hd]
        simp only [DataW.weights,ht,List.mem_cons,List.mem_append] at hn ⊢
        rcases hn with h | h
        · exact .inl h
        · exact .inr (.inl h)
      refine ⟨?_,fun o ho => ?_⟩
      · have:=hB' _ (List.mem_cons_self ..)
        rw [h32,List.length_map,al.len] at this; omega
      · have hB2:∀ n ∈ DataW.weightsAll P e (elems.map (·.1)),n≤B:=fun n hn => hB' n (List.mem_cons_of_mem _ hn)
        clear hl hi hx hd hf hB hB'
        induction al with
        | nil => cases ho
        | cons h1 _ ih =>
          simp only [List.map_cons,DataW.weightsAll,List.mem_append] at hB2
          rcases List.mem_cons.1 ho with rfl | ho
          · exact h1.1.2 hb1 B (fun n hn => hB2 n (.inl hn))
          · exact ih ho (fun n hn => hB2 n (.inr hn))
    · have al2:Al2 (fun (dd:DataW Hh) R => Rd (absD P (n+3) e dd) R) (elems.map (·.1)) (ops.map (fun o h vs => RqAt h o vs)):=by
        clear hl hi hx hd hf
        induction al with
        | nil => exact .nil
        | cons h1 _ ih => exact .cons (h1.2 n) ih
      obtain ⟨vs,bl,n1,e1,l1,k1⟩:=rd_slice (Hh:=Hh) (n+3) ht (elems.map (·.1)) (rest.map (·.1)) al2 nx
      rw [hd]
      refine ⟨vs,bl,n1,e1,l1,fun h hh => ?_⟩
      obtain ⟨ad2,parts,ev,al3,t⟩:=k1 h hh
      have le:(elems.map (·.1)).length=ops.length:=by rw [List.length_map]; exact al.len
      refine ⟨ad2,by rw [ev,le,hce],parts,?_,?_⟩
      · have conv:∀ (os:List Rq) (ps:List (List V)),Al2 (fun (R:H→List V→Prop) p => R h p) (os.map (fun o h vs => RqAt h o vs)) ps→Al2 (RqAt h) os ps:=by
          intro os
          induction os with
          | nil => intro ps a; cases a; exact .nil
          | cons o os ih => intro ps a; cases a with | cons a1 a2 => exact .cons a1 (ih _ a2)
        exact conv _ _ al3
      · rcases t with t | ⟨k,t1,t2,t3⟩
        · left
          rw [t] at le
          exact List.length_eq_zero_iff.1 le.symm
        · exact .inr ⟨k,.ro,t1,t2,t3⟩
theorem trod_ggs {t e er eb:TypeId} {f0 f1:Field} (ht:P.underlying t=some (.slice e)) (he:P.underlying e=some (.slice er)) (hr:P.underlying er=some (.struct #[f0,f1])) (h0:P.underlying f0.type=some (.int .i64)) (h1:P.underlying f1.type=some (.slice eb)) (hb:P.underlying eb=some (.int .u8)) (hc:P.cellsOf eb=1) (hcr:P.cellsOf er=2) (hce:P.cellsOf e=1)
    {v:Value} {d:DataW Hh} {p:List MemPlace} (h:DataW.Trod enc P W base spare held t v d p) :
    ∃ gs:List (List Rq),(∀ g ∈ gs,∀ o ∈ g,o.ok)∧(P.bytesOf e=24→P.bytesOf er=32→P.bytesOf eb=1→∀ B,(∀ n ∈ d.weights P t,n≤B)→gs.length≤B∧∀ g ∈ gs,g.length≤B∧∀ o ∈ g,o.l.length≤B)∧∀ n,Rd (absD P (n+5) t d) (GgsR gs):=by
  have one:∀ (g:Nat) (cs:List Value) (x:DataW Hh × List MemPlace),DataW.trod enc P W base spare held g e cs=some x→∃ o:List Rq,((∀ q ∈ o,q.ok)∧(P.bytesOf er=32→P.bytesOf eb=1→∀ B,(∀ n ∈ x.1.weights P e,n≤B)→o.length≤B∧∀ q ∈ o,q.l.length≤B))∧∀ n,Rd (absD P (n+4) e x.1) (fun h vs => GgAt h o vs):=by
    intro g cs x hx
    obtain ⟨d,p⟩:=x
    obtain ⟨ops,ok,wt,r⟩:=trod_rqs' he hr h0 h1 hb hc hcr hx
    refine ⟨ops,⟨ok,wt⟩,fun n nx => ?_⟩
    obtain ⟨vs,bl,n1,q1,q2,q3⟩:=r n nx
    exact ⟨vs,bl,n1,q1,q2,q3⟩
  obtain ⟨f,hf⟩:=h
  rcases DataW.trod_slice ht hf with ⟨_,hx⟩ | ⟨ad,len,cap,elems,rest,n,_,_,hx,_,_,_,hl,hi,_,_⟩
  · have hd:d=.nil:=congrArg Prod.fst hx
    subst hd
    refine ⟨[],(fun o ho => by cases ho),(fun _ _ _ _ _ => ⟨Nat.zero_le _,fun o ho => by cases ho⟩),fun n nx => ?_⟩
    obtain ⟨vs,bl,n1,e1,l1,k1⟩:=rd_nil (Hh:=Hh) (n+4) ht nx
    exact ⟨vs,bl,n1,e1,l1,fun h hh => ⟨none,by rw [k1 h hh,hce]; rfl,[],.nil,.inl rfl⟩⟩
  · have hd:d=.slice (elems.map (·.1)) (rest.map (·.1)):=congrArg Prod.fst hx
    obtain ⟨ops,al⟩:=gather (p:=fun (x:DataW Hh × List MemPlace) (o:List Rq) => ((∀ q ∈ o,q.ok)∧(P.bytesOf er=32→P.bytesOf eb=1→∀ B,(∀ n ∈ x.1.weights P e,n≤B)→o.length≤B∧∀ q ∈ o,q.l.length≤B))∧∀ n,Rd (absD P (n+4) e x.1) (fun h vs => GgAt h o vs)) elems (fun y hy => by
      obtain ⟨i,hi1,hi2⟩:=List.getElem_of_mem hy
      have hi3:elems[i]?=some y:=by rw [List.getElem?_eq_getElem hi1,hi2]
      have h4:=(hi i (by omega)).trans hi3
      simp only [Option.bind_eq_some_iff] at h4
      obtain ⟨cs,_,h5⟩:=h4
      exact one _ _ _ h5)
    refine ⟨ops,fun o ho => ?_,fun h24 h32 hb1 B hB => ?_,fun n nx => ?_⟩
    · clear hl hi hx hd hf
      induction al with
      | nil => cases ho
      | cons h1 _ ih => rcases List.mem_cons.1 ho with rfl | ho
                        · exact h1.1.1
                        · exact ih ho
    · have hB':∀ n ∈ ((elems.map (·.1)).length+(rest.map (·.1)).length) * P.bytesOf e :: DataW.weightsAll P e (elems.map (·.1)),n≤B:=by
        intro n hn
        apply hB n
        rw [hd]
        simp only [DataW.weights,ht,List.mem_cons,List.mem_append] at hn ⊢
        rcases hn with h | h
        · exact .inl h
        · exact .inr (.inl h)
      refine ⟨?_,fun o ho => ?_⟩
      · have:=hB' _ (List.mem_cons_self ..)
        rw [h24,List.length_map,al.len] at this; omega
      · have hB2:∀ n ∈ DataW.weightsAll P e (elems.map (·.1)),n≤B:=fun n hn => hB' n (List.mem_cons_of_mem _ hn)
        clear hl hi hx hd hf hB hB'
        induction al with
        | nil => cases ho
        | cons h1 _ ih =>
          simp only [List.map_cons,DataW.weightsAll,List.mem_append] at hB2
          rcases List.mem_cons.1 ho with rfl | ho
          · exact h1.1.2 h32 hb1 B (fun n hn => hB2 n (.inl hn))
          · exact ih ho (fun n hn => hB2 n (.inr hn))
    · have al2:Al2 (fun (dd:DataW Hh) R => Rd (absD P (n+4) e dd) R) (elems.map (·.1)) (ops.map (fun o h vs => GgAt h o vs)):=by
        clear hl hi hx hd hf
        induction al with
        | nil => exact .nil
        | cons h1 _ ih => exact .cons (h1.2 n) ih
      obtain ⟨vs,bl,n1,e1,l1,k1⟩:=rd_slice (Hh:=Hh) (n+4) ht (elems.map (·.1)) (rest.map (·.1)) al2 nx
      rw [hd]
      refine ⟨vs,bl,n1,e1,l1,fun h hh => ?_⟩
      obtain ⟨ad2,parts,ev,al3,t⟩:=k1 h hh
      have le:(elems.map (·.1)).length=ops.length:=by rw [List.length_map]; exact al.len
      refine ⟨ad2,by rw [ev,le,hce],parts,?_,?_⟩
      · have conv:∀ (os:List (List Rq)) (ps:List (List V)),Al2 (fun (R:H→List V→Prop) p => R h p) (os.map (fun o h vs => GgAt h o vs)) ps→Al2 (GgAt h) os ps:=by
          intro os
          induction os with
          | nil => intro ps a; cases a; exact .nil
          | cons o os ih => intro ps a; cases a with | cons a1 a2 => exact .cons a1 (ih _ a2)
        exact conv _ _ al3
      · rcases t with t | ⟨k,t1,t2,t3⟩
        · left
          rw [t] at le
          exact List.length_eq_zero_iff.1 le.symm
        · exact .inr ⟨k,.ro,t1,t2,t3⟩
end
theorem gg_len {h:H} {ops:List (List Rq)} {parts:List (List V)} (al:Al2 (GgAt h) ops parts):∀ p ∈ parts,p.length=1:=by
  induction al with
  | nil => intro p hp; cases hp
  | cons h1 _ ih => intro p hp; rcases List.mem_cons.1 hp with rfl | hp
                    · obtain ⟨a,rfl,_⟩:=h1; rfl
                    · exact ih p hp
theorem GgsH.row {h:H} {a:Option (Nat × Nat)} {gs:List (List Rq)} (x:GgsH h a gs):GsK (fun j => j < h.next) h gs a 1:=by
  obtain ⟨parts,al,t⟩:=x
  rcases t with t | ⟨k,md,t1,t2,t3⟩
  · exact .inl t
  · refine .inr ⟨k,0,_,md,t1,rfl,t2,t2,t3,by rw [flat_len (k:=1) (gg_len al),al.len]; omega,fun i g ho => ?_⟩
    obtain ⟨p,hp,b,rfl,s⟩:=al.get i g ho
    have:=flat_cell (k:=1) (gg_len al) i _ hp 0 (by omega)
    rw [Nat.mul_one,Nat.add_zero] at this
    exact ⟨b,none,2,by rw [Nat.zero_add]; exact this,s.row.k⟩
theorem GgF.hi {K:Nat→Prop} {lo:Nat} {h:H} {gs:List (List Rq)} {a:Option (Nat × Nat)} {c:Option Nat} {e:Nat} (r:GgF K lo h gs a c e) (hi:Nat) (k:IntKind) (h1:hi≤gs.length):∃ c',slcV 1 none (some (.int k (hi:Int))) none (.slice a gs.length c e)=some (.slice a hi c' 1):=by
  rcases r with ⟨rfl,rfl,rfl,rfl⟩ | ⟨_,q,md,vs,rfl,rfl,rfl,_⟩
  · rw [List.length_nil] at h1
    obtain rfl:hi=0:=by omega
    exact ⟨some 0,rfl⟩
  · exact ⟨none,slcV_hiA _ _ _ _ h1⟩
theorem GsK.e1 {K:Nat→Prop} {h:H} {gs:List (List Rq)} {a:Option (Nat × Nat)} {e:Nat} (r:GsK K h gs a e):GsK K h gs a 1:=by
  rcases r with r | ⟨q,off,vs,md,e1,e2,r⟩
  · exact .inl r
  · exact .inr ⟨q,off,vs,md,e1,rfl,r⟩
end Go.Eng
