/- What functions of the program come to: own work. -/
import Derived.Test.YtnhjmgkmjgfiiaaSsH
namespace Go.Eng
open Go
variable {E:Nat→Option Fn} {X:Orc}
set_option linter.unusedSimpArgs false
set_option linter.unusedVariables false
structure EnSm (E:Nat→Option Fn):Prop where
  sa:E k_record_Same=some f_record_Same
  so:E k_record_same=some f_record_same
  be:E k_bytes_Equal=some f_bytes_Equal
  ef:E k_slices_EqualFunc_api_Record_api_Record_api_Record_api_Record_86=some f_slices_EqualFunc_api_Record_api_Record_api_Record_api_Record_86
structure NoSm (X:Orc):Prop where
  sa:∀ a h,X (.fn k_record_Same) a h=none
  so:∀ a h,X (.fn k_record_same) a h=none
  be:∀ a h,X (.fn k_bytes_Equal) a h=none
  ef:∀ a h,X (.fn k_slices_EqualFunc_api_Record_api_Record_api_Record_api_Record_86) a h=none
theorem bequal2_go (e:EnSm E) (x:NoSm X) (N:Nat) (l m:List Nat) (bl:byt l=true) (bm:byt m=true) (a b:Option (Nat × Nat)) (c d:Option Nat) (ea eb:Nat) (h:H) (sl:SrcH h a ea l) (sm:SrcH h b eb m) :
    callX E X (N+1) (.fn k_bytes_Equal) [.slice a l.length c ea,.slice b m.length d eb] h=some (.bool (decide (l=m)),h):=by
  rw [x_cfn e.be _ _ (Nat.le_of_ble_eq_true rfl) (x.be _ _)]
  have s1:=str_src sl bl c
  have s2:=str_src sm bm d
  generalize l.length=n at *
  generalize m.length=k at *
  simp (config:={maxSteps:=2000000}) (disch:=first | omega | (simp only [List.length_cons,List.length_nil,List.length_append,List.length_drop]; omega)) only [s1,s2,b_seq,↓ns_b2s,Nat.zero_add,s_res0,↓s_ops,↓s_seq,↓s_ret,↓s_nil,↓s_op,↓s_bindS,s_bindS,↓s_bindE,s_bindE,s_norm,↓s_getp,↓s_get,↓s_con,↓s_list0,↓s_list1,↓s_mov,↓s_bin,s_same,s_end,s_res0,s_res1,s_tup1,↓iteN_true,↓iteN_false,iteN_true,iteN_false,Nat.zero_add,Nat.reduceEqDiff,decide_true,decide_false]
theorem rsame1_go (e:EnSm E) (x:NoSm X) (N:Nat) (o p:Rq) (ok:o.ok) (pk:p.ok) (a b:Option (Nat × Nat)) (c d:Option Nat) (ea eb:Nat) (h:H) (so:SrcH h a ea o.l) (sp:SrcH h b eb p.l) :
    ∃ h',callX E X (N+2) (.fn k_record_same) [.agg [.int .i64 o.kind,.slice a o.l.length c ea],.agg [.int .i64 p.kind,.slice b p.l.length d eb]] h=some (.bool (decide (o=p)),h')∧Kp h h':=by
  rw [x_cfn e.so _ _ (Nat.le_of_ble_eq_true rfl) (x.so _ _)]
  have ca:∀ l:List V,(V.agg l).cells=l:=fun _ => rfl
  obtain ⟨hA,eA⟩:∃ hA,(h.new (.cells [.int .i64 o.kind,.slice a o.l.length c ea] .rw)).new (.cells [.int .i64 p.kind,.slice b p.l.length d eb] .rw)=hA:=⟨_,rfl⟩
  have kA:Kp h hA:=by rw [← eA]; (repeat (first | exact Kp.refl _ | refine Kp.put ?_ _ (by first | omega | (simp only [h_next_put,h_next_new,h_next_del]; omega)) | refine Kp.del ?_ (by first | omega | (simp only [h_next_put,h_next_new,h_next_del]; omega)) | refine Kp.trans ?_ (Kp.new _ _)))
  have g1:hA.get h.next=some (.cells [.int .i64 o.kind,.slice a o.l.length c ea] .rw):=by rw [← eA]; (simp (disch:=omega) only [h_new_get,h_next_new,Nat.add_eq_left,decide_true,decide_false,iteN_true,iteN_false,reduceCtorEq,]; try rfl)
  have g2:hA.get (h.next+1)=some (.cells [.int .i64 p.kind,.slice b p.l.length d eb] .rw):=by rw [← eA]; (simp (disch:=omega) only [h_new_get,h_next_new,decide_true,iteN_true,]; try rfl)
  refine ⟨hA,?_,kA⟩
  have rb:=bequal2_go e x N o.l p.l ok.bl pk.bl a b c d ea eb hA (so.mono kA) (sp.mono kA)
  by_cases ec:o.kind=p.kind
  · have c0:decide (o.kind=p.kind)=true:=decide_eq_true ec
    have er:decide (o.l=p.l)=decide (o=p):=by
      rw [decide_eq_decide]
      constructor
      · intro h; cases o; cases p; simp_all
      · intro h; rw [h]
    rw [er] at rb
    generalize o.l.length=n at *
    generalize p.l.length=k at *
    simp (config:={maxSteps:=2000000}) (disch:=first | omega | (simp only [List.length_cons,List.length_nil,List.length_append,List.length_drop]; omega)) only [ca,eA,g1,g2,rb,c0,↓s_box,↓x_fieldAddr,x_fieldV,Nat.zero_add,Nat.add_zero,Nat.add_zero,h_next_new,↓s_load,m_load,↓m_load1,m_load1,s_res0,↓s_ops,↓s_seq,↓s_ret,↓s_nil,↓s_op,↓s_opg,↓s_wanted',↓s_wantV,s_wantV,↓s_bindS,s_bindS,↓s_bindE,s_bindE,s_norm,↓s_getp,↓s_get,↓s_con,↓s_os0,↓s_os1,↓s_list0,↓s_list1,↓s_mov,↓s_pick,↓s_pickE,s_pickE,↓s_bin,↓s_call,s_same,b_eql,s_end,s_res0,s_res1,s_tup1,↓iteN_true,↓iteN_false,iteN_true,iteN_false,Nat.zero_add,Nat.reduceEqDiff,decide_true,decide_false,List.getElem?_cons_zero,List.getElem?_cons_succ,beq_self_eq_true]
  · have c0:decide (o.kind=p.kind)=false:=decide_eq_false ec
    rw [decide_eq_false (fun h => ec (by rw [h]))]
    generalize o.l.length=n at *
    generalize p.l.length=k at *
    simp (config:={maxSteps:=2000000}) (disch:=first | omega | (simp only [List.length_cons,List.length_nil,List.length_append,List.length_drop]; omega)) only [ca,eA,g1,g2,c0,↓s_box,↓x_fieldAddr,x_fieldV,Nat.zero_add,Nat.add_zero,Nat.add_zero,h_next_new,↓s_load,m_load,↓m_load1,m_load1,s_res0,↓s_ops,↓s_seq,↓s_ret,↓s_nil,↓s_op,↓s_opg,↓s_wanted',↓s_wantV,s_wantV,beq_true,↓s_bindS,s_bindS,↓s_bindE,s_bindE,s_norm,↓s_getp,↓s_get,↓s_con,↓s_list0,↓s_list1,↓s_mov,↓s_pick,↓s_pickE,s_pickE,↓s_bin,s_same,b_eql,s_end,s_res0,s_res1,s_tup1,↓iteN_true,↓iteN_false,iteN_true,iteN_false,Nat.zero_add,Nat.reduceEqDiff,decide_true,decide_false,List.getElem?_cons_zero]
structure EqI (va vb:V) (n:Nat) (h0:H) (i:Nat) (T:Tr V) (h:H):Prop where
  il:i≤n
  t1:evO T (.t 1)=vb
  t2:evO T (.t 2)=.fn k_record_same [] []
  t15:evO T (.t 15)=va
  t16:evO T (.t 16)=.int .i64 (n:Int)
  t17:evO T (.t 17)=.int .i64 (i:Int)
  kp:Kp h0 h
theorem ei_round (e:EnSm E) (x:NoSm X) (M m:Nat) (as bs:List Rq) (hl:as.length=bs.length) (hn:as.length≤1000000) (ok:∀ o ∈ as,o.ok) (pk:∀ o ∈ bs,o.ok) (a b:Option (Nat × Nat)) (c d:Option Nat) (ea eb:Nat) (h0:H) (ra:RrS h0 as a ea) (rb:RrS h0 bs b eb) (i:Nat) (T:Tr V) (h:H) (o p:Rq) (ho:as[i]?=some o) (hp:bs[i]?=some p) (I:EqI (.slice a as.length c ea) (.slice b bs.length d eb) as.length h0 i T h) :
    ∃ T' h',Kp h0 h'∧(o=p→evC (callX E X (M+3)) 32 m none L_slices_EqualFunc_api_Record_api_Record_api_Record_api_Record_86_0 ⟨T,[],h⟩=some (.normal,⟨T',[],h'⟩)∧EqI (.slice a as.length c ea) (.slice b bs.length d eb) as.length h0 (i+1) T' h')∧(o≠p→evC (callX E X (M+3)) 32 m none L_slices_EqualFunc_api_Record_api_Record_api_Record_api_Record_86_0 ⟨T,[],h⟩=some (.ret,⟨T',[],h'⟩)∧evO T' (.t 6)=.bool false):=by
  have hi:i < as.length:=(List.getElem?_eq_some_iff.1 ho).1
  obtain ⟨_,t1,t2,t15,t16,t17,kp⟩:=I
  have c0:decide ((i:Int) < (as.length:Int))=true:=decide_eq_true (by omega)
  have wi:wr .i64 ((i:Int)+1)=((i+1:Nat):Int):=by rw [wr_i64 (by omega)]; omega
  have ix:idx (i:Int) as.length=some i:=idxn hi
  have ix2:idx (i:Int) bs.length=some i:=idxn (by omega)
  obtain ⟨q,off,vs,md,b1,cb1,eb1,rfl,rfl,hq,gq',ld,sb,_⟩:=rr_at ra i o ho
  obtain ⟨q2,off2,vs2,md2,b2,cb2,eb2,rfl,rfl,hq2,gq2,lo2,sb2,_⟩:=rr_at rb i p hp
  obtain ⟨h1,eh1⟩:∃ h1,(h.new (.cells [.int .i64 0,.slice none 0 (some 0) 0] .rw)).put h.next (.cells [.int .i64 o.kind,.slice b1 o.l.length cb1 eb1] .rw)=h1:=⟨_,rfl⟩
  have k1:Kp h h1:=by rw [← eh1]; (repeat (first | exact Kp.refl _ | refine Kp.put ?_ _ (by first | omega | (simp only [h_next_put,h_next_new,h_next_del]; omega)) | refine Kp.del ?_ (by first | omega | (simp only [h_next_put,h_next_new,h_next_del]; omega)) | refine Kp.trans ?_ (Kp.new _ _)))
  have n1:h1.next=h.next+1:=by rw [← eh1]; rfl
  have g1:h1.get h.next=some (.cells [.int .i64 o.kind,.slice b1 o.l.length cb1 eb1] .rw):=by rw [← eh1]; exact h_put_same _ _ _
  obtain ⟨h2,eh2⟩:∃ h2,(h1.new (.cells [.int .i64 0,.slice none 0 (some 0) 0] .rw)).put h1.next (.cells [.int .i64 p.kind,.slice b2 p.l.length cb2 eb2] .rw)=h2:=⟨_,rfl⟩
  have k2:Kp h1 h2:=by rw [← eh2]; (repeat (first | exact Kp.refl _ | refine Kp.put ?_ _ (by first | omega | (simp only [h_next_put,h_next_new,h_next_del]; omega)) | refine Kp.del ?_ (by first | omega | (simp only [h_next_put,h_next_new,h_next_del]; omega)) | refine Kp.trans ?_ (Kp.new _ _)))
  have g21:h2.get h.next=some (.cells [.int .i64 o.kind,.slice b1 o.l.length cb1 eb1] .rw):=by rw [k2.2 _ (by omega),g1]
  have g22:h2.get h1.next=some (.cells [.int .i64 p.kind,.slice b2 p.l.length cb2 eb2] .rw):=by rw [← eh2]; exact h_put_same _ _ _
  have k02:=kp.trans (k1.trans k2)
  have gva:h.get q=some (.cells vs md):=by rw [kp.2 _ hq,gq']
  have gvb:h1.get q2=some (.cells vs2 md2):=by rw [(kp.trans k1).2 _ hq2,gq2]
  obtain ⟨h3,rs,k3⟩:=rsame1_go e x (M+1) o p (ok o (List.mem_of_getElem? ho)) (pk p (List.mem_of_getElem? hp)) b1 b2 cb1 cb2 eb1 eb2 h2 (sb.mono k02) (sb2.mono k02)
  have i1:i+1≤as.length:=hi
  obtain ⟨n,en⟩:∃ n,as.length=n:=⟨_,rfl⟩
  obtain ⟨n2,en2⟩:∃ n,bs.length=n:=⟨_,rfl⟩
  obtain ⟨l1,el1⟩:∃ n,o.l.length=n:=⟨_,rfl⟩
  obtain ⟨l2,el2⟩:∃ n,p.l.length=n:=⟨_,rfl⟩
  rw [en] at t15 t16 c0 ix
  rw [en2] at t1 ix2
  rw [el1] at g21 ld rs eh1
  rw [el2] at g22 lo2 rs eh2
  by_cases eo:o=p
  · rw [decide_eq_true eo] at rs
    obtain ⟨T',r,u1,u2,u15,u16,u17⟩:∃ T',evC (callX E X (M+3)) 32 m none L_slices_EqualFunc_api_Record_api_Record_api_Record_api_Record_86_0 ⟨T,[],h⟩=some (.normal,⟨T',[],h3⟩)∧evO T' (.t 1)=.slice (some (q2,off2)) n2 d 2∧evO T' (.t 2)=.fn k_record_same [] []∧evO T' (.t 15)=.slice (some (q,off)) n c 2∧evO T' (.t 16)=.int .i64 (n:Int)∧evO T' (.t 17)=.int .i64 ((i+1:Nat):Int):=by
      exact ⟨_,by
        simp (config:={maxSteps:=2000000}) (disch:=first | omega | (simp only [List.length_cons,List.length_nil,List.length_append,List.length_drop]; omega)) only [L_slices_EqualFunc_api_Record_api_Record_api_Record_api_Record_86_0,t1,t2,t15,t16,t17,gva,gvb,ld,lo2,eh1,eh2,g21,g22,rs,c0,wi,ix,ix2,st2i,ld2,List.nil_append,List.append_nil,Nat.zero_add,↓h_new_get,↓s_load,m_load,↓m_st,m_stE,m_storeE,w_zero,↓s_alloc,↓x_idxS,x_idxSE,x_addrE,List.length_cons,List.length_nil,List.drop_succ_cons,List.drop_nil,List.nil_append,Nat.reduceAdd,↓s_skip,↓s_ops,↓s_seq,↓s_cond,↓s_block,↓s_nil,↓s_op,↓s_bindS,s_bindS,↓s_bindE,s_bindE,s_norm,↓s_condV,s_condV,s_block_normal,↓s_getp,↓s_getp0,↓s_con,↓s_os0,↓s_os1,↓s_mov,↓s_bin,↓s_un,↓s_callv,↓s_callV,s_same,b_lss,b_add,u_not,↓iteN_true,↓iteN_false,iteN_true,iteN_false,Nat.zero_add,List.nil_append,List.append_nil,Nat.reduceEqDiff,decide_true,decide_false,Bool.not_true]
        exact rfl,(by (simp only [s_getp,s_getp0,Nat.reduceEqDiff,decide_false,iteN_false,t1]; try rfl)),(by (simp only [s_getp,s_getp0,Nat.reduceEqDiff,decide_false,iteN_false,t2]; try rfl)),(by (simp only [s_getp,s_getp0,Nat.reduceEqDiff,decide_false,iteN_false,t15]; try rfl)),(by (simp only [s_getp,s_getp0,Nat.reduceEqDiff,decide_false,iteN_false,t16]; try rfl)),(by (simp only [s_getp,decide_true,iteN_true]; try rfl))⟩
    exact ⟨T',h3,k02.trans k3,fun _ => ⟨r,i1,by rw [en2]; exact u1,u2,by rw [en]; exact u15,by rw [en]; exact u16,u17,k02.trans k3⟩,fun h => absurd eo h⟩
  · rw [decide_eq_false eo] at rs
    obtain ⟨T',r,u6⟩:∃ T',evC (callX E X (M+3)) 32 m none L_slices_EqualFunc_api_Record_api_Record_api_Record_api_Record_86_0 ⟨T,[],h⟩=some (.ret,⟨T',[],h3⟩)∧evO T' (.t 6)=.bool false:=by
      exact ⟨_,by
        simp (config:={maxSteps:=2000000}) (disch:=first | omega | (simp only [List.length_cons,List.length_nil,List.length_append,List.length_drop]; omega)) only [L_slices_EqualFunc_api_Record_api_Record_api_Record_api_Record_86_0,t1,t2,t15,t16,t17,gva,gvb,ld,lo2,eh1,eh2,g21,g22,rs,c0,ix,ix2,st2i,ld2,List.nil_append,List.append_nil,Nat.zero_add,↓h_new_get,↓s_load,m_load,↓m_st,m_stE,m_storeE,w_zero,↓s_alloc,↓x_idxS,x_idxSE,x_addrE,List.length_cons,List.length_nil,List.drop_succ_cons,List.drop_nil,List.nil_append,Nat.reduceAdd,↓s_skip,↓s_ops,↓s_seq,↓s_cond,↓s_block,↓s_ret,↓s_nil,↓s_op,↓s_bindS,s_bindS,↓s_bindE,s_bindE,s_bindE_ret,s_norm,↓s_condV,s_condV,s_block_ret,↓s_getp,↓s_getp0,↓s_con,↓s_os0,↓s_os1,↓s_mov,↓s_bin,↓s_un,↓s_callv,↓s_callV,s_same,b_lss,u_not,↓iteN_true,↓iteN_false,iteN_true,iteN_false,Nat.zero_add,List.nil_append,List.append_nil,Nat.reduceEqDiff,decide_true,decide_false,Bool.not_false]
        exact rfl,(by (simp only [s_getp,decide_true,iteN_true]; try rfl))⟩
    exact ⟨T',h3,k02.trans k3,fun h => absurd h eo,fun _ => ⟨r,u6⟩⟩
theorem rsame_go (e:EnSm E) (x:NoSm X) (M:Nat) (as bs:List Rq) (hn:as.length≤1000000) (hM:as.length < M) (hbn:bs.length < 9223372036854775807) (ok:∀ o ∈ as,o.ok) (pk:∀ o ∈ bs,o.ok) (a b:Option (Nat × Nat)) (c d:Option Nat) (ea eb:Nat) (h:H) (ra:RrS h as a ea) (rb:RrS h bs b eb) :
    ∃ h',callX E X (M+5) (.fn k_record_Same) [.slice a as.length c ea,.slice b bs.length d eb] h=some (.bool (decide (as=bs)),h')∧Kp h h':=by
  have eqf:∃ h',callX E X (M+4) (.fn k_slices_EqualFunc_api_Record_api_Record_api_Record_api_Record_86) [.slice a as.length c ea,.slice b bs.length d eb,.fn k_record_same [] []] h=some (.bool (decide (as=bs)),h')∧Kp h h':=by
    rw [x_cfn e.ef _ _ (Nat.le_of_ble_eq_true rfl) (x.ef _ _)]
    by_cases hl:as.length=bs.length
    · have fin:∀ T,EqI (.slice a as.length c ea) (.slice b bs.length d eb) as.length h 0 T h→∃ h',fnEnd [.tmp 6] (bindE (blockE 0 (loopN (evC (callX E X (M+3)) 32 (M+3) none L_slices_EqualFunc_api_Record_api_Record_api_Record_api_Record_86_0) (M+3) ⟨T,[],h⟩)) (evC (callX E X (M+3)) 32 (M+3) none R_slices_EqualFunc_api_Record_api_Record_api_Record_api_Record_86_0))=some (.bool (decide (as=bs)),h')∧Kp h h':=by
        intro T I
        have get:∀ i,i < as.length→∃ o p,as[i]?=some o∧bs[i]?=some p:=fun i hi => ⟨_,_,List.getElem?_eq_getElem hi,List.getElem?_eq_getElem (by omega)⟩
        rcases eq_or as bs hl with eab | ⟨j,o,p,h1,h2,h3,h4⟩
        · rw [decide_eq_true eab]
          obtain ⟨T',h',rr,kp⟩:=loop_go (f:=evC (callX E X (M+3)) 32 (M+3) none L_slices_EqualFunc_api_Record_api_Record_api_Record_api_Record_86_0) (EqI (.slice a as.length c ea) (.slice b bs.length d eb) as.length h) as.length (.exit 0) (by intro h; cases h) (fun _ h' => Kp h h') (fun i T h' hi I => by
            obtain ⟨o,p,ho,hp⟩:=get i hi
            obtain ⟨T',h2,_,q,_⟩:=ei_round e x M (M+3) as bs hl hn ok pk a b c d ea eb h ra rb i T h' o p ho hp I
            rw [eab,hp] at ho
            cases ho
            exact ⟨T',h2,q rfl⟩) (fun T h' I => by
            obtain ⟨il,t1,t2,t15,t16,t17,kp⟩:=I
            have c0:decide ((as.length:Int) < (as.length:Int))=false:=decide_eq_false (by omega)
            exact ⟨_,_,by
              simp (config:={maxSteps:=2000000}) (disch:=first | omega | (simp only [List.length_cons,List.length_nil,List.length_append,List.length_drop]; omega)) only [L_slices_EqualFunc_api_Record_api_Record_api_Record_api_Record_86_0,t16,t17,c0,↓s_ops,↓s_seq,↓s_cond,↓s_exit,↓s_nil,↓s_op,↓s_bindS,s_bindS,↓s_bindE,s_bindE,s_bindE_exit,s_norm,↓s_condV,s_condV,↓s_getp,↓s_bin,s_same,b_lss,↓iteN_true,↓iteN_false,iteN_true,iteN_false,decide_true]
              exact rfl,kp⟩) as.length 0 (by omega) (M+3) (by omega) T h I
          rw [rr]
          refine ⟨h',?_,kp⟩
          simp (config:={maxSteps:=2000000}) (disch:=first | omega | (simp only [List.length_cons,List.length_nil,List.length_append,List.length_drop]; omega)) only [R_slices_EqualFunc_api_Record_api_Record_api_Record_api_Record_86_0,s_res0,↓s_ops,↓s_seq,↓s_ret,↓s_nil,↓s_op,↓s_bindS,s_bindS,↓s_bindE,s_bindE,s_norm,s_block_exit,↓s_getp,↓s_con,↓s_mov,s_end,s_res0,s_res1,s_tup1,↓iteN_true,iteN_true,decide_true,if_true]
          try rfl
        · have hne:as≠bs:=fun e => h3 (by rw [e,h2] at h1; cases h1; rfl)
          rw [decide_eq_false hne]
          have hj:j < as.length:=(List.getElem?_eq_some_iff.1 h1).1
          obtain ⟨T',h',rr,u6,kp⟩:=loop_go (f:=evC (callX E X (M+3)) 32 (M+3) none L_slices_EqualFunc_api_Record_api_Record_api_Record_api_Record_86_0) (EqI (.slice a as.length c ea) (.slice b bs.length d eb) as.length h) j .ret (by intro h; cases h) (fun T h' => evO T (.t 6)=.bool false∧Kp h h') (fun i T h' hi I => by
            obtain ⟨o,p,ho,hp⟩:=get i (by omega)
            obtain ⟨T',h2,_,q,_⟩:=ei_round e x M (M+3) as bs hl hn ok pk a b c d ea eb h ra rb i T h' o p ho hp I
            exact ⟨T',h2,q (h4 i o p hi ho hp)⟩) (fun T h' I => by
            obtain ⟨T',h2',k,_,q⟩:=ei_round e x M (M+3) as bs hl hn ok pk a b c d ea eb h ra rb j T h' o p h1 h2 I
            obtain ⟨q1,q2⟩:=q h3
            exact ⟨T',h2',q1,q2,k⟩) j 0 (by omega) (M+3) (by omega) T h I
          rw [rr]
          refine ⟨h',?_,kp⟩
          simp (config:={maxSteps:=2000000}) (disch:=first | omega | (simp only [List.length_cons,List.length_nil,List.length_append,List.length_drop]; omega)) only [u6,s_res0,s_bindE_ret,s_block_ret,s_end,s_res0,s_res1,s_tup1]
          try rfl
      have c1:(!decide ((as.length:Int)=(bs.length:Int)))=false:=by rw [decide_eq_true (by omega)]; rfl
      obtain ⟨R,eR⟩:∃ R,R_slices_EqualFunc_api_Record_api_Record_api_Record_api_Record_86_0=R:=⟨_,rfl⟩
      obtain ⟨Lo,eL⟩:∃ R,L_slices_EqualFunc_api_Record_api_Record_api_Record_api_Record_86_0=R:=⟨_,rfl⟩
      rw [eR,eL] at fin ⊢
      obtain ⟨n,en⟩:∃ n,as.length=n:=⟨_,rfl⟩
      obtain ⟨n2,en2⟩:∃ n,bs.length=n:=⟨_,rfl⟩
      rw [en,en2] at c1 fin ⊢
      simp (config:={maxSteps:=2000000}) (disch:=first | omega | (simp only [List.length_cons,List.length_nil,List.length_append,List.length_drop]; omega)) only [c1,↓s_len,x_lenS,Nat.zero_add,↓l_loop,↓l_succ,x_lenS,↓s_len,Nat.reduceAdd,↓s_skip,↓s_ops,↓s_seq,↓s_cond,↓s_block,↓s_nil,↓s_op,↓s_bindS,s_bindS,↓s_bindE,s_bindE,s_norm,↓s_condV,s_condV,↓s_getp,↓s_get,↓s_con,↓s_list0,↓s_list1,↓s_mov,↓s_bin,s_same,b_neq,↓iteN_true,↓iteN_false,iteN_true,iteN_false,Nat.zero_add,Nat.reduceEqDiff,decide_true,decide_false]
      exact fin _ ⟨Nat.zero_le _,(by (simp only [s_getp,Nat.reduceEqDiff,decide_false,iteN_false]; try rfl)),(by (simp only [s_getp,Nat.reduceEqDiff,decide_false,iteN_false]; try rfl)),(by (simp only [s_getp,Nat.reduceEqDiff,decide_false,decide_true,iteN_false,iteN_true]; try rfl)),(by (simp only [s_getp,Nat.reduceEqDiff,decide_false,decide_true,iteN_false,iteN_true]; try rfl)),(by (simp only [s_getp,decide_true,iteN_true]; try rfl)),Kp.refl _⟩
    · rw [decide_eq_false (fun e => hl (by rw [e]))]
      have c1:(!decide ((as.length:Int)=(bs.length:Int)))=true:=by rw [decide_eq_false (by omega)]; rfl
      refine ⟨h,?_,Kp.refl _⟩
      obtain ⟨Lo,eL⟩:∃ R,L_slices_EqualFunc_api_Record_api_Record_api_Record_api_Record_86_0=R:=⟨_,rfl⟩
      rw [eL]
      generalize as.length=n at *
      generalize bs.length=n2 at *
      simp (config:={maxSteps:=2000000}) (disch:=first | omega | (simp only [List.length_cons,List.length_nil,List.length_append,List.length_drop]; omega)) only [c1,↓s_len,x_lenS,Nat.zero_add,x_lenS,↓s_len,Nat.reduceAdd,s_res0,↓s_ops,↓s_seq,↓s_cond,↓s_ret,↓s_nil,↓s_op,↓s_bindS,s_bindS,↓s_bindE,s_bindE,s_bindE_ret,s_norm,↓s_condV,s_condV,↓s_getp,↓s_get,↓s_con,↓s_list0,↓s_list1,↓s_mov,↓s_bin,s_same,b_neq,s_end,s_res0,s_res1,s_tup1,↓iteN_true,↓iteN_false,iteN_true,iteN_false,Nat.zero_add,Nat.reduceEqDiff,decide_true,decide_false]
      try rfl
  obtain ⟨h',r,k⟩:=eqf
  rw [x_cfn e.sa _ _ (Nat.le_of_ble_eq_true rfl) (x.sa _ _)]
  refine ⟨h',?_,k⟩
  generalize as.length=n at *
  generalize bs.length=n2 at *
  generalize decide (as=bs)=w at *
  simp (config:={maxSteps:=2000000}) (disch:=first | omega | (simp only [List.length_cons,List.length_nil,List.length_append,List.length_drop]; omega)) only [r,Nat.zero_add,s_res0,↓s_ops,↓s_seq,↓s_ret,↓s_nil,↓s_op,↓s_bindS,s_bindS,↓s_bindE,s_bindE,s_norm,↓s_getp,↓s_get,↓s_con,↓s_fn,↓s_os0,↓s_os1,↓s_list0,↓s_list1,↓s_mov,↓s_call,s_end,s_res0,s_res1,s_tup1,↓iteN_true,↓iteN_false,iteN_true,iteN_false,Nat.zero_add,Nat.reduceEqDiff,decide_true,decide_false]
structure EnSs (E:Nat→Option Fn):Prop where
  sm:EnSm E
  sa:E k_segment_Same=some f_segment_Same
  ef:E k_slices_EqualFunc_api_Record_api_Record_api_Record_api_Record=some f_slices_EqualFunc_api_Record_api_Record_api_Record_api_Record
structure NoSs (X:Orc):Prop where
  sm:NoSm X
  sa:∀ a h,X (.fn k_segment_Same) a h=none
  ef:∀ a h,X (.fn k_slices_EqualFunc_api_Record_api_Record_api_Record_api_Record) a h=none
structure Eq7I (va vb:V) (n:Nat) (h0:H) (i:Nat) (T:Tr V) (h:H):Prop where
  il:i≤n
  t1:evO T (.t 1)=vb
  t2:evO T (.t 2)=.fn k_record_Same [] []
  t15:evO T (.t 15)=va
  t16:evO T (.t 16)=.int .i64 (n:Int)
  t17:evO T (.t 17)=.int .i64 (i:Int)
  kp:Kp h0 h
theorem e7_round (e:EnSs E) (x:NoSs X) (M m:Nat) (as bs:List (List Rq)) (hl:as.length=bs.length) (hn:as.length≤1000000) (ok:∀ g ∈ as,g.length≤1000000∧g.length < M∧∀ o ∈ g,o.ok) (pk:∀ g ∈ bs,g.length < 9223372036854775807∧∀ o ∈ g,o.ok) (a b:Option (Nat × Nat)) (c d:Option Nat) (ea eb:Nat) (h0:H) (K K':Nat→Prop) (ra:GsK K h0 as a ea) (rb:GsK K' h0 bs b eb) (i:Nat) (T:Tr V) (h:H) (o p:List Rq) (ho:as[i]?=some o) (hp:bs[i]?=some p) (I:Eq7I (.slice a as.length c ea) (.slice b bs.length d eb) as.length h0 i T h) :
    ∃ T' h',Kp h0 h'∧(o=p→evC (callX E X (M+5)) 32 m none L_slices_EqualFunc_api_Record_api_Record_api_Record_api_Record_0 ⟨T,[],h⟩=some (.normal,⟨T',[],h'⟩)∧Eq7I (.slice a as.length c ea) (.slice b bs.length d eb) as.length h0 (i+1) T' h')∧(o≠p→evC (callX E X (M+5)) 32 m none L_slices_EqualFunc_api_Record_api_Record_api_Record_api_Record_0 ⟨T,[],h⟩=some (.ret,⟨T',[],h'⟩)∧evO T' (.t 6)=.bool false):=by
  have hi:i < as.length:=(List.getElem?_eq_some_iff.1 ho).1
  obtain ⟨_,t1,t2,t15,t16,t17,kp⟩:=I
  have c0:decide ((i:Int) < (as.length:Int))=true:=decide_eq_true (by omega)
  have wi:wr .i64 ((i:Int)+1)=((i+1:Nat):Int):=by rw [wr_i64 (by omega)]; omega
  have ix:idx (i:Int) as.length=some i:=idxn hi
  have ix2:idx (i:Int) bs.length=some i:=idxn (by omega)
  obtain ⟨q,off,vs,md,b1,cb1,eb1,rfl,rfl,hq,gq,cg,rg,_⟩:=gs_at (ra.kp kp) i o ho
  obtain ⟨q2,off2,vs2,md2,b2,cb2,eb2,rfl,rfl,hq2,gq2,cg2,rg2,_⟩:=gs_at (rb.kp kp) i p hp
  have oo:=ok o (List.mem_of_getElem? ho)
  have pp:=pk p (List.mem_of_getElem? hp)
  obtain ⟨h3,rs,k3⟩:=rsame_go e.sm x.sm M o p oo.1 oo.2.1 pp.1 oo.2.2 pp.2 b1 b2 cb1 cb2 eb1 eb2 h rg.row rg2.row
  have i1:i+1≤as.length:=hi
  obtain ⟨n,en⟩:∃ n,as.length=n:=⟨_,rfl⟩
  obtain ⟨n2,en2⟩:∃ n,bs.length=n:=⟨_,rfl⟩
  obtain ⟨l1,el1⟩:∃ n,o.length=n:=⟨_,rfl⟩
  obtain ⟨l2,el2⟩:∃ n,p.length=n:=⟨_,rfl⟩
  rw [en] at t15 t16 c0 ix
  rw [en2] at t1 ix2
  rw [el1] at cg rs
  rw [el2] at cg2 rs
  by_cases eo:o=p
  · rw [decide_eq_true eo] at rs
    obtain ⟨T',r,u1,u2,u15,u16,u17⟩:∃ T',evC (callX E X (M+5)) 32 m none L_slices_EqualFunc_api_Record_api_Record_api_Record_api_Record_0 ⟨T,[],h⟩=some (.normal,⟨T',[],h3⟩)∧evO T' (.t 1)=.slice (some (q2,off2)) n2 d 1∧evO T' (.t 2)=.fn k_record_Same [] []∧evO T' (.t 15)=.slice (some (q,off)) n c 1∧evO T' (.t 16)=.int .i64 (n:Int)∧evO T' (.t 17)=.int .i64 ((i+1:Nat):Int):=by
      exact ⟨_,by
        simp (config:={maxSteps:=2000000}) (disch:=first | omega | (simp only [List.length_cons,List.length_nil,List.length_append,List.length_drop]; omega)) only [L_slices_EqualFunc_api_Record_api_Record_api_Record_api_Record_0,t1,t2,t15,t16,t17,gq,gq2,cg,cg2,rs,c0,wi,ix,ix2,List.nil_append,List.append_nil,Nat.mul_one,↓s_load,m_load,↓m_load1,m_load1,↓x_idxS,x_idxSE,x_addrE,List.nil_append,↓s_skip,↓s_ops,↓s_seq,↓s_cond,↓s_block,↓s_nil,↓s_op,↓s_bindS,s_bindS,↓s_bindE,s_bindE,s_norm,↓s_condV,s_condV,s_block_normal,↓s_getp,↓s_con,↓s_os0,↓s_os1,↓s_mov,↓s_bin,↓s_un,↓s_callv,↓s_callV,s_same,b_lss,b_add,u_not,↓iteN_true,↓iteN_false,iteN_true,iteN_false,List.nil_append,List.append_nil,Nat.reduceEqDiff,decide_true,decide_false,Bool.not_true]
        exact rfl,(by (simp only [s_getp,Nat.reduceEqDiff,decide_false,iteN_false,t1]; try rfl)),(by (simp only [s_getp,Nat.reduceEqDiff,decide_false,iteN_false,t2]; try rfl)),(by (simp only [s_getp,Nat.reduceEqDiff,decide_false,iteN_false,t15]; try rfl)),(by (simp only [s_getp,Nat.reduceEqDiff,decide_false,iteN_false,t16]; try rfl)),(by (simp only [s_getp,decide_true,iteN_true]; try rfl))⟩
    exact ⟨T',h3,kp.trans k3,fun _ => ⟨r,i1,by rw [en2]; exact u1,u2,by rw [en]; exact u15,by rw [en]; exact u16,u17,kp.trans k3⟩,fun h => absurd eo h⟩
  · rw [decide_eq_false eo] at rs
    obtain ⟨T',r,u6⟩:∃ T',evC (callX E X (M+5)) 32 m none L_slices_EqualFunc_api_Record_api_Record_api_Record_api_Record_0 ⟨T,[],h⟩=some (.ret,⟨T',[],h3⟩)∧evO T' (.t 6)=.bool false:=by
      exact ⟨_,by
        simp (config:={maxSteps:=2000000}) (disch:=first | omega | (simp only [List.length_cons,List.length_nil,List.length_append,List.length_drop]; omega)) only [L_slices_EqualFunc_api_Record_api_Record_api_Record_api_Record_0,t1,t2,t15,t16,t17,gq,gq2,cg,cg2,rs,c0,ix,ix2,List.nil_append,List.append_nil,Nat.mul_one,↓s_load,m_load,↓m_load1,m_load1,↓x_idxS,x_idxSE,x_addrE,List.nil_append,↓s_skip,↓s_ops,↓s_seq,↓s_cond,↓s_block,↓s_ret,↓s_nil,↓s_op,↓s_bindS,s_bindS,↓s_bindE,s_bindE,s_bindE_ret,s_norm,↓s_condV,s_condV,s_block_ret,↓s_getp,↓s_con,↓s_os0,↓s_os1,↓s_mov,↓s_bin,↓s_un,↓s_callv,↓s_callV,s_same,b_lss,u_not,↓iteN_true,↓iteN_false,iteN_true,iteN_false,List.nil_append,List.append_nil,Nat.reduceEqDiff,decide_true,decide_false,Bool.not_false]
        exact rfl,(by (simp only [s_getp,decide_true,iteN_true]; try rfl))⟩
    exact ⟨T',h3,kp.trans k3,fun h => absurd h eo,fun _ => ⟨r,u6⟩⟩
theorem ssame_go (e:EnSs E) (x:NoSs X) (M:Nat) (as bs:List (List Rq)) (hn:as.length≤1000000) (hM:as.length < M) (hbn:bs.length < 9223372036854775807) (ok:∀ g ∈ as,g.length≤1000000∧g.length < M∧∀ o ∈ g,o.ok) (pk:∀ g ∈ bs,g.length < 9223372036854775807∧∀ o ∈ g,o.ok) (a b:Option (Nat × Nat)) (c d:Option Nat) (ea eb:Nat) (h:H) (K K':Nat→Prop) (ra:GsK K h as a ea) (rb:GsK K' h bs b eb) :
    ∃ h',callX E X (M+7) (.fn k_segment_Same) [.slice a as.length c ea,.slice b bs.length d eb] h=some (.bool (decide (as=bs)),h')∧Kp h h':=by
  have eqf:∃ h',callX E X (M+6) (.fn k_slices_EqualFunc_api_Record_api_Record_api_Record_api_Record) [.slice a as.length c ea,.slice b bs.length d eb,.fn k_record_Same [] []] h=some (.bool (decide (as=bs)),h')∧Kp h h':=by
    rw [x_cfn e.ef _ _ (Nat.le_of_ble_eq_true rfl) (x.ef _ _)]
    by_cases hl:as.length=bs.length
    · have fin:∀ T,Eq7I (.slice a as.length c ea) (.slice b bs.length d eb) as.length h 0 T h→∃ h',fnEnd [.tmp 6] (bindE (blockE 0 (loopN (evC (callX E X (M+5)) 32 (M+5) none L_slices_EqualFunc_api_Record_api_Record_api_Record_api_Record_0) (M+5) ⟨T,[],h⟩)) (evC (callX E X (M+5)) 32 (M+5) none R_slices_EqualFunc_api_Record_api_Record_api_Record_api_Record_0))=some (.bool (decide (as=bs)),h')∧Kp h h':=by
        intro T I
        have get:∀ i,i < as.length→∃ o p,as[i]?=some o∧bs[i]?=some p:=fun i hi => ⟨_,_,List.getElem?_eq_getElem hi,List.getElem?_eq_getElem (by omega)⟩
        rcases eq_or2 as bs hl with eab | ⟨j,o,p,h1,h2,h3,h4⟩
        · rw [decide_eq_true eab]
          obtain ⟨T',h',rr,kp⟩:=loop_go (f:=evC (callX E X (M+5)) 32 (M+5) none L_slices_EqualFunc_api_Record_api_Record_api_Record_api_Record_0) (Eq7I (.slice a as.length c ea) (.slice b bs.length d eb) as.length h) as.length (.exit 0) (by intro h; cases h) (fun _ h' => Kp h h') (fun i T h' hi I => by
            obtain ⟨o,p,ho,hp⟩:=get i hi
            obtain ⟨T',h2,_,q,_⟩:=e7_round e x M (M+5) as bs hl hn ok pk a b c d ea eb h K K' ra rb i T h' o p ho hp I
            rw [eab,hp] at ho
            cases ho
            exact ⟨T',h2,q rfl⟩) (fun T h' I => by
            obtain ⟨il,t1,t2,t15,t16,t17,kp⟩:=I
            have c0:decide ((as.length:Int) < (as.length:Int))=false:=decide_eq_false (by omega)
            exact ⟨_,_,by
              simp (config:={maxSteps:=2000000}) (disch:=first | omega | (simp only [List.length_cons,List.length_nil,List.length_append,List.length_drop]; omega)) only [L_slices_EqualFunc_api_Record_api_Record_api_Record_api_Record_0,t16,t17,c0,↓s_ops,↓s_seq,↓s_cond,↓s_exit,↓s_nil,↓s_op,↓s_bindS,s_bindS,↓s_bindE,s_bindE,s_bindE_exit,s_norm,↓s_condV,s_condV,↓s_getp,↓s_bin,s_same,b_lss,↓iteN_true,↓iteN_false,iteN_true,iteN_false,decide_true]
              exact rfl,kp⟩) as.length 0 (by omega) (M+5) (by omega) T h I
          rw [rr]
          refine ⟨h',?_,kp⟩
          simp (config:={maxSteps:=2000000}) (disch:=first | omega | (simp only [List.length_cons,List.length_nil,List.length_append,List.length_drop]; omega)) only [R_slices_EqualFunc_api_Record_api_Record_api_Record_api_Record_0,s_res0,↓s_ops,↓s_seq,↓s_ret,↓s_nil,↓s_op,↓s_bindS,s_bindS,↓s_bindE,s_bindE,s_norm,s_block_exit,↓s_getp,↓s_con,↓s_mov,s_end,s_res0,s_res1,s_tup1,↓iteN_true,iteN_true,decide_true,if_true]
          try rfl
        · have hne:as≠bs:=fun e => h3 (by rw [e,h2] at h1; cases h1; rfl)
          rw [decide_eq_false hne]
          have hj:j < as.length:=(List.getElem?_eq_some_iff.1 h1).1
          obtain ⟨T',h',rr,u6,kp⟩:=loop_go (f:=evC (callX E X (M+5)) 32 (M+5) none L_slices_EqualFunc_api_Record_api_Record_api_Record_api_Record_0) (Eq7I (.slice a as.length c ea) (.slice b bs.length d eb) as.length h) j .ret (by intro h; cases h) (fun T h' => evO T (.t 6)=.bool false∧Kp h h') (fun i T h' hi I => by
            obtain ⟨o,p,ho,hp⟩:=get i (by omega)
            obtain ⟨T',h2,_,q,_⟩:=e7_round e x M (M+5) as bs hl hn ok pk a b c d ea eb h K K' ra rb i T h' o p ho hp I
            exact ⟨T',h2,q (h4 i o p hi ho hp)⟩) (fun T h' I => by
            obtain ⟨T',h2',k,_,q⟩:=e7_round e x M (M+5) as bs hl hn ok pk a b c d ea eb h K K' ra rb j T h' o p h1 h2 I
            obtain ⟨q1,q2⟩:=q h3
            exact ⟨T',h2',q1,q2,k⟩) j 0 (by omega) (M+5) (by omega) T h I
          rw [rr]
          refine ⟨h',?_,kp⟩
          simp (config:={maxSteps:=2000000}) (disch:=first | omega | (simp only [List.length_cons,List.length_nil,List.length_append,List.length_drop]; omega)) only [u6,s_res0,s_bindE_ret,s_block_ret,s_end,s_res0,s_res1,s_tup1]
          try rfl
      have c1:(!decide ((as.length:Int)=(bs.length:Int)))=false:=by rw [decide_eq_true (by omega)]; rfl
      obtain ⟨R,eR⟩:∃ R,R_slices_EqualFunc_api_Record_api_Record_api_Record_api_Record_0=R:=⟨_,rfl⟩
      obtain ⟨Lo,eL⟩:∃ R,L_slices_EqualFunc_api_Record_api_Record_api_Record_api_Record_0=R:=⟨_,rfl⟩
      rw [eR,eL] at fin ⊢
      obtain ⟨n,en⟩:∃ n,as.length=n:=⟨_,rfl⟩
      obtain ⟨n2,en2⟩:∃ n,bs.length=n:=⟨_,rfl⟩
      rw [en,en2] at c1 fin ⊢
      simp (config:={maxSteps:=2000000}) (disch:=first | omega | (simp only [List.length_cons,List.length_nil,List.length_append,List.length_drop]; omega)) only [c1,↓s_len,x_lenS,Nat.zero_add,↓l_loop,↓l_succ,x_lenS,↓s_len,Nat.reduceAdd,↓s_skip,↓s_ops,↓s_seq,↓s_cond,↓s_block,↓s_nil,↓s_op,↓s_bindS,s_bindS,↓s_bindE,s_bindE,s_norm,↓s_condV,s_condV,↓s_getp,↓s_get,↓s_con,↓s_list0,↓s_list1,↓s_mov,↓s_bin,s_same,b_neq,↓iteN_true,↓iteN_false,iteN_true,iteN_false,Nat.zero_add,Nat.reduceEqDiff,decide_true,decide_false]
      exact fin _ ⟨Nat.zero_le _,(by (simp only [s_getp,Nat.reduceEqDiff,decide_false,iteN_false]; try rfl)),(by (simp only [s_getp,Nat.reduceEqDiff,decide_false,iteN_false]; try rfl)),(by (simp only [s_getp,Nat.reduceEqDiff,decide_false,decide_true,iteN_false,iteN_true]; try rfl)),(by (simp only [s_getp,Nat.reduceEqDiff,decide_false,decide_true,iteN_false,iteN_true]; try rfl)),(by (simp only [s_getp,decide_true,iteN_true]; try rfl)),Kp.refl _⟩
    · rw [decide_eq_false (fun e => hl (by rw [e]))]
      have c1:(!decide ((as.length:Int)=(bs.length:Int)))=true:=by rw [decide_eq_false (by omega)]; rfl
      refine ⟨h,?_,Kp.refl _⟩
      obtain ⟨Lo,eL⟩:∃ R,L_slices_EqualFunc_api_Record_api_Record_api_Record_api_Record_0=R:=⟨_,rfl⟩
      rw [eL]
      generalize as.length=n at *
      generalize bs.length=n2 at *
      simp (config:={maxSteps:=2000000}) (disch:=first | omega | (simp only [List.length_cons,List.length_nil,List.length_append,List.length_drop]; omega)) only [c1,↓s_len,x_lenS,Nat.zero_add,x_lenS,↓s_len,Nat.reduceAdd,s_res0,↓s_ops,↓s_seq,↓s_cond,↓s_ret,↓s_nil,↓s_op,↓s_bindS,s_bindS,↓s_bindE,s_bindE,s_bindE_ret,s_norm,↓s_condV,s_condV,↓s_getp,↓s_get,↓s_con,↓s_list0,↓s_list1,↓s_mov,↓s_bin,s_same,b_neq,s_end,s_res0,s_res1,s_tup1,↓iteN_true,↓iteN_false,iteN_true,iteN_false,Nat.zero_add,Nat.reduceEqDiff,decide_true,decide_false]
      try rfl
  obtain ⟨h',r,k⟩:=eqf
  rw [x_cfn e.sa _ _ (Nat.le_of_ble_eq_true rfl) (x.sa _ _)]
  refine ⟨h',?_,k⟩
  generalize as.length=n at *
  generalize bs.length=n2 at *
  generalize decide (as=bs)=w at *
  simp (config:={maxSteps:=2000000}) (disch:=first | omega | (simp only [List.length_cons,List.length_nil,List.length_append,List.length_drop]; omega)) only [r,Nat.zero_add,s_res0,↓s_ops,↓s_seq,↓s_ret,↓s_nil,↓s_op,↓s_bindS,s_bindS,↓s_bindE,s_bindE,s_norm,↓s_getp,↓s_get,↓s_con,↓s_fn,↓s_os0,↓s_os1,↓s_list0,↓s_list1,↓s_mov,↓s_call,s_end,s_res0,s_res1,s_tup1,↓iteN_true,↓iteN_false,iteN_true,iteN_false,Nat.zero_add,Nat.reduceEqDiff,decide_true,decide_false]
end Go.Eng
namespace Go.Eng
open Go
variable {E:Nat→Option Fn} {X:Orc}
set_option linter.unusedSimpArgs false
set_option linter.unusedVariables false
/-! rows of groups that may be written over -/
def WrK (K:Nat→Prop) (h:H) (ops:List Rq) (a:Option (Nat × Nat)) (e:Nat):Prop:=ops=[]∨∃ q vs md,a=some (q,0)∧e=2∧K q∧q < h.next∧h.get q=some (.cells vs md)∧isRo md=false∧ops.length * 2≤vs.length∧∀ i o,ops[i]?=some o→∃ b cb eb,(vs.drop (i * 2)).take 2=[.int .i64 o.kind,.slice b o.l.length cb eb]∧(o.l=[]∨∃ d m',b=some (d,0)∧eb=1∧K d∧d < h.next∧h.get d=some (.cells (ofI .u8 o.l) m')∧isRo m'=false)
theorem WrK.mono {K K':Nat→Prop} {h h':H} {ops:List Rq} {a:Option (Nat × Nat)} {e:Nat} (r:WrK K h ops a e) (hn:h.next≤h'.next) (k:∀ i,K i→i < h.next→h'.get i=h.get i) (w:∀ i,K i→i < h.next→K' i):WrK K' h' ops a e:=by
  rcases r with r | ⟨q,vs,md,e1,e2,hk,hq,g,hm,hl,at_⟩
  · exact .inl r
  · refine .inr ⟨q,vs,md,e1,e2,w _ hk hq,by omega,by rw [k _ hk hq,g],hm,hl,fun i o ho => ?_⟩
    obtain ⟨b,cb,eb,e3,s⟩:=at_ i o ho
    refine ⟨b,cb,eb,e3,?_⟩
    rcases s with s | ⟨d,m',f1,f2,f3,f4,f5,f6⟩
    · exact .inl s
    · exact .inr ⟨d,m',f1,f2,w _ f3 f4,by omega,by rw [k _ f3 f4,f5],f6⟩
theorem WrK.k {K:Nat→Prop} {h:H} {ops:List Rq} {a:Option (Nat × Nat)} {e:Nat} (r:WrK K h ops a e):RrK K h ops a e:=by
  rcases r with r | ⟨q,vs,md,e1,e2,hk,hq,g,hm,hl,at_⟩
  · exact .inl r
  · refine .inr ⟨q,0,vs,md,e1,e2,hk,hq,g,by omega,fun i o ho => ?_⟩
    obtain ⟨b,cb,eb,e3,s⟩:=at_ i o ho
    refine ⟨b,cb,eb,by rw [Nat.zero_add]; exact e3,?_⟩
    rcases s with s | ⟨d,m',f1,f2,f3,f4,f5,f6⟩
    · exact .inl s
    · exact .inr ⟨d,0,_,m',f1,f2,f3,f4,f5,by rw [ofI_len]; omega,by rw [List.drop_zero]; exact List.take_of_length_le (by rw [ofI_len]; exact Nat.le_refl _)⟩
theorem RrF.wk {lo:Nat} {h:H} {dn:List Rq} {a:Option (Nat × Nat)} {c:Option Nat} {e:Nat} (r:RrF lo h dn a c e):WrK (fun i => lo≤i) h dn a e:=by
  rcases r with ⟨r,_⟩ | ⟨h1,q,md,ps,e1,e2,e3,g,al,hm,hq,hl⟩
  · exact .inl r
  · refine .inr ⟨q,_,md,e1,e3,hl,hq,g,hm,by rw [flat_len (k:=2) (ral_len2 al),al.len]; omega,fun i o ho => ?_⟩
    obtain ⟨p,hp,b,cb,eb,rfl,s,d⟩:=al.get i o ho
    refine ⟨b,cb,eb,flat_get (ral_len2 al) i _ hp,?_⟩
    rcases s with s | ⟨bi,m,f1,f2,f4,f5,f3⟩
    · exact .inl s
    · by_cases hne:o.l=[]
      · exact .inl hne
      · exact .inr ⟨bi,m,f1,f2,(d hne bi 0 f1).1,f3,f4,f5⟩
def GwF (K:Nat→Prop) (lo:Nat) (h:H) (gs:List (List Rq)) (a:Option (Nat × Nat)) (c:Option Nat) (e:Nat):Prop:=(gs=[]∧a=none∧c=some 0∧e=0)∨(0 < gs.length∧∃ q md vs,a=some (q,0)∧c=none∧e=1∧h.get q=some (.cells vs md)∧vs.length=gs.length∧isRo md=false∧lo≤q∧q < h.next∧∀ (i:Nat) (g:List Rq),gs[i]?=some g→∃ b cb eb,vs[i]?=some (V.slice b g.length cb eb)∧WrK (fun j => K j∧j≠q) h g b eb)
theorem GwF.nil (K:Nat→Prop) (lo:Nat) (h:H):GwF K lo h [] none (some 0) 0:=.inl ⟨rfl,rfl,rfl,rfl⟩
theorem GwF.mono {K:Nat→Prop} {lo:Nat} {h h':H} {gs:List (List Rq)} {a:Option (Nat × Nat)} {c:Option Nat} {e:Nat} (r:GwF K lo h gs a c e) (hn:h.next≤h'.next) (k:∀ i,K i→i < h.next→h'.get i=h.get i) (kl:∀ i,lo≤i→i < h.next→h'.get i=h.get i):GwF K lo h' gs a c e:=by
  rcases r with r | ⟨h1,q,md,vs,e1,e2,e3,g,hv,hm,hl,hq,at_⟩
  · exact .inl r
  · exact .inr ⟨h1,q,md,vs,e1,e2,e3,by rw [kl _ hl hq,g],hv,hm,hl,by omega,fun i o ho => by
      obtain ⟨b,cb,eb,e4,s⟩:=at_ i o ho
      exact ⟨b,cb,eb,e4,s.mono hn (fun i hk hi => k i hk.1 hi) (fun _ h _ => h)⟩⟩
theorem GwF.kp {K:Nat→Prop} {lo:Nat} {h h':H} {gs:List (List Rq)} {a:Option (Nat × Nat)} {c:Option Nat} {e:Nat} (r:GwF K lo h gs a c e) (k:Kp h h'):GwF K lo h' gs a c e:=r.mono k.1 (fun i _ hi => k.2 i hi) (fun i _ hi => k.2 i hi)
theorem GwF.lt {K:Nat→Prop} {lo:Nat} {h:H} {gs:List (List Rq)} {a:Option (Nat × Nat)} {c:Option Nat} {e:Nat} (r:GwF K lo h gs a c e) {q z:Nat} (ea:a=some (q,z)):lo≤q∧q < h.next∧z=0:=by
  rcases r with ⟨_,h1,_⟩ | ⟨_,q',_,_,h1,_,_,_,_,_,hl,hq,_⟩
  · rw [h1] at ea; cases ea
  · rw [h1] at ea; cases ea; exact ⟨hl,hq,rfl⟩
theorem gaw_row (K:Nat→Prop) (lo:Nat) (h:H) (hlo:lo≤h.next) (gs:List (List Rq)) (hd:gs.length≤1000000) (a:Option (Nat × Nat)) (c:Option Nat) (e:Nat) (r:GwF K lo h gs a c e) (g:List Rq) (b:Option (Nat × Nat)) (cb:Option Nat) (eb:Nat) (hs:WrK (fun j => K j∧a≠some (j,0)) h g b eb) :
    ∃ h',appendC h 1 24 (.slice a gs.length c e) (some (1,[.slice b g.length cb eb]))=some (.slice (some (h.next,0)) (gs.length+1) none 1,h')∧GwF K lo h' (gs++[g]) (some (h.next,0)) none 1∧h'.next=h.next+1∧∀ i,i < h.next→a≠some (i,0)→h'.get i=h.get i:=by
  rcases r with ⟨rfl,rfl,rfl,rfl⟩ | ⟨h1,q,md,vs,rfl,rfl,rfl,gq,hv,hm,hl,hq,at_⟩
  · have k:Kp h (h.new (.cells [.slice b g.length cb eb] .rw)):=Kp.new _ _
    refine ⟨h.new (.cells [.slice b g.length cb eb] .rw),?_,.inr ⟨by simp,h.next,.rw,[.slice b g.length cb eb],rfl,rfl,rfl,h_new_same _ _,rfl,rfl,hlo,Nat.lt_succ_self _,fun i g' ho => ?_⟩,rfl,fun i hi _ => h_new_ne _ _ (by omega)⟩
    · unfold appendC
      simp only [List.length_nil]
      have r:(roomy (0+1) 24 && (Nat.beq 0 1 || (none:Option (Nat × Nat)).isNone) && ([V.slice b g.length cb eb]).all plainV)=true:=rfl
      rw [r]
      rfl
    · cases i with
      | succ i => simp at ho
      | zero =>
        cases ho
        exact ⟨b,cb,eb,rfl,hs.mono k.1 (fun i _ hi => k.2 i hi) (fun i hk hi => ⟨hk.1,by omega⟩)⟩
  · have nx:((h.del q).new (.cells (vs++[.slice b g.length cb eb]) .sh)).next=h.next+1:=by simp only [h_next_new,h_next_del]
    have fr:∀ i,i < h.next→i≠q→((h.del q).new (.cells (vs++[.slice b g.length cb eb]) .sh)).get i=h.get i:=fun i hi hne => by
      rw [h_new_ne _ _ (by rw [h_next_del]; omega),h_del_ne _ (fun e => hne e.symm)]
    refine ⟨(h.del q).new (.cells (vs++[.slice b g.length cb eb]) .sh),?_,.inr ⟨by simp,h.next,.sh,vs++[.slice b g.length cb eb],rfl,rfl,rfl,h_new_same' _ _ (by rw [h_next_del]),by rw [List.length_append,List.length_append,hv]; rfl,rfl,hlo,by rw [nx]; omega,fun i g' ho => ?_⟩,nx,fun i hi hne => fr i hi (fun e => hne (by rw [e]))⟩
    · unfold appendC
      simp only
      have r:(roomy (gs.length+1) 24 && (Nat.beq 1 1 || (some (q,0):Option (Nat × Nat)).isNone) && ([V.slice b g.length cb eb]).all plainV)=true:=by
        have:roomy (gs.length+1) 24=true:=by simp [roomy]; omega
        rw [this]; rfl
      have f:fullC none (gs.length+1)=false:=rfl
      have rd:readN vs 0 (gs.length * 1)=some vs:=by
        have:=readN_of vs 0 (gs.length * 1) (by omega)
        rw [List.drop_zero,List.take_of_length_le (by omega)] at this
        exact this
      rw [r]
      simp only [_root_.cond_true,gq,f]
      cases md with
      | ro => cases hm
      | rw => simp only [rd]
      | sh => simp only [rd]
    · by_cases hi:i < gs.length
      · rw [List.getElem?_append_left hi] at ho
        obtain ⟨b',cb',eb',e4,s⟩:=at_ i g' ho
        exact ⟨b',cb',eb',by rw [List.getElem?_append_left (by omega)]; exact e4,s.mono (by rw [nx]; omega) (fun i hk hi => fr i hi hk.2) (fun i hk hi => ⟨hk.1,by omega⟩)⟩
      · have hi2:i=gs.length:=by
          have:=(List.getElem?_eq_some_iff.1 ho).1
          rw [List.length_append] at this; simp at this; omega
        subst hi2
        rw [List.getElem?_append_right (Nat.le_refl _),Nat.sub_self] at ho
        cases ho
        refine ⟨b,cb,eb,by rw [List.getElem?_append_right (by omega),hv,Nat.sub_self]; rfl,hs.mono (by rw [nx]; omega) (fun i hk hi => fr i hi (fun e => hk.2 (by rw [e]))) (fun i hk hi => ⟨hk.1,by omega⟩)⟩
theorem GwF.gg {K:Nat→Prop} {lo:Nat} {h:H} {gs:List (List Rq)} {a:Option (Nat × Nat)} {c:Option Nat} {e:Nat} (r:GwF K lo h gs a c e):GgF K lo h gs a c e:=by
  rcases r with r | ⟨h1,q,md,vs,e1,e2,e3,g,hv,hm,hl,hq,at_⟩
  · exact .inl r
  · exact .inr ⟨h1,q,md,vs,e1,e2,e3,g,hv,hm,hl,hq,fun i o ho => by
      obtain ⟨b,cb,eb,e4,s⟩:=at_ i o ho
      exact ⟨b,cb,eb,e4,s.k⟩⟩
theorem gyw_go (x:NoSg X) (M L p4 p5 D lo:Nat) (T0:Tr V) (t4:evO T0 (.t 4)=.ptr (some (p4,0))) (t5:evO T0 (.t 5)=.ptr (some (p5,0))) (hp4:p4 < lo) (hp5:p5 < lo) (hL:L < lo) (z45:p4≠p5) (zL4:L≠p4) (zL5:L≠p5) (h:H) (hlo:lo≤h.next) (gs:List (List Rq)) (hd:gs.length≤1000000) (a:Option (Nat × Nat)) (c:Option Nat) (ez:Nat) (n0:Int)
    (g4:h.get p4=some (.cells [.slice a gs.length c ez] .rw)) (g5:h.get p5=some (.cells [.int .i64 n0] .rw)) (gL:h.get L=some (.loop 0 none 20 T0 [11,12] A_segment_Read_0 B_segment_Read_0 D)) (row:GwF (geK lo) lo h gs a c ez)
    (g:List Rq) (b:Option (Nat × Nat)) (cb:Option Nat) (eb:Nat) (hs:WrK (fun j => lo≤j∧a≠some (j,0)) h g b eb) (at':Nat) :
    ∃ h' a' c' e',callX E X (M+1) (.yld L) [.int .i64 (at':Int),.slice b g.length cb eb] h=some (.bool true,h')∧h.next≤h'.next∧h'.get p4=some (.cells [.slice a' (gs.length+1) c' e'] .rw)∧h'.get p5=some (.cells [.int .i64 (at':Int)] .rw)∧h'.get L=some (.loop 0 none 20 T0 [11,12] A_segment_Read_0 B_segment_Read_0 D)∧GwF (geK lo) lo h' (gs++[g]) a' c' e'∧∀ i,i < lo→i≠p4→i≠p5→i≠L→h'.get i=h.get i:=by
  have yx:callX E X (M+1) (.yld L) [.int .i64 (at':Int),.slice b g.length cb eb] h=cYld (callX E X M) M L [.int .i64 (at':Int),.slice b g.length cb eb] h:=x_yld (x.y _ _ _)
  rw [yx]
  have y4:(L=p4)=False:=by simp; omega
  have y4':(p4=L)=False:=by simp; omega
  have y5:(L=p5)=False:=by simp; omega
  have y5':(p5=L)=False:=by simp; omega
  obtain ⟨hB,eB⟩:∃ hB,h.put L (.loop 1 none 20 T0 [11,12] A_segment_Read_0 B_segment_Read_0 D)=hB:=⟨_,rfl⟩
  have nB:hB.next=h.next:=by rw [← eB]; rfl
  have fB:∀ i,i≠L→hB.get i=h.get i:=fun i hne => by rw [← eB,h_put_ne _ _ (Ne.symm hne)]
  have gBL:hB.get L=some (.loop 1 none 20 T0 [11,12] A_segment_Read_0 B_segment_Read_0 D):=by rw [← eB]; exact h_put_same _ _ _
  have gB4:hB.get p4=some (.cells [.slice a gs.length c ez] .rw):=by rw [fB _ (Ne.symm zL4),g4]
  obtain ⟨hC,eC⟩:∃ hC,hB.new (.cells [.slice b g.length cb eb] .rw)=hC:=⟨_,rfl⟩
  have kC:Kp hB hC:=by rw [← eC]; exact Kp.new _ _
  have nC:hC.next=h.next+1:=by rw [← eC,h_next_new,nB]
  have frC:∀ i,lo≤i→i < h.next→hC.get i=h.get i:=fun i h1 h2 => by rw [kC.2 _ (by omega),fB _ (by omega)]
  have rowC:GwF (geK lo) lo hC gs a c ez:=row.mono (by omega) frC frC
  have hsC:WrK (fun j => lo≤j∧a≠some (j,0)) hC g b eb:=hs.mono (by omega) (fun i hk hi => frC i hk.1 hi) (fun _ h _ => h)
  obtain ⟨hD,ap,rowD,nD,fD⟩:=gaw_row (geK lo) lo hC (by omega) gs hd a c ez rowC g b cb eb hsC
  have scC:=src_g hB b g.length cb eb
  rw [eC] at scC
  have na4:a≠some (p4,0):=fun e => by have:=(row.lt e).1; omega
  have na5:a≠some (p5,0):=fun e => by have:=(row.lt e).1; omega
  have naL:a≠some (L,0):=fun e => by have:=(row.lt e).1; omega
  have gD4:hD.get p4=some (.cells [.slice a gs.length c ez] .rw):=by rw [fD _ (by omega) na4,kC.2 _ (by omega),gB4]
  have gD5:hD.get p5=some (.cells [.int .i64 n0] .rw):=by rw [fD _ (by omega) na5,kC.2 _ (by omega),fB _ (Ne.symm zL5),g5]
  have gDL:hD.get L=some (.loop 1 none 20 T0 [11,12] A_segment_Read_0 B_segment_Read_0 D):=by rw [fD _ (by omega) naL,kC.2 _ (by omega),gBL]
  obtain ⟨hE,eE⟩:∃ hE,((hD.put p4 (.cells [.slice (some (hC.next,0)) (gs.length+1) none 1] .rw)).put p5 (.cells [.int .i64 (at':Int)] .rw)).put L (.loop 0 none 20 T0 [11,12] A_segment_Read_0 B_segment_Read_0 D)=hE:=⟨_,rfl⟩
  have z2:(p4=p5)=False:=by simp; omega
  have z3:(p5=p4)=False:=by simp; omega
  have nE:hE.next=hD.next:=by rw [← eE]; rfl
  have frE:∀ i,lo≤i→hE.get i=hD.get i:=fun i h1 => by rw [← eE,h_put_ne _ _ (by omega),h_put_ne _ _ (by omega),h_put_ne _ _ (by omega)]
  refine ⟨hE,some (hC.next,0),none,1,?_,by omega,by rw [← eE]; (simp (disch:=omega) only [h_put_get,decide_true,decide_false,iteN_true,iteN_false,y4,z3]; try rfl),by rw [← eE]; (simp (disch:=omega) only [h_put_get,decide_true,decide_false,iteN_true,iteN_false,y5]; try rfl),by rw [← eE]; exact h_put_same _ _ _,rowD.mono (by omega) (fun i h1 h2 => frE i h1) (fun i h1 h2 => frE i h1),fun i hi n4 n5 nL => by rw [← eE,h_put_ne _ _ (Ne.symm nL),h_put_ne _ _ (Ne.symm n5),h_put_ne _ _ (Ne.symm n4),fD _ (by omega) (fun e => by have:=(row.lt e).1; omega),kC.2 _ (by omega),fB _ nL]⟩
  generalize gs.length=gl at *
  generalize g.length=gg at *
  simp (config:={maxSteps:=2000000}) (disch:=first | omega | (simp only [List.length_cons,List.length_nil,List.length_append,List.length_drop]; omega)) only [gL,t4,t5,y4',y5',z2,m_storeS,eB,gB4,eC,scC,ap,gD4,gD5,gDL,eE,y_cyld,y_ready,y_set2,y_mid,y_busy,y_end,y_done,y_jn,Option.isNone_none,↓u_A_segment_Read_0,↓u_B_segment_Read_0,↓s_append,Nat.zero_add,↓h_put_get,↓s_load,m_load,↓m_load1,m_load1,↓m_st,m_stE,m_storeI,m_storeE,w_zero,↓x_buildS,x_buildE,↓x_P0,↓x_P1,x_fill0,x_fills,List.length_cons,List.length_nil,List.drop_succ_cons,List.drop_nil,↓s_ops,↓s_seq,↓s_block,↓s_nil,↓s_op,↓s_bindS,s_bindS,↓s_bindE,s_bindE,s_norm,s_block_normal,↓s_getp,↓s_getp0,↓s_get,↓s_mov,s_same,↓iteN_true,↓iteN_false,iteN_true,iteN_false,Nat.zero_add,List.append_nil,Nat.reduceEqDiff,decide_true,decide_false,List.getElem?_cons_zero]
structure GxI (hB:H) (L p4 p5 pn lo D:Nat) (T0:Tr V) (gs:List (List Rq)) (at_ num:Nat) (h:H):Prop where
  st:∃ a c e,h.get p4=some (.cells [.slice a gs.length c e] .rw)∧GwF (geK lo) lo h gs a c e
  g5:h.get p5=some (.cells [.int .i64 (at_:Int)] .rw)
  gn:h.get pn=some (.cells [.int .u64 (num:Int)] .rw)
  gL:h.get L=some (.loop 0 none 20 T0 [11,12] A_segment_Read_0 B_segment_Read_0 D)
  nx:lo≤h.next
  fr:∀ i,i < lo→i≠p4→i≠p5→i≠pn→i≠L→h.get i=hB.get i
structure GxE (hB:H) (L p4 p5 pn lo D:Nat) (T0:Tr V) (gs:List (List Rq)) (at_:Nat) (h:H):Prop where
  st:∃ a c e,h.get p4=some (.cells [.slice a gs.length c e] .rw)∧GwF (geK lo) lo h gs a c e
  g5:h.get p5=some (.cells [.int .i64 (at_:Int)] .rw)
  gL:h.get L=some (.loop 0 none 20 T0 [11,12] A_segment_Read_0 B_segment_Read_0 D)
  nx:lo≤h.next
  fr:∀ i,i < lo→i≠p4→i≠p5→i≠pn→i≠L→h.get i=hB.get i
theorem grw_walk (e:EnSg E) (x:NoSg X) (M:Nat) (hM:1000000 < M) (hB:H) (L p4 p5 pn ps lo D:Nat) (T0:Tr V) (t4:evO T0 (.t 4)=.ptr (some (p4,0))) (t5:evO T0 (.t 5)=.ptr (some (p5,0))) (hp4:p4 < lo) (hp5:p5 < lo) (hpn:pn < lo) (hL:L < lo) (hps:ps < lo) (z45:p4≠p5) (zL4:L≠p4) (zL5:L≠p5) (n4:pn≠p4) (n5:pn≠p5) (nL:pn≠L) (s4:ps≠p4) (s5:ps≠p5) (sn:ps≠pn) (sL:ps≠L)
    (s:List Nat) (bs:byt s=true) (hs:s.length≤900000) (a:Option (Nat × Nat)) (c:Option Nat) (ez:Nat) (sb:SB s a c ez) (md:Md) (gs_:hB.get ps=some (.cells [.slice a s.length c ez] md)) (src:∀ h:H,lo≤h.next→(∀ i,i < lo→i≠p4→i≠p5→i≠pn→i≠L→h.get i=hB.get i)→SrcH h a ez s) :
    ∀ (n g:Nat) (gs:List (List Rq)) (at_ num:Nat) (T:Tr V) (h:H),s.length - at_≤n→n+1 < g→at_≤s.length→gs.length≤at_→num < 18446744073709551616→evO T (.t 0)=.yld L→evO T (.t 1)=.ptr (some (pn,0))→evO T (.t 2)=.ptr (some (ps,0))→evO T (.t 4)=.int .i64 (at_:Int)→GxI hB L p4 p5 pn lo D T0 gs at_ num h →
    ∃ ex T' h',loopN (evC (callX E X (M+23)) 30 (M+23) none L_segment_groups_1_0) g ⟨T,[],h⟩=some (ex,⟨T',[],h'⟩)∧(ex=.exit 0∨ex=.ret)∧GxE hB L p4 p5 pn lo D T0 (gs++(grV s (n+1) at_ num).1) (grV s (n+1) at_ num).2 h'∧h.next≤h'.next:=by
  -- nothing more
  have stop:∀ (gs:List (List Rq)) (at_ num:Nat) (T:Tr V) (h:H),at_≤s.length→num < 18446744073709551616→evO T (.t 0)=.yld L→evO T (.t 1)=.ptr (some (pn,0))→evO T (.t 2)=.ptr (some (ps,0))→evO T (.t 4)=.int .i64 (at_:Int)→GxI hB L p4 p5 pn lo D T0 gs at_ num h→(num=0∨(gaR num s at_).2.2=false)→∃ ex T' h',evC (callX E X (M+23)) 30 (M+23) none L_segment_groups_1_0 ⟨T,[],h⟩=some (ex,⟨T',[],h'⟩)∧(ex=.exit 0∨ex=.ret)∧GxE hB L p4 p5 pn lo D T0 gs at_ h'∧h.next≤h'.next:=by
    intro gs at_ num T h hat hnum t0 t1 t2 t4' I hd
    have gn:=I.gn
    by_cases hz:num=0
    · subst hz
      have z0:decide (((0:Nat):Int)=0)=true:=rfl
      have z1:decide ((0:Int)=0)=true:=rfl
      refine ⟨.exit 0,_,h,by
        simp (config:={maxSteps:=2000000}) (disch:=first | omega | (simp only [List.length_cons,List.length_nil,List.length_append,List.length_drop]; omega)) only [L_segment_groups_1_0,t1,gn,Bool.not_true,↓s_load,m_load,↓m_load1,m_load1,Int.cast_ofNat_Int,↓s_ops,↓s_seq,↓s_cond,↓s_exit,↓s_nil,↓s_op,↓s_bindS,s_bindS,↓s_bindE,s_bindE,s_bindE_exit,s_norm,↓s_condV,s_condV,↓s_getp,↓s_con,↓s_bin,s_same,b_neq,↓iteN_true,↓iteN_false,iteN_true,iteN_false,decide_true,Bool.not_true,List.getElem?_cons_zero]
        exact rfl,.inl rfl,⟨I.st,I.g5,I.gL,I.nx,I.fr⟩,Nat.le_refl _⟩
    · have hf:(gaR num s at_).2.2=false:=hd.resolve_left hz
      have z0:decide ((num:Int)=0)=false:=decide_eq_false (by omega)
      have gs':h.get ps=some (.cells [.slice a s.length c ez] md):=by rw [I.fr _ hps s4 s5 sn sL,gs_]
      obtain ⟨h1,ar,cr,er,r1,k1,row1⟩:=groupAt_go e x M hM s bs hs a c ez sb at_ num hat hnum h (src h I.nx I.fr)
      rw [hf] at r1
      have kn:=k1.1
      have nx:=I.nx
      obtain ⟨⟨ar',cr',er',g4,row⟩,g5,_,gL,_,fr⟩:=I
      generalize (gaR num s at_).1.length=gl at *
      generalize (gaR num s at_).2.1=gn' at *
      obtain ⟨sl,esl⟩:∃ k,s.length=k:=⟨_,rfl⟩
      rw [esl] at gs' r1
      exact ⟨.ret,_,h1,by
        simp (config:={maxSteps:=2000000}) (disch:=first | omega | (simp only [List.length_cons,List.length_nil,List.length_append,List.length_drop]; omega)) only [L_segment_groups_1_0,t1,t2,t4',gn,gs',z0,r1,Bool.not_false,↓s_load,m_load,↓m_load1,m_load1,↓s_skip,↓s_ops,↓s_seq,↓s_cond,↓s_block,↓s_ret,↓s_nil,↓s_op,↓s_opg,↓s_wanted',↓s_wantV,s_wantV,beq_false,↓s_bindS,s_bindS,↓s_bindE,s_bindE,s_bindE_ret,s_norm,↓s_condV,s_condV,s_block_ret,↓s_getp,↓s_con,↓s_os0,↓s_os1,↓s_mov,↓s_pick,↓s_pickE,s_pickE,↓s_bin,↓s_un,↓s_call,↓s_ext,s_same,b_neq,u_not,↓iteN_true,↓iteN_false,iteN_true,iteN_false,Nat.reduceEqDiff,decide_true,decide_false,Bool.not_true,Bool.not_false,List.getElem?_cons_zero,List.getElem?_cons_succ]
        exact rfl,.inr rfl,⟨⟨ar',cr',er',by rw [k1.2 _ (by omega),g4],row.kp k1⟩,by rw [k1.2 _ (by omega),g5],by rw [k1.2 _ (by omega),gL],by omega,fun i h1 h2 h3 h4 h5 => by rw [k1.2 _ (by omega),fr i h1 h2 h3 h4 h5]⟩,by omega⟩
  intro n
  induction n with
  | zero =>
    intro g gs at_ num T h hn hg hat hgs hnum t0 t1 t2 t4' I
    obtain ⟨g,rfl⟩:∃ k,g=k+1:=⟨g - 1,by omega⟩
    have hf:num=0∨(gaR num s at_).2.2=false:=by
      right
      cases hb:(gaR num s at_).2.2 with
      | false => rfl
      | true => have:=gaR_of num s bs at_ hat hb; omega
    obtain ⟨ex,T',h',r,q,J,nx⟩:=stop gs at_ num T h hat hnum t0 t1 t2 t4' I hf
    refine ⟨ex,T',h',by rw [l_succ,r]; rcases q with rfl | rfl <;> rfl,q,?_,nx⟩
    rw [gr_succ]
    rcases hf with hf | hf
    · rw [if_pos hf,List.append_nil]; exact J
    · by_cases hz:num=0
      · rw [if_pos hz,List.append_nil]; exact J
      · rw [if_neg hz,if_pos hf,List.append_nil]; exact J
  | succ n ih =>
    intro g gs at_ num T h hn hg hat hgs hnum t0 t1 t2 t4' I
    obtain ⟨g,rfl⟩:∃ k,g=k+1:=⟨g - 1,by omega⟩
    by_cases hf:num=0∨(gaR num s at_).2.2=false
    · obtain ⟨ex,T',h',r,q,J,nx⟩:=stop gs at_ num T h hat hnum t0 t1 t2 t4' I hf
      refine ⟨ex,T',h',by rw [l_succ,r]; rcases q with rfl | rfl <;> rfl,q,?_,nx⟩
      rw [gr_succ]
      by_cases hz:num=0
      · rw [if_pos hz,List.append_nil]; exact J
      · rw [if_neg hz,if_pos (hf.resolve_left hz),List.append_nil]; exact J
    · have hz:num≠0:=fun h => hf (.inl h)
      have ht:(gaR num s at_).2.2=true:=by
        cases hb:(gaR num s at_).2.2 with
        | true => rfl
        | false => exact absurd (.inr hb) hf
      rw [gr_succ,if_neg hz,ht,if_neg (by simp)]
      have z0:decide ((num:Int)=0)=false:=decide_eq_false (by omega)
      have gs':h.get ps=some (.cells [.slice a s.length c ez] md):=by rw [I.fr _ hps s4 s5 sn sL,gs_]
      obtain ⟨h1,ar,cr,er,r1,k1,row1⟩:=groupAt_go e x M hM s bs hs a c ez sb at_ num hat hnum h (src h I.nx I.fr)
      rw [ht] at r1
      obtain ⟨w1,w2⟩:=gaR_of num s bs at_ hat ht
      obtain ⟨G,eG⟩:∃ G,(gaR num s at_).1=G:=⟨_,rfl⟩
      obtain ⟨nx',enx⟩:∃ G,(gaR num s at_).2.1=G:=⟨_,rfl⟩
      rw [eG,enx] at r1 ⊢
      rw [eG] at row1
      rw [enx] at w1 w2
      have kn:=k1.1
      have nx:=I.nx
      have gn:=I.gn
      obtain ⟨⟨ar',cr',er',g4,row⟩,g5,_,gL,_,fr⟩:=I
      obtain ⟨h3,a3,c3,e3,yr,yn,y4,y5,yL,yrow,yfr⟩:=gyw_go (E:=E) x (M+22) L p4 p5 D lo T0 t4 t5 hp4 hp5 hL z45 zL4 zL5 h1 (by omega) gs (by omega) ar' cr' er' (at_:Int) (by rw [k1.2 _ (by omega),g4]) (by rw [k1.2 _ (by omega),g5]) (by rw [k1.2 _ (by omega),gL]) (row.kp k1) G ar cr er (row1.wk.mono (Nat.le_refl _) (fun _ _ _ => rfl) (fun i hk hi => ⟨by omega,fun e => by have:=(row.lt e).2.1; omega⟩)) nx'
      have gn1:h1.get pn=some (.cells [.int .u64 (num:Int)] .rw):=by rw [k1.2 _ (by omega),gn]
      have gn3:h3.get pn=some (.cells [.int .u64 (num:Int)] .rw):=by rw [yfr _ hpn n4 n5 nL,gn1]
      have wn:wr .u64 ((num:Int)+1)=(((num+1) % 18446744073709551616:Nat):Int):=by
        by_cases h64:num+1 < 18446744073709551616
        · rw [Nat.mod_eq_of_lt h64,wr_u64 (by omega)]; rfl
        · have:num=18446744073709551615:=by omega
          rw [this]; rfl
      obtain ⟨nm,enm⟩:∃ k,(num+1) % 18446744073709551616=k:=⟨_,rfl⟩
      have hnm:nm < 18446744073709551616:=by rw [← enm]; exact Nat.mod_lt _ (by decide)
      rw [enm] at wn ⊢
      obtain ⟨h4,eh4⟩:∃ h4,h3.put pn (.cells [.int .u64 (nm:Int)] .rw)=h4:=⟨_,rfl⟩
      have n4':h4.next=h3.next:=by rw [← eh4]; rfl
      have f4':∀ i,i≠pn→h4.get i=h3.get i:=fun i hi => by rw [← eh4,h_put_ne _ _ (Ne.symm hi)]
      have I4:GxI hB L p4 p5 pn lo D T0 (gs++[G]) nx' nm h4:=⟨⟨a3,c3,e3,by rw [f4' _ (Ne.symm n4),y4,List.length_append]; rfl,yrow.mono (by omega) (fun i h1 h2 => f4' i (by have:lo≤i:=h1; omega)) (fun i h1 h2 => f4' i (by omega))⟩,by rw [f4' _ (Ne.symm n5),y5],by rw [← eh4]; exact h_put_same _ _ _,by rw [f4' _ (Ne.symm nL),yL],by omega,fun i h1 h2 h3 h4' h5 => by rw [f4' i h4',yfr i h1 h2 h3 h5,k1.2 _ (by omega),fr i h1 h2 h3 h4' h5]⟩
      obtain ⟨T1,eT,u0,u1,u2,u4⟩:∃ T1,evC (callX E X (M+23)) 30 (M+23) none L_segment_groups_1_0 ⟨T,[],h⟩=some (.normal,⟨T1,[],h4⟩)∧evO T1 (.t 0)=.yld L∧evO T1 (.t 1)=.ptr (some (pn,0))∧evO T1 (.t 2)=.ptr (some (ps,0))∧evO T1 (.t 4)=.int .i64 (nx':Int):=by
        obtain ⟨sl,esl⟩:∃ k,s.length=k:=⟨_,rfl⟩
        obtain ⟨gl,egl⟩:∃ k,G.length=k:=⟨_,rfl⟩
        rw [esl] at gs' r1
        rw [egl] at r1 yr
        exact ⟨_,by
          simp (config:={maxSteps:=2000000}) (disch:=first | omega | (simp only [List.length_cons,List.length_nil,List.length_append,List.length_drop]; omega)) only [L_segment_groups_1_0,t0,t1,t2,t4',gn,gs',z0,r1,yr,gn3,wn,eh4,s_callVy,Bool.not_false,Bool.not_true,Nat.zero_add,↓s_load,m_load,↓m_load1,m_load1,↓m_st,m_stE,m_storeI,m_storeE,w_zero,List.length_cons,List.length_nil,List.drop_succ_cons,List.drop_nil,↓s_skip,↓s_ops,↓s_seq,↓s_cond,↓s_block,↓s_nil,↓s_op,↓s_opg,↓s_wanted',↓s_wantV,s_wantV,↓s_bindS,s_bindS,↓s_bindE,s_bindE,s_norm,↓s_condV,s_condV,s_block_normal,↓s_getp,↓s_con,↓s_os0,↓s_os1,↓s_mov,↓s_pick,↓s_pickE,s_pickE,↓s_bin,↓s_un,↓s_call,↓s_callv,↓s_ext,s_same,b_neq,b_add,u_not,↓iteN_true,↓iteN_false,iteN_true,iteN_false,Nat.zero_add,List.append_nil,Nat.reduceEqDiff,decide_true,decide_false,Bool.not_true,Bool.not_false,List.getElem?_cons_zero,List.getElem?_cons_succ,beq_self_eq_true]
          exact rfl,(by (simp only [s_getp,s_getp0,Nat.reduceEqDiff,decide_false,iteN_false,t0]; try rfl)),(by (simp only [s_getp,s_getp0,Nat.reduceEqDiff,decide_false,iteN_false,t1]; try rfl)),(by (simp only [s_getp,s_getp0,Nat.reduceEqDiff,decide_false,iteN_false,t2]; try rfl)),(by (simp only [s_getp,s_getp0,Nat.reduceEqDiff,decide_false,decide_true,iteN_false,iteN_true]; try rfl))⟩
      obtain ⟨ex,T',h',r,q1,q2,q3⟩:=ih g (gs++[G]) nx' nm T1 h4 (by omega) (by omega) w2 (by rw [List.length_append]; simp; omega) hnm u0 u1 u2 u4 I4
      refine ⟨ex,T',h',by rw [l_succ,eT,l_normal]; exact r,q1,?_,by omega⟩
      rw [List.append_assoc] at q2
      exact q2

theorem GwF.lo {lo lo2:Nat} {h:H} {gs:List (List Rq)} {a:Option (Nat × Nat)} {c:Option Nat} {e:Nat} (r:GwF (geK lo) lo h gs a c e) (hl:lo2≤lo):GwF (geK lo2) lo2 h gs a c e:=by
  rcases r with r | ⟨h1,q,md,vs,e1,e2,e3,g,hv,hm,hl',hq,at_⟩
  · exact .inl r
  · exact .inr ⟨h1,q,md,vs,e1,e2,e3,g,hv,hm,by omega,hq,fun i o ho => by
      obtain ⟨b,cb,eb,e4,s⟩:=at_ i o ho
      exact ⟨b,cb,eb,e4,s.mono (Nat.le_refl _) (fun _ _ _ => rfl) (fun i hk _ => ⟨by have:lo≤i:=hk.1; show lo2≤i; omega,hk.2⟩)⟩⟩
theorem grp1w_go (e:EnSg E) (x:NoSg X) (M:Nat) (hM:1000000 < M) (hB:H) (L p4 p5 pn ps lo D:Nat) (T0:Tr V) (t4:evO T0 (.t 4)=.ptr (some (p4,0))) (t5:evO T0 (.t 5)=.ptr (some (p5,0))) (hp4:p4 < lo) (hp5:p5 < lo) (hpn:pn < lo) (hL:L < lo) (hps:ps < lo) (z45:p4≠p5) (zL4:L≠p4) (zL5:L≠p5) (n4:pn≠p4) (n5:pn≠p5) (nL:pn≠L) (s4:ps≠p4) (s5:ps≠p5) (sn:ps≠pn) (sL:ps≠L)
    (s:List Nat) (bs:byt s=true) (hs:s.length≤900000) (a:Option (Nat × Nat)) (c:Option Nat) (ez:Nat) (sb:SB s a c ez) (md:Md) (gs_:hB.get ps=some (.cells [.slice a s.length c ez] md)) (src:∀ h:H,lo≤h.next→(∀ i,i < lo→i≠p4→i≠p5→i≠pn→i≠L→h.get i=hB.get i)→SrcH h a ez s) (num:Nat) (hnum:num < 18446744073709551616) (I:GxI hB L p4 p5 pn lo D T0 [] 0 num hB) :
    ∃ h',callX E X (M+24) (.fn k_segment_groups_1) [.yld L,.ptr (some (pn,0)),.ptr (some (ps,0))] hB=some (.tup [],h')∧GxE hB L p4 p5 pn lo D T0 (srR s num).1 (srR s num).2 h'∧hB.next≤h'.next:=by
  have fin:∀ T,evO T (.t 0)=.yld L→evO T (.t 1)=.ptr (some (pn,0))→evO T (.t 2)=.ptr (some (ps,0))→evO T (.t 4)=.int .i64 0→∃ h',fnEnd [] (blockE 0 (loopN (evC (callX E X (M+23)) 30 (M+23) none L_segment_groups_1_0) (M+23) ⟨T,[],hB⟩))=some (.tup [],h')∧GxE hB L p4 p5 pn lo D T0 (srR s num).1 (srR s num).2 h'∧hB.next≤h'.next:=by
    intro T t0 t1 t2 t4'
    obtain ⟨ex,T',h',r,q1,q2,q3⟩:=grw_walk e x M hM hB L p4 p5 pn ps lo D T0 t4 t5 hp4 hp5 hpn hL hps z45 zL4 zL5 n4 n5 nL s4 s5 sn sL s bs hs a c ez sb md gs_ src s.length (M+23) [] 0 num T hB (by omega) (by omega) (Nat.zero_le _) (by simp) hnum t0 t1 t2 t4' I
    rw [List.nil_append] at q2
    refine ⟨h',?_,q2,q3⟩
    rw [r]
    rcases q1 with rfl | rfl <;> rfl
  obtain ⟨Lo,eL⟩:∃ R,L_segment_groups_1_0=R:=⟨_,rfl⟩
  rw [x_cfn e.gr1 _ _ (Nat.le_of_ble_eq_true rfl) (x.gr1 _ _)]
  rw [eL] at fin ⊢
  simp (config:={maxSteps:=2000000}) (disch:=first | omega | (simp only [List.length_cons,List.length_nil,List.length_append,List.length_drop]; omega)) only [Nat.zero_add,↓l_loop,↓l_succ,Nat.reduceAdd,↓s_ops,↓s_seq,↓s_block,↓s_nil,↓s_op,↓s_bindS,s_bindS,↓s_bindE,s_bindE,s_norm,↓s_con,↓s_list0,↓s_list1,↓s_mov,Nat.zero_add]
  exact fin _ rfl rfl rfl rfl
theorem segreadw_go (e:EnSg E) (x:NoSg X) (M:Nat) (hM:1000000 < M) (s:List Nat) (bs:byt s=true) (hs:s.length≤900000) (num:Nat) (hnum:num < 18446744073709551616) (a:Option (Nat × Nat)) (c:Option Nat) (ez:Nat) (sb:SB s a c ez) (h:H) (src:SrcH h a ez s) :
    ∃ h' ar cr er,callX E X (M+26) (.fn k_segment_Read) [.slice a s.length c ez,.int .u64 (num:Int)] h=some (.tup [.slice ar (srR s num).1.length cr er,.int .i64 ((srR s num).2:Int)],h')∧Kp h h'∧GwF (geK h.next) h.next h' (srR s num).1 ar cr er:=by
  rw [x_cfn e.rd _ _ (Nat.le_of_ble_eq_true rfl) (x.rd _ _)]
  have hg:=fun h => groups_go e x (M+24) a s.length c ez (num:Int) h
  obtain ⟨hA,eA⟩:∃ hA,(((h.new (.cells [.slice none 0 (some 0) 0] .rw)).new (.cells [.int .i64 0] .rw)).new (.cells [.slice a s.length c ez] .rw)).new (.cells [.int .u64 (num:Int)] .rw)=hA:=⟨_,rfl⟩
  have nA:hA.next=h.next+4:=by rw [← eA]; rfl
  have gA0:hA.get h.next=some (.cells [.slice none 0 (some 0) 0] .rw):=by rw [← eA]; (simp (disch:=omega) only [h_new_get,h_next_new,Nat.add_assoc,Nat.add_eq_left,Nat.reduceAdd,decide_true,decide_false,iteN_true,iteN_false,Nat.reduceAdd,reduceCtorEq,]; try rfl)
  have gA1:hA.get (h.next+1)=some (.cells [.int .i64 0] .rw):=by rw [← eA]; (simp (disch:=omega) only [h_new_get,h_next_new,Nat.add_assoc,Nat.add_left_cancel_iff,Nat.reduceAdd,decide_true,decide_false,iteN_true,iteN_false,Nat.reduceEqDiff,Nat.reduceAdd,]; try rfl)
  have gA2:hA.get (h.next+2)=some (.cells [.slice a s.length c ez] .rw):=by rw [← eA]; (simp (disch:=omega) only [h_new_get,h_next_new,Nat.add_assoc,Nat.add_left_cancel_iff,Nat.reduceAdd,decide_true,decide_false,iteN_true,iteN_false,Nat.reduceEqDiff,Nat.reduceAdd,]; try rfl)
  have gA3:hA.get (h.next+3)=some (.cells [.int .u64 (num:Int)] .rw):=by rw [← eA]; (simp (disch:=omega) only [h_new_get,h_next_new,Nat.add_assoc,Nat.reduceAdd,decide_true,iteN_true,Nat.reduceAdd,]; try rfl)
  have kA:Kp h hA:=by rw [← eA]; (repeat (first | exact Kp.refl _ | refine Kp.put ?_ _ (by first | omega | (simp only [h_next_put,h_next_new,h_next_del]; omega)) | refine Kp.del ?_ (by first | omega | (simp only [h_next_put,h_next_new,h_next_del]; omega)) | refine Kp.trans ?_ (Kp.new _ _)))
  have fin:∀ T0,evO T0 (.t 0)=.slice a s.length c ez→evO T0 (.t 4)=.ptr (some (h.next,0))→evO T0 (.t 5)=.ptr (some (h.next+1,0))→∃ h' ar cr er,fnEnd [.cell 4 none,.cell 5 none] (bindE (blockE 0 (rangeEnd (h.next+5) T0 [h.next+4] (callF (callX E X (M+25)) (.yld (h.next+5)) (.fn k_segment_groups_1 [] [.ptr (some (h.next+3,0)),.ptr (some (h.next+2,0))]) ((hA.new .defers).new (.loop 0 none 20 T0 [11,12] A_segment_Read_0 B_segment_Read_0 (h.next+4)))))) (evC (callX E X (M+25)) 20 (M+25) none R_segment_Read_0))=some (.tup [.slice ar (srR s num).1.length cr er,.int .i64 ((srR s num).2:Int)],h')∧Kp h h'∧GwF (geK h.next) h.next h' (srR s num).1 ar cr er:=by
    intro T0 t0 t4 t5
    obtain ⟨hB,eB⟩:∃ hB,(hA.new .defers).new (.loop 0 none 20 T0 [11,12] A_segment_Read_0 B_segment_Read_0 (h.next+4))=hB:=⟨_,rfl⟩
    have nB:hB.next=h.next+6:=by rw [← eB]; simp only [h_next_new,nA]
    have kB:Kp hA hB:=by rw [← eB]; exact (Kp.new _ _).trans (Kp.new _ _)
    have gBd:hB.get (h.next+4)=some .defers:=by rw [← eB,h_new_ne _ _ (by rw [h_next_new,nA]; omega)]; exact h_new_same' _ _ nA
    have gBL:hB.get (h.next+5)=some (.loop 0 none 20 T0 [11,12] A_segment_Read_0 B_segment_Read_0 (h.next+4)):=by rw [← eB]; exact h_new_same' _ _ (by rw [h_next_new,nA])
    have gB0:hB.get h.next=some (.cells [.slice none 0 (some 0) 0] .rw):=by rw [kB.2 _ (by omega),gA0]
    have gB1:hB.get (h.next+1)=some (.cells [.int .i64 0] .rw):=by rw [kB.2 _ (by omega),gA1]
    have gB2:hB.get (h.next+2)=some (.cells [.slice a s.length c ez] .rw):=by rw [kB.2 _ (by omega),gA2]
    have gB3:hB.get (h.next+3)=some (.cells [.int .u64 (num:Int)] .rw):=by rw [kB.2 _ (by omega),gA3]
    obtain ⟨hC,r,I,nC⟩:=grp1w_go e x (M+1) (by omega) hB (h.next+5) h.next (h.next+1) (h.next+3) (h.next+2) (h.next+6) (h.next+4) T0 t4 t5 (by omega) (by omega) (by omega) (by omega) (by omega) (by omega) (by omega) (by omega) (by omega) (by omega) (by omega) (by omega) (by omega) (by omega) (by omega) s bs hs a c ez sb .rw gB2 (fun h2 n2 f2 => by
      rcases src with s0 | ⟨bi,off,vs,m,h1,h2',h3,h4,h5,h6⟩
      · exact .inl s0
      · exact .inr ⟨bi,off,vs,m,h1,h2',by omega,by rw [f2 _ (by omega) (by omega) (by omega) (by omega) (by omega),kB.2 _ (by omega),kA.2 _ h3,h4],h5,h6⟩) num hnum ⟨⟨none,some 0,0,gB0,.inl ⟨rfl,rfl,rfl,rfl⟩⟩,gB1,gB3,gBL,by omega,fun _ _ _ _ _ _ => rfl⟩
    obtain ⟨⟨ar,cr,er,gC0,row⟩,gC1,gCL,_,fr⟩:=I
    have gCd:hC.get (h.next+4)=some .defers:=by rw [fr _ (by omega) (by omega) (by omega) (by omega) (by omega),gBd]
    have z2:(h.next+5=h.next+4)=False:=by simp
    have z2':(h.next+4=h.next+5)=False:=by simp
    have z3:(h.next+5=h.next+1)=False:=by simp
    have z4:(h.next+4=h.next+1)=False:=by simp
    have z5:(h.next+5=h.next)=False:=by simp
    have z6:(h.next+4=h.next)=False:=by simp
    have z7:(h.next+1=h.next)=False:=by simp
    have z8:(h.next=h.next+1)=False:=by simp
    rw [eB]
    replace r:callX E X (M+25) (.fn k_segment_groups_1) [.yld (h.next+5),.ptr (some (h.next+3,0)),.ptr (some (h.next+2,0))] hB=some (.tup [],hC):=r
    obtain ⟨hD,eD⟩:∃ hD,hC.del (h.next+5)=hD:=⟨_,rfl⟩
    have nD:hD.next=hC.next:=by rw [← eD]; rfl
    have fD:∀ i,i≠h.next+5→hD.get i=hC.get i:=fun i h1 => by rw [← eD,h_del_ne _ (Ne.symm h1)]
    obtain ⟨dn,edn⟩:∃ dn,(srR s num).1=dn:=⟨_,rfl⟩
    obtain ⟨en,een⟩:∃ en,(srR s num).2=en:=⟨_,rfl⟩
    rw [edn] at gC0 row
    rw [een] at gC1
    rw [edn,een]
    have gD0:hD.get h.next=some (.cells [.slice ar dn.length cr er] .rw):=by rw [fD _ (by omega),gC0]
    have gD1:hD.get (h.next+1)=some (.cells [.int .i64 (en:Int)] .rw):=by rw [fD _ (by omega),gC1]
    have gDd:hD.get (h.next+4)=some .defers:=by rw [fD _ (by omega),gCd]
    obtain ⟨hF,eF⟩:∃ hF,(hD.put h.next (.cells [.slice ar dn.length cr er] .rw)).put (h.next+1) (.cells [.int .i64 (en:Int)] .rw)=hF:=⟨_,rfl⟩
    have gFd:hF.get (h.next+4)=some .defers:=by rw [← eF,h_put_ne _ _ (by omega),h_put_ne _ _ (by omega),gDd]
    obtain ⟨hE,eE⟩:∃ hE,hF.del (h.next+4)=hE:=⟨_,rfl⟩
    have nE:hE.next=hC.next:=by rw [← eE,← eF]; exact nD
    have fE:∀ i,i≠h.next→i≠h.next+1→i≠h.next+5→i≠h.next+4→hE.get i=hC.get i:=fun i h1 h2 h3 h4 => by rw [← eE,h_del_ne _ (Ne.symm h4),← eF,h_put_ne _ _ (Ne.symm h2),h_put_ne _ _ (Ne.symm h1),fD _ h3]
    have gE0:hE.get h.next=some (.cells [.slice ar dn.length cr er] .rw):=by rw [← eE,h_del_ne _ (by omega),← eF]; (simp (disch:=omega) only [h_put_get,decide_true,decide_false,iteN_true,iteN_false,z7]; try rfl)
    have gE1:hE.get (h.next+1)=some (.cells [.int .i64 (en:Int)] .rw):=by rw [← eE,h_del_ne _ (by omega),← eF]; (simp (disch:=omega) only [h_put_get,decide_true,iteN_true,]; try rfl)
    have kE:Kp h hE:=⟨by omega,fun i hi => by rw [fE _ (by omega) (by omega) (by omega) (by omega),fr _ (by omega) (by omega) (by omega) (by omega) (by omega),kB.2 _ (by omega),kA.2 _ hi]⟩
    have rowE:GwF (geK h.next) h.next hE dn ar cr er:=by
      have row2:GwF (geK (h.next+6)) (h.next+6) hE dn ar cr er:=row.mono (by omega) (fun i h1 h2 => by have h1:h.next+6≤i:=h1; exact fE i (by omega) (by omega) (by omega) (by omega)) (fun i h1 h2 => fE i (by omega) (by omega) (by omega) (by omega))
      exact row2.lo (by omega)
    refine ⟨hE,ar,cr,er,?_,kE,rowE⟩
    generalize dn.length=dl at *
    generalize s.length=sl at *
    simp (config:={maxSteps:=2000000}) (disch:=first | omega | (simp only [List.length_cons,List.length_nil,List.length_append,List.length_drop]; omega)) only [s_callF,List.nil_append,List.cons_append,r,t4,t5,gCL,vb_i64 (en:Int),z8,eD,gD0,gD1,eF,gFd,eE,gE0,gE1,m_storeS,R_segment_Read_0,r_end,r_0,r_jn,e_ret,d_cons,d_yes,d_nil,e_some,Nat.zero_add,↓s_evD,↓s_dnil,↓s_dR,↓s_dRj,↓s_dB,↓s_bindD,s_bindD,s_finDx,s_addP0,↓s_bump0,s_ok0,↓s_ok1,s_okR0,↓s_okR1,↓s_okE,s_okE,s_okE1,s_nth0,s_nthS,Bool.and_self,↓h_put_get,↓s_load,m_load,↓m_load1,m_load1,↓m_st,m_stE,m_storeI,m_storeE,w_zero,List.length_cons,List.length_nil,List.cons_append,List.drop_succ_cons,List.drop_nil,List.nil_append,s_resc,s_consR,s_res0,↓s_dops,↓s_seq,↓s_ret,↓s_bindE,s_bindE,s_norm,s_block_normal,↓s_getp,↓s_getp0,s_same,s_res0,s_tup2,↓iteN_true,↓iteN_false,iteN_true,iteN_false,Nat.zero_add,List.nil_append,List.append_nil,Nat.reduceEqDiff,decide_true,decide_false,List.getElem?_cons_zero]
    try rfl
  obtain ⟨R,eR⟩:∃ R,R_segment_Read_0=R:=⟨_,rfl⟩
  rw [eR] at fin ⊢
  obtain ⟨sl,esl⟩:∃ n,s.length=n:=⟨_,rfl⟩
  rw [esl] at hg eA fin ⊢
  simp (config:={maxSteps:=2000000}) (disch:=first | omega | (simp only [List.length_cons,List.length_nil,List.length_append,List.length_drop]; omega)) only [hg,eA,nA,↓s_range,Nat.zero_add,h_next_new,Nat.add_assoc,↓s_alloc,Nat.reduceAdd,↓s_ops,↓s_seq,↓s_block,↓s_nil,↓s_op,↓s_bindS,s_bindS,↓s_bindE,s_bindE,s_norm,↓s_getp,↓s_get,↓s_os0,↓s_os1,↓s_list0,↓s_list1,↓s_mov,↓s_call,↓iteN_true,↓iteN_false,iteN_true,iteN_false,Nat.zero_add,Nat.reduceEqDiff,decide_true,decide_false]
  exact fin _ (by (simp only [s_getp,Nat.reduceEqDiff,decide_false,iteN_false]; try rfl)) (by (simp only [s_getp,Nat.reduceEqDiff,decide_false,decide_true,iteN_false,iteN_true]; try rfl)) (by (simp only [s_getp,Nat.reduceEqDiff,decide_false,decide_true,iteN_false,iteN_true]; try rfl))

end Go.Eng
namespace Go.Eng
open Go
variable {E:Nat→Option Fn} {X:Orc}
set_option linter.unusedSimpArgs false
set_option linter.unusedVariables false
theorem writeN_setV:∀ (vs:List V) (off:Nat) (v:V),off < vs.length→writeN vs off [v]=vs.set off v:=by
  intro vs
  induction vs with
  | nil => intro off v h; simp at h
  | cons x r ih =>
    intro off v h
    cases off with
    | zero => rfl
    | succ o => show x :: writeN r o [v]=x :: r.set o v; rw [ih o v (by simpa using h)]
theorem stAnyV (vs c:List V) (md:Md) (hmd:isRo md=false) (h:H) (i off:Nat) (hl:off+c.length≤vs.length):storeE (some (.cells vs md)) h i off c=some (h.put i (.cells (writeN vs off c) md)):=by
  unfold storeE
  cases md with
  | ro => cases hmd
  | rw => simp only [show Nat.ble (off+c.length) vs.length=true from Nat.ble_eq_true_of_le hl,_root_.cond_true]
  | sh => simp only [show Nat.ble (off+c.length) vs.length=true from Nat.ble_eq_true_of_le hl,_root_.cond_true]
theorem ofI_at (l:List Nat) (i:Nat) (v:V) (h:(ofI .u8 l)[i]?=some v):∃ n:Nat,v=.int .u8 (n:Int):=by
  have hi:i < l.length:=by have:=(List.getElem?_eq_some_iff.1 h).1; rw [ofI_len] at this; exact this
  rw [ofI_get _ _ _ hi] at h
  exact ⟨_,(Option.some.inj h).symm⟩
/-- a row whose cells and data may be written over -/
def RowW (K:Nat→Prop) (h:H) (g:List Rq) (b:Option (Nat × Nat)) (eb:Nat):Prop:=∃ q vs md,b=some (q,0)∧eb=2∧h.get q=some (.cells vs md)∧isRo md=false∧¬ K q∧g.length * 2≤vs.length∧∀ k o,g[k]?=some o→(∃ n:Int,vs[k * 2]?=some (.int .i64 n))∧∃ b cb eb,vs[k * 2+1]?=some (.slice b o.l.length cb eb)∧(o.l≠[]→∃ d cur m',b=some (d,0)∧eb=1∧h.get d=some (.cells (ofI .u8 cur) m')∧isRo m'=false∧o.l.length≤cur.length∧¬ K d)
theorem RowW.put {K:Nat→Prop} {h:H} {g:List Rq} {b:Option (Nat × Nat)} {eb:Nat} (r:RowW K h g b eb) (hg:0 < g.length) (d:Nat) (cur cur':List Nat) (m':Md) (gd:h.get d=some (.cells (ofI .u8 cur) m')) (lc:cur'.length=cur.length) (hm':isRo m'=false):RowW K (h.put d (.cells (ofI .u8 cur') m')) g b eb:=by
  obtain ⟨q,vs,md,e1,e2,gq,hm,hk,hl,at_⟩:=r
  have hne:d≠q:=by
    rintro rfl
    obtain ⟨⟨n,e3⟩,_⟩:=at_ 0 _ (List.getElem?_eq_getElem hg)
    rw [gd] at gq
    obtain ⟨rfl,_⟩:=Blk.cells.inj (Option.some.inj gq)
    obtain ⟨m,e4⟩:=ofI_at _ _ _ e3
    cases e4
  refine ⟨q,vs,md,e1,e2,by rw [h_put_ne _ _ hne,gq],hm,hk,hl,fun k o ho => ?_⟩
  obtain ⟨n,b2,cb2,eb2,f1,f2⟩:=at_ k o ho
  refine ⟨n,b2,cb2,eb2,f1,fun hne => ?_⟩
  obtain ⟨d2,cur2,m2,f3,f4,f5,f6,f7,f8⟩:=f2 hne
  by_cases hdd:d2=d
  · subst hdd
    rw [gd] at f5
    obtain ⟨h1,hm⟩:=Blk.cells.inj (Option.some.inj f5)
    have hcl:cur.length=cur2.length:=by
      have:=congrArg List.length h1
      rw [ofI_len,ofI_len] at this; exact this
    exact ⟨d2,cur',m',f3,f4,h_put_same _ _ _,hm',by omega,f8⟩
  · exact ⟨d2,cur2,m2,f3,f4,by rw [h_put_ne _ _ (Ne.symm hdd),f5],f6,f7,f8⟩
theorem RowW.kind {K:Nat→Prop} {h:H} {g:List Rq} {b:Option (Nat × Nat)} {eb:Nat} (r:RowW K h g b eb) (q1:Nat) (vs1:List V) (md1:Md) (n1:Int) (g1:h.get q1=some (.cells vs1 md1)) (z1:vs1[0]?=some (.int .i64 n1)) (hm1:isRo md1=false) (k1:Nat):RowW K (h.put q1 (.cells (vs1.set (k1 * 2) (.int .i64 (-1))) md1)) g b eb:=by
  obtain ⟨q,vs,md,e1,e2,gq,hm,hk,hl,at_⟩:=r
  have pay:∀ o:Rq,o.l≠[]→∀ d cur m',h.get d=some (.cells (ofI .u8 cur) m')→o.l.length≤cur.length→q1≠d:=by
    rintro o hne d cur m' gd hl rfl
    rw [g1] at gd
    obtain ⟨rfl,_⟩:=Blk.cells.inj (Option.some.inj gd)
    obtain ⟨m,e4⟩:=ofI_at _ _ _ z1
    cases e4
  by_cases hq:q1=q
  · subst hq
    rw [g1] at gq
    obtain ⟨rfl,rfl⟩:=Blk.cells.inj (Option.some.inj gq)
    refine ⟨q1,_,md1,e1,e2,h_put_same _ _ _,hm1,hk,by rw [List.length_set]; exact hl,fun k o ho => ?_⟩
    obtain ⟨⟨n,f0⟩,b2,cb2,eb2,f1,f2⟩:=at_ k o ho
    refine ⟨?_,b2,cb2,eb2,by rw [List.getElem?_set_ne (by omega)]; exact f1,fun hne => ?_⟩
    · by_cases hkk:k1=k
      · subst hkk
        exact ⟨-1,List.getElem?_set_self (List.getElem?_eq_some_iff.1 f0).1⟩
      · exact ⟨n,by rw [List.getElem?_set_ne (by omega)]; exact f0⟩
    · obtain ⟨d2,cur2,m2,f3,f4,f5,f6,f7,f8⟩:=f2 hne
      exact ⟨d2,cur2,m2,f3,f4,by rw [h_put_ne _ _ (pay o hne _ _ _ f5 f7),f5],f6,f7,f8⟩
  · refine ⟨q,vs,md,e1,e2,by rw [h_put_ne _ _ hq,gq],hm,hk,hl,fun k o ho => ?_⟩
    obtain ⟨n,b2,cb2,eb2,f1,f2⟩:=at_ k o ho
    refine ⟨n,b2,cb2,eb2,f1,fun hne => ?_⟩
    obtain ⟨d2,cur2,m2,f3,f4,f5,f6,f7,f8⟩:=f2 hne
    exact ⟨d2,cur2,m2,f3,f4,by rw [h_put_ne _ _ (pay o hne _ _ _ f5 f7),f5],f6,f7,f8⟩
structure W7I (q0:Nat) (vs0:List V) (md0:Md) (gs:List (List Rq)) (K:Nat→Prop) (h0 h:H):Prop where
  g0:h.get q0=some (.cells vs0 md0)
  rows:∀ (i:Nat) (g:List Rq),gs[i]?=some g→∃ b cb eb,vs0[i]?=some (V.slice b g.length cb eb)∧(g=[]∨RowW K h g b eb)
  fr:∀ j,K j→h.get j=h0.get j
  nx:h.next=h0.next
theorem W7I.put {q0:Nat} {vs0:List V} {md0:Md} {gs:List (List Rq)} {K:Nat→Prop} {h0 h:H} (w:W7I q0 vs0 md0 gs K h0 h) (hgs:0 < gs.length) (d:Nat) (hd:¬ K d) (cur cur':List Nat) (m':Md) (gd:h.get d=some (.cells (ofI .u8 cur) m')) (lc:cur'.length=cur.length) (hm':isRo m'=false):W7I q0 vs0 md0 gs K h0 (h.put d (.cells (ofI .u8 cur') m')):=by
  have hne:d≠q0:=by
    rintro rfl
    obtain ⟨b,cb,eb,e3,_⟩:=w.rows 0 _ (List.getElem?_eq_getElem hgs)
    have:=w.g0
    rw [gd] at this
    obtain ⟨rfl,_⟩:=Blk.cells.inj (Option.some.inj this)
    obtain ⟨m,e4⟩:=ofI_at _ _ _ e3
    cases e4
  refine ⟨by rw [h_put_ne _ _ hne,w.g0],fun i g hg => ?_,fun j hj => by rw [h_put_ne _ _ (by rintro rfl; exact hd hj),w.fr j hj],w.nx⟩
  obtain ⟨b,cb,eb,e3,e4⟩:=w.rows i g hg
  refine ⟨b,cb,eb,e3,?_⟩
  by_cases hz:g=[]
  · exact .inl hz
  · rcases e4 with e4 | e4
    · exact .inl e4
    · exact .inr (e4.put (List.length_pos_iff.2 hz) d cur cur' m' gd lc hm')
theorem W7I.kind {q0:Nat} {vs0:List V} {md0:Md} {gs:List (List Rq)} {K:Nat→Prop} {h0 h:H} (w:W7I q0 vs0 md0 gs K h0 h) (hgs:0 < gs.length) (q1:Nat) (hq:¬ K q1) (vs1:List V) (md1:Md) (n1:Int) (g1:h.get q1=some (.cells vs1 md1)) (z1:vs1[0]?=some (.int .i64 n1)) (hm1:isRo md1=false) (k1:Nat):W7I q0 vs0 md0 gs K h0 (h.put q1 (.cells (vs1.set (k1 * 2) (.int .i64 (-1))) md1)):=by
  have hne:q1≠q0:=by
    rintro rfl
    obtain ⟨b,cb,eb,e3,_⟩:=w.rows 0 _ (List.getElem?_eq_getElem hgs)
    have:=w.g0
    rw [g1] at this
    obtain ⟨rfl,_⟩:=Blk.cells.inj (Option.some.inj this)
    rw [e3] at z1; cases z1
  refine ⟨by rw [h_put_ne _ _ hne,w.g0],fun i g hg => ?_,fun j hj => by rw [h_put_ne _ _ (by rintro rfl; exact hq hj),w.fr j hj],w.nx⟩
  obtain ⟨b,cb,eb,e3,e4⟩:=w.rows i g hg
  refine ⟨b,cb,eb,e3,?_⟩
  rcases e4 with e4 | e4
  · exact .inl e4
  · exact .inr (e4.kind q1 vs1 md1 n1 g1 z1 hm1 k1)
structure P0I (v:V) (n i gl k ol:Nat) (q0:Nat) (vs0:List V) (md0:Md) (gs:List (List Rq)) (K:Nat→Prop) (h0:H) (j:Nat) (T:Tr V) (h:H):Prop where
  il:j≤ol
  t0:evO T (.t 0)=v
  t2:evO T (.t 2)=.int .i64 (i:Int)
  t3:evO T (.t 3)=.int .i64 (k:Int)
  t6:evO T (.t 6)=.int .i64 (n:Int)
  t7:evO T (.t 7)=.int .i64 (i:Int)
  t14:evO T (.t 14)=.int .i64 (gl:Int)
  t15:evO T (.t 15)=.int .i64 (k:Int)
  t26:evO T (.t 26)=.int .i64 (ol:Int)
  t27:evO T (.t 27)=.int .i64 (j:Int)
  w:W7I q0 vs0 md0 gs K h0 h
theorem p0_step (Q:Orc) (m:Nat) (q0:Nat) (vs0:List V) (md0:Md) (gs:List (List Rq)) (hd:gs.length≤1000000) (c:Option Nat) (K:Nat→Prop) (h0:H) (i:Nat) (g:List Rq) (hg:gs[i]?=some g) (hgl:g.length≤1000000) (k:Nat) (o:Rq) (ho:g[k]?=some o) (hol:o.l.length≤1000000) :
    ∀ j T h,j < o.l.length→P0I (.slice (some (q0,0)) gs.length c 1) gs.length i g.length k o.l.length q0 vs0 md0 gs K h0 j T h→∃ T' h',evC Q 62 m none L_purserlaw17_spoil_0 ⟨T,[],h⟩=some (.normal,⟨T',[],h'⟩)∧P0I (.slice (some (q0,0)) gs.length c 1) gs.length i g.length k o.l.length q0 vs0 md0 gs K h0 (j+1) T' h':=by
  intro j T h hj ⟨_,t0,t2,t3,t6,t7,t14,t15,t26,t27,w⟩
  have hi:i < gs.length:=(List.getElem?_eq_some_iff.1 hg).1
  have hk:k < g.length:=(List.getElem?_eq_some_iff.1 ho).1
  have c0:decide ((j:Int) < (o.l.length:Int))=true:=decide_eq_true (by omega)
  have wi:wr .i64 ((j:Int)+1)=((j+1:Nat):Int):=by rw [wr_i64 (by omega)]; omega
  have ixi:idx (i:Int) gs.length=some i:=idxn hi
  have ixk:idx (k:Int) g.length=some k:=idxn hk
  have ixj:idx (j:Int) o.l.length=some j:=idxn hj
  have g0:=w.g0
  obtain ⟨b,cb,eb,cg0,rw_⟩:=w.rows i g hg
  rcases rw_ with rfl | ⟨q,vs,md,rfl,rfl,gq,hm,hkq,hl,at_⟩
  · simp at hk
  obtain ⟨_,b2,cb2,eb2,cg,dt⟩:=at_ k o ho
  obtain ⟨d,cur,m',rfl,rfl,gd,hm',hlc,hkd⟩:=dt (fun h => by rw [h] at hj; simp at hj)
  have ck:(ofI .u8 cur)[j]?=some (.int .u8 (cur.getD j 0:Nat)):=ofI_get _ _ _ (by omega)
  have w8:wr .u8 (((cur.getD j 0:Nat):Int)+1)=(((cur.getD j 0+1) % 256:Nat):Int):=w8n (cur.getD j 0+1)
  generalize cur.getD j 0=y at *
  generalize (y+1) % 256=y' at *
  have ste:=fun (h:H) (v:V) => stAnyR .u8 cur [v] m' hm' h d j (by simp only [List.length_cons,List.length_nil]; omega)
  have su:=wr1I .u8 cur j y' (by omega)
  have k1:j+1≤o.l.length:=hj
  have wp:=w.put (by omega) d hkd cur (cur.set j y') m' gd (by rw [List.length_set]) hm'
  obtain ⟨n,en⟩:∃ n,gs.length=n:=⟨_,rfl⟩
  obtain ⟨gl,egl⟩:∃ n,g.length=n:=⟨_,rfl⟩
  obtain ⟨ol,eol⟩:∃ n,o.l.length=n:=⟨_,rfl⟩
  rw [en] at t0 t6 ixi
  rw [egl] at t14 ixk cg0
  rw [eol] at t26 c0 ixj cg
  exact ⟨_,_,by
    simp (config:={maxSteps:=2000000}) (disch:=first | omega | (simp only [List.length_cons,List.length_nil,List.length_append,List.length_drop]; omega)) only [L_purserlaw17_spoil_0,t0,t2,t3,t26,t27,g0,gq,gd,cg0,cg,ck,c0,wi,ixi,ixk,ixj,w8,ste,su,↓x_fieldAddr,x_fieldV,Nat.zero_add,Nat.mul_one,↓s_evD,↓s_dnil,↓s_dL,↓s_dR,↓s_dB,↓s_bindD,s_bindD,s_finD,s_addP0,↓s_bump0,↓s_load,m_load,↓m_load1,m_load1,↓m_st,m_stE,m_storeI,↓x_idxS,x_idxSE,x_addrE,↓s_skip,↓s_ops,↓s_dops,↓s_seq,↓s_cond,↓s_block,↓s_nil,↓s_op,↓s_bindS,s_bindS,↓s_bindE,s_bindE,s_norm,↓s_condV,s_condV,s_block_normal,↓s_getp,↓s_getp0,↓s_con,↓s_mov,↓s_bin,s_same,b_lss,b_add,↓iteN_true,↓iteN_false,iteN_true,iteN_false,Nat.zero_add,Nat.reduceEqDiff,decide_true,decide_false]
    exact rfl,⟨k1,by rw [en]; exact (by (simp only [s_getp,s_getp0,Nat.reduceEqDiff,decide_false,iteN_false,t0]; try rfl)),(by (simp only [s_getp,s_getp0,Nat.reduceEqDiff,decide_false,iteN_false,t2]; try rfl)),(by (simp only [s_getp,s_getp0,Nat.reduceEqDiff,decide_false,iteN_false,t3]; try rfl)),by rw [en]; exact (by (simp only [s_getp,s_getp0,Nat.reduceEqDiff,decide_false,iteN_false,t6]; try rfl)),(by (simp only [s_getp,s_getp0,Nat.reduceEqDiff,decide_false,iteN_false,t7]; try rfl)),by rw [egl]; exact (by (simp only [s_getp,s_getp0,Nat.reduceEqDiff,decide_false,iteN_false,t14]; try rfl)),(by (simp only [s_getp,s_getp0,Nat.reduceEqDiff,decide_false,iteN_false,t15]; try rfl)),by rw [eol]; exact (by (simp only [s_getp,s_getp0,Nat.reduceEqDiff,decide_false,iteN_false,t26]; try rfl)),(by (simp only [s_getp,decide_true,iteN_true]; try rfl)),wp⟩⟩
structure P1I (v:V) (n i gl:Nat) (q0:Nat) (vs0:List V) (md0:Md) (gs:List (List Rq)) (K:Nat→Prop) (h0:H) (k:Nat) (T:Tr V) (h:H):Prop where
  il:k≤gl
  t0:evO T (.t 0)=v
  t2:evO T (.t 2)=.int .i64 (i:Int)
  t6:evO T (.t 6)=.int .i64 (n:Int)
  t7:evO T (.t 7)=.int .i64 (i:Int)
  t14:evO T (.t 14)=.int .i64 (gl:Int)
  t15:evO T (.t 15)=.int .i64 (k:Int)
  w:W7I q0 vs0 md0 gs K h0 h
theorem p1_step (Q:Orc) (m:Nat) (q0:Nat) (vs0:List V) (md0:Md) (gs:List (List Rq)) (hd:gs.length≤1000000) (c:Option Nat) (K:Nat→Prop) (h0:H) (i:Nat) (g:List Rq) (hg:gs[i]?=some g) (hgl:g.length≤1000000) (hol:∀ o ∈ g,o.l.length≤1000000∧o.l.length < m) :
    ∀ k T h,k < g.length→P1I (.slice (some (q0,0)) gs.length c 1) gs.length i g.length q0 vs0 md0 gs K h0 k T h→∃ T' h',evC Q 62 m none L_purserlaw17_spoil_1 ⟨T,[],h⟩=some (.normal,⟨T',[],h'⟩)∧P1I (.slice (some (q0,0)) gs.length c 1) gs.length i g.length q0 vs0 md0 gs K h0 (k+1) T' h':=by
  intro k T0 h hk ⟨_,t0,t2,t6,t7,t14,t15,w⟩
  have hi:i < gs.length:=(List.getElem?_eq_some_iff.1 hg).1
  obtain ⟨o,ho⟩:∃ o,g[k]?=some o:=⟨_,List.getElem?_eq_getElem hk⟩
  have om:=hol o (List.mem_of_getElem? ho)
  have c0:decide ((k:Int) < (g.length:Int))=true:=decide_eq_true (by omega)
  have wi:wr .i64 ((k:Int)+1)=((k+1:Nat):Int):=by rw [wr_i64 (by omega)]; omega
  have ixi:idx (i:Int) gs.length=some i:=idxn hi
  have ixk:idx (k:Int) g.length=some k:=idxn hk
  have g0:=w.g0
  obtain ⟨b,cb,eb,cg0,rw_⟩:=w.rows i g hg
  rcases rw_ with rfl | ⟨q,vs,md,rfl,rfl,gq,hm,hkq,hl,at_⟩
  · simp at hk
  obtain ⟨_,b2,cb2,eb2,cg,_⟩:=at_ k o ho
  have i1:k+1≤g.length:=hk
  have fin:∀ T,P0I (.slice (some (q0,0)) gs.length c 1) gs.length i g.length k o.l.length q0 vs0 md0 gs K h0 0 T h→∃ T' h',bindE (blockE 3 (bindE (blockE 4 (loopN (evC Q 62 m none L_purserlaw17_spoil_0) m ⟨T,[],h⟩)) (evC Q 62 m none R_purserlaw17_spoil_0))) (evC Q 62 m none R_purserlaw17_spoil_1)=some (.normal,⟨T',[],h'⟩)∧P1I (.slice (some (q0,0)) gs.length c 1) gs.length i g.length q0 vs0 md0 gs K h0 (k+1) T' h':=by
    intro T I
    obtain ⟨T3,h3,rr,J⟩:=loop_go (f:=evC Q 62 m none L_purserlaw17_spoil_0) (P0I (.slice (some (q0,0)) gs.length c 1) gs.length i g.length k o.l.length q0 vs0 md0 gs K h0) o.l.length (.exit 4) (by intro h; cases h) (P0I (.slice (some (q0,0)) gs.length c 1) gs.length i g.length k o.l.length q0 vs0 md0 gs K h0 o.l.length) (fun j T h hj I => p0_step Q m q0 vs0 md0 gs hd c K h0 i g hg hgl k o ho om.1 j T h hj I) (fun T h I => by
      obtain ⟨il,t0,t2,t3,t6,t7,t14,t15,t26,t27,w⟩:=I
      have c0:decide ((o.l.length:Int) < (o.l.length:Int))=false:=decide_eq_false (by omega)
      obtain ⟨n,en⟩:∃ n,gs.length=n:=⟨_,rfl⟩
      obtain ⟨gl,egl⟩:∃ n,g.length=n:=⟨_,rfl⟩
      obtain ⟨ol,eol⟩:∃ n,o.l.length=n:=⟨_,rfl⟩
      rw [en] at t0 t6
      rw [egl] at t14
      rw [eol] at t26 t27 c0
      exact ⟨_,_,by
        simp (config:={maxSteps:=2000000}) (disch:=first | omega | (simp only [List.length_cons,List.length_nil,List.length_append,List.length_drop]; omega)) only [L_purserlaw17_spoil_0,t26,t27,c0,↓s_ops,↓s_seq,↓s_cond,↓s_exit,↓s_nil,↓s_op,↓s_bindS,s_bindS,↓s_bindE,s_bindE,s_bindE_exit,s_norm,↓s_condV,s_condV,↓s_getp,↓s_bin,s_same,b_lss,↓iteN_true,↓iteN_false,iteN_true,iteN_false,decide_true]
        exact rfl,⟨il,by rw [en]; exact (by (simp only [s_getp,Nat.reduceEqDiff,decide_false,iteN_false,t0]; try rfl)),(by (simp only [s_getp,Nat.reduceEqDiff,decide_false,iteN_false,t2]; try rfl)),(by (simp only [s_getp,Nat.reduceEqDiff,decide_false,iteN_false,t3]; try rfl)),by rw [en]; exact (by (simp only [s_getp,Nat.reduceEqDiff,decide_false,iteN_false,t6]; try rfl)),(by (simp only [s_getp,Nat.reduceEqDiff,decide_false,iteN_false,t7]; try rfl)),by rw [egl]; exact (by (simp only [s_getp,Nat.reduceEqDiff,decide_false,iteN_false,t14]; try rfl)),(by (simp only [s_getp,Nat.reduceEqDiff,decide_false,iteN_false,t15]; try rfl)),by rw [eol]; exact (by (simp only [s_getp,Nat.reduceEqDiff,decide_false,iteN_false,t26]; try rfl)),by rw [eol]; exact (by (simp only [s_getp,Nat.reduceEqDiff,decide_false,iteN_false,t27]; try rfl)),w⟩⟩) o.l.length 0 (by omega) m om.2 T h I
    rw [rr]
    obtain ⟨_,t0,t2,t3,t6,t7,t14,t15,t26,t27,w3⟩:=J
    have g03:=w3.g0
    obtain ⟨b',cb',eb',cg03,rw3⟩:=w3.rows i g hg
    rcases rw3 with e | ⟨q',vs3,md3,rfl,rfl,gq3,hm3,hkq3,hl3,at3⟩
    · rw [e] at hk; simp at hk
    obtain ⟨⟨n1,z1⟩,_⟩:=at3 0 _ (List.getElem?_eq_getElem (show 0 < g.length by omega))
    rw [Nat.zero_mul] at z1
    have wk:=w3.kind (by omega) q' hkq3 vs3 md3 n1 gq3 z1 hm3 k
    have ste:=fun (h:H) => stAnyV vs3 [.int .i64 (-1)] md3 hm3 h q' (k * 2) (by show k * 2+1≤_; omega)
    have su:=writeN_setV vs3 (k * 2) (.int .i64 (-1)) (by omega)
    obtain ⟨n,en⟩:∃ n,gs.length=n:=⟨_,rfl⟩
    obtain ⟨gl,egl⟩:∃ n,g.length=n:=⟨_,rfl⟩
    rw [en] at t0 t6 ixi
    rw [egl] at t14 cg03 ixk
    exact ⟨_,_,by
      simp (config:={maxSteps:=2000000}) (disch:=first | omega | (simp only [List.length_cons,List.length_nil,List.length_append,List.length_drop]; omega)) only [R_purserlaw17_spoil_0,R_purserlaw17_spoil_1,t0,t2,t3,t15,g03,cg03,gq3,ixi,ixk,ste,su,wi,↓x_fieldAddr,x_fieldV,Nat.zero_add,Nat.add_zero,Nat.mul_one,↓s_load,m_load,↓m_load1,m_load1,↓m_st,m_stE,m_storeI,↓x_idxS,x_idxSE,x_addrE,↓s_ops,↓s_nil,↓s_op,↓s_bindS,s_bindS,↓s_bindE,s_bindE,s_norm,s_block_normal,s_block_exit,↓s_getp,↓s_getp0,↓s_con,↓s_mov,↓s_bin,s_same,b_add,↓iteN_true,↓iteN_false,iteN_true,iteN_false,Nat.zero_add,Nat.reduceEqDiff,decide_true,decide_false,if_true]
      exact rfl,⟨i1,by rw [en]; exact (by (simp only [s_getp,s_getp0,Nat.reduceEqDiff,decide_false,iteN_false,t0]; try rfl)),(by (simp only [s_getp,s_getp0,Nat.reduceEqDiff,decide_false,iteN_false,t2]; try rfl)),by rw [en]; exact (by (simp only [s_getp,s_getp0,Nat.reduceEqDiff,decide_false,iteN_false,t6]; try rfl)),(by (simp only [s_getp,s_getp0,Nat.reduceEqDiff,decide_false,iteN_false,t7]; try rfl)),by rw [egl]; exact (by (simp only [s_getp,s_getp0,Nat.reduceEqDiff,decide_false,iteN_false,t14]; try rfl)),(by (simp only [s_getp,decide_true,iteN_true]; try rfl)),wk⟩⟩
  obtain ⟨R0,eR0⟩:∃ R,R_purserlaw17_spoil_0=R:=⟨_,rfl⟩
  obtain ⟨R1,eR1⟩:∃ R,R_purserlaw17_spoil_1=R:=⟨_,rfl⟩
  obtain ⟨Lo,eL⟩:∃ R,L_purserlaw17_spoil_0=R:=⟨_,rfl⟩
  rw [eR0,eR1,eL] at fin
  have fin':=fun T q0 q2 q3 q6 q7 q14 q15 q26 q27 => fin T ⟨Nat.zero_le _,q0,q2,q3,q6,q7,q14,q15,q26,q27,w⟩
  clear fin
  obtain ⟨n,en⟩:∃ n,gs.length=n:=⟨_,rfl⟩
  obtain ⟨gl,egl⟩:∃ n,g.length=n:=⟨_,rfl⟩
  obtain ⟨ol,eol⟩:∃ n,o.l.length=n:=⟨_,rfl⟩
  rw [en] at t0 t6 ixi fin' ⊢
  rw [egl] at t14 c0 ixk cg0 fin' ⊢
  rw [eol] at cg fin'
  simp (config:={maxSteps:=2000000}) (disch:=first | omega | (simp only [List.length_cons,List.length_nil,List.length_append,List.length_drop]; omega)) only [L_purserlaw17_spoil_1,eR0,eR1,eL,t0,t2,t14,t15,g0,cg0,gq,cg,c0,ixi,ixk,↓s_len,x_lenS,↓x_fieldAddr,x_fieldV,Nat.zero_add,Nat.mul_one,↓l_loop,↓s_load,m_load,↓m_load1,m_load1,↓x_idxS,x_idxSE,x_addrE,x_lenS,↓s_len,↓s_skip,↓s_ops,↓s_seq,↓s_cond,↓s_block,↓s_nil,↓s_op,↓s_bindS,s_bindS,↓s_bindE,s_bindE,s_norm,↓s_condV,s_condV,↓s_getp,↓s_con,↓s_mov,↓s_bin,s_same,b_lss,↓iteN_true,↓iteN_false,iteN_true,iteN_false,Nat.zero_add,Nat.reduceEqDiff,decide_true,decide_false]
  exact fin' _ (by (simp only [s_getp,Nat.reduceEqDiff,decide_false,iteN_false,t0]; try rfl)) (by (simp only [s_getp,Nat.reduceEqDiff,decide_false,iteN_false,t2]; try rfl)) (by (simp only [s_getp,Nat.reduceEqDiff,decide_false,decide_true,iteN_false,iteN_true]; try rfl)) (by (simp only [s_getp,Nat.reduceEqDiff,decide_false,iteN_false,t6]; try rfl)) (by (simp only [s_getp,Nat.reduceEqDiff,decide_false,iteN_false,t7]; try rfl)) (by (simp only [s_getp,Nat.reduceEqDiff,decide_false,iteN_false,t14]; try rfl)) (by (simp only [s_getp,Nat.reduceEqDiff,decide_false,iteN_false,t15]; try rfl)) (by (simp only [s_getp,Nat.reduceEqDiff,decide_false,decide_true,iteN_false,iteN_true]; try rfl)) (by (simp only [s_getp,decide_true,iteN_true]; try rfl))
structure P2I (v:V) (n:Nat) (q0:Nat) (vs0:List V) (md0:Md) (gs:List (List Rq)) (K:Nat→Prop) (h0:H) (i:Nat) (T:Tr V) (h:H):Prop where
  il:i≤n
  t0:evO T (.t 0)=v
  t6:evO T (.t 6)=.int .i64 (n:Int)
  t7:evO T (.t 7)=.int .i64 (i:Int)
  w:W7I q0 vs0 md0 gs K h0 h
theorem p2_step (Q:Orc) (m:Nat) (q0:Nat) (vs0:List V) (md0:Md) (gs:List (List Rq)) (hd:gs.length≤1000000) (c:Option Nat) (K:Nat→Prop) (h0:H) (hgl:∀ g ∈ gs,g.length≤1000000∧g.length < m∧∀ o ∈ g,o.l.length≤1000000∧o.l.length < m) :
    ∀ i T h,i < gs.length→P2I (.slice (some (q0,0)) gs.length c 1) gs.length q0 vs0 md0 gs K h0 i T h→∃ T' h',evC Q 62 m none L_purserlaw17_spoil_2 ⟨T,[],h⟩=some (.normal,⟨T',[],h'⟩)∧P2I (.slice (some (q0,0)) gs.length c 1) gs.length q0 vs0 md0 gs K h0 (i+1) T' h':=by
  intro i T0 h hi ⟨_,t0,t6,t7,w⟩
  obtain ⟨g,hg⟩:∃ g,gs[i]?=some g:=⟨_,List.getElem?_eq_getElem hi⟩
  obtain ⟨gm1,gm2,gm3⟩:=hgl g (List.mem_of_getElem? hg)
  have c0:decide ((i:Int) < (gs.length:Int))=true:=decide_eq_true (by omega)
  have wi:wr .i64 ((i:Int)+1)=((i+1:Nat):Int):=by rw [wr_i64 (by omega)]; omega
  have ixi:idx (i:Int) gs.length=some i:=idxn hi
  have g0:=w.g0
  obtain ⟨b,cb,eb,cg0,_⟩:=w.rows i g hg
  have i1:i+1≤gs.length:=hi
  have fin:∀ T,P1I (.slice (some (q0,0)) gs.length c 1) gs.length i g.length q0 vs0 md0 gs K h0 0 T h→∃ T' h',bindE (blockE 1 (blockE 2 (loopN (evC Q 62 m none L_purserlaw17_spoil_1) m ⟨T,[],h⟩))) (evC Q 62 m none R_purserlaw17_spoil_2)=some (.normal,⟨T',[],h'⟩)∧P2I (.slice (some (q0,0)) gs.length c 1) gs.length q0 vs0 md0 gs K h0 (i+1) T' h':=by
    intro T I
    obtain ⟨T3,h3,rr,J⟩:=loop_go (f:=evC Q 62 m none L_purserlaw17_spoil_1) (P1I (.slice (some (q0,0)) gs.length c 1) gs.length i g.length q0 vs0 md0 gs K h0) g.length (.exit 2) (by intro h; cases h) (P1I (.slice (some (q0,0)) gs.length c 1) gs.length i g.length q0 vs0 md0 gs K h0 g.length) (fun k T h hk I => p1_step Q m q0 vs0 md0 gs hd c K h0 i g hg gm1 gm3 k T h hk I) (fun T h I => by
      obtain ⟨il,t0,t2,t6,t7,t14,t15,w⟩:=I
      have c0:decide ((g.length:Int) < (g.length:Int))=false:=decide_eq_false (by omega)
      obtain ⟨n,en⟩:∃ n,gs.length=n:=⟨_,rfl⟩
      obtain ⟨gl,egl⟩:∃ n,g.length=n:=⟨_,rfl⟩
      rw [en] at t0 t6
      rw [egl] at t14 t15 c0
      exact ⟨_,_,by
        simp (config:={maxSteps:=2000000}) (disch:=first | omega | (simp only [List.length_cons,List.length_nil,List.length_append,List.length_drop]; omega)) only [L_purserlaw17_spoil_1,t14,t15,c0,↓s_ops,↓s_seq,↓s_cond,↓s_exit,↓s_nil,↓s_op,↓s_bindS,s_bindS,↓s_bindE,s_bindE,s_bindE_exit,s_norm,↓s_condV,s_condV,↓s_getp,↓s_bin,s_same,b_lss,↓iteN_true,↓iteN_false,iteN_true,iteN_false,decide_true]
        exact rfl,⟨il,by rw [en]; exact (by (simp only [s_getp,Nat.reduceEqDiff,decide_false,iteN_false,t0]; try rfl)),(by (simp only [s_getp,Nat.reduceEqDiff,decide_false,iteN_false,t2]; try rfl)),by rw [en]; exact (by (simp only [s_getp,Nat.reduceEqDiff,decide_false,iteN_false,t6]; try rfl)),(by (simp only [s_getp,Nat.reduceEqDiff,decide_false,iteN_false,t7]; try rfl)),by rw [egl]; exact (by (simp only [s_getp,Nat.reduceEqDiff,decide_false,iteN_false,t14]; try rfl)),by rw [egl]; exact (by (simp only [s_getp,Nat.reduceEqDiff,decide_false,iteN_false,t15]; try rfl)),w⟩⟩) g.length 0 (by omega) m gm2 T h I
    rw [rr]
    obtain ⟨_,t0,t2,t6,t7,t14,t15,w3⟩:=J
    obtain ⟨n,en⟩:∃ n,gs.length=n:=⟨_,rfl⟩
    rw [en] at t0 t6
    exact ⟨_,_,by
      simp (config:={maxSteps:=2000000}) (disch:=first | omega | (simp only [List.length_cons,List.length_nil,List.length_append,List.length_drop]; omega)) only [R_purserlaw17_spoil_2,t7,wi,↓s_ops,↓s_nil,↓s_op,↓s_bindS,s_bindS,↓s_bindE,s_bindE,s_norm,s_block_normal,s_block_exit,↓s_getp,↓s_con,↓s_mov,↓s_bin,s_same,b_add,↓iteN_true,iteN_true,decide_true,if_true]
      exact rfl,⟨i1,by rw [en]; exact (by (simp only [s_getp,Nat.reduceEqDiff,decide_false,iteN_false,t0]; try rfl)),by rw [en]; exact (by (simp only [s_getp,Nat.reduceEqDiff,decide_false,iteN_false,t6]; try rfl)),(by (simp only [s_getp,decide_true,iteN_true]; try rfl)),w3⟩⟩
  obtain ⟨R1,eR1⟩:∃ R,R_purserlaw17_spoil_2=R:=⟨_,rfl⟩
  obtain ⟨Lo,eL⟩:∃ R,L_purserlaw17_spoil_1=R:=⟨_,rfl⟩
  rw [eR1,eL] at fin
  have fin':=fun T q0 q2 q6 q7 q14 q15 => fin T ⟨Nat.zero_le _,q0,q2,q6,q7,q14,q15,w⟩
  clear fin
  obtain ⟨n,en⟩:∃ n,gs.length=n:=⟨_,rfl⟩
  obtain ⟨gl,egl⟩:∃ n,g.length=n:=⟨_,rfl⟩
  rw [en] at t0 t6 c0 ixi fin' ⊢
  rw [egl] at cg0 fin'
  simp (config:={maxSteps:=2000000}) (disch:=first | omega | (simp only [List.length_cons,List.length_nil,List.length_append,List.length_drop]; omega)) only [L_purserlaw17_spoil_2,eR1,eL,t0,t6,t7,g0,cg0,c0,ixi,↓s_len,x_lenS,Nat.zero_add,Nat.mul_one,↓l_loop,↓s_load,m_load,↓m_load1,m_load1,↓x_idxS,x_idxSE,x_addrE,x_lenS,↓s_len,↓s_skip,↓s_ops,↓s_seq,↓s_cond,↓s_block,↓s_nil,↓s_op,↓s_bindS,s_bindS,↓s_bindE,s_bindE,s_norm,↓s_condV,s_condV,↓s_getp,↓s_con,↓s_mov,↓s_bin,s_same,b_lss,↓iteN_true,↓iteN_false,iteN_true,iteN_false,Nat.zero_add,Nat.reduceEqDiff,decide_true,decide_false]
  exact fin' _ (by (simp only [s_getp,Nat.reduceEqDiff,decide_false,iteN_false,t0]; try rfl)) (by (simp only [s_getp,Nat.reduceEqDiff,decide_false,decide_true,iteN_false,iteN_true]; try rfl)) (by (simp only [s_getp,Nat.reduceEqDiff,decide_false,iteN_false,t6]; try rfl)) (by (simp only [s_getp,Nat.reduceEqDiff,decide_false,iteN_false,t7]; try rfl)) (by (simp only [s_getp,Nat.reduceEqDiff,decide_false,decide_true,iteN_false,iteN_true]; try rfl)) (by (simp only [s_getp,decide_true,iteN_true]; try rfl))
theorem GwF.w7 {K:Nat→Prop} {lo:Nat} {h:H} {gs:List (List Rq)} {a:Option (Nat × Nat)} {c:Option Nat} {e:Nat} (r:GwF (geK lo) lo h gs a c e):gs=[]∨∃ q0 vs0 md0,a=some (q0,0)∧e=1∧W7I q0 vs0 md0 gs (fun j => j < lo) h h:=by
  rcases r with ⟨r,_⟩ | ⟨h1,q,md,vs,e1,e2,e3,g,hv,hm,hl,hq,at_⟩
  · exact .inl r
  · refine .inr ⟨q,vs,md,e1,e3,g,fun i gg hg => ?_,fun _ _ => rfl,rfl⟩
    obtain ⟨b,cb,eb,e4,s⟩:=at_ i gg hg
    refine ⟨b,cb,eb,e4,?_⟩
    rcases s with s | ⟨q2,vs2,md2,f1,f2,f3,f4,f5,f6,f7,f8⟩
    · exact .inl s
    · refine .inr ⟨q2,vs2,md2,f1,f2,f5,f6,Nat.not_lt_of_le f3.1,f7,fun k o ho => ?_⟩
      obtain ⟨b2,cb2,eb2,e5,s2⟩:=f8 k o ho
      have p0:vs2[k * 2]?=some (.int .i64 o.kind):=by
        have:=congrArg (fun l => l[0]?) e5
        simpa [List.getElem?_take,List.getElem?_drop] using this
      have p1:vs2[k * 2+1]?=some (.slice b2 o.l.length cb2 eb2):=by
        have:=congrArg (fun l => l[1]?) e5
        simpa [List.getElem?_take,List.getElem?_drop] using this
      refine ⟨⟨_,p0⟩,b2,cb2,eb2,p1,fun hne => ?_⟩
      rcases s2 with s2 | ⟨d,m',w1,w2,w3,w4,w5,w6⟩
      · exact absurd s2 hne
      · exact ⟨d,_,m',w1,w2,w5,w6,Nat.le_refl _,Nat.not_lt_of_le w3.1⟩
theorem spoil7_go (es:E k_purserlaw17_spoil=some f_purserlaw17_spoil) (xs:∀ a h,X (.fn k_purserlaw17_spoil) a h=none) (M:Nat) (gs:List (List Rq)) (hd:gs.length≤1000000) (hM:gs.length < M) (hgl:∀ g ∈ gs,g.length≤1000000∧g.length < M∧∀ o ∈ g,o.l.length≤1000000∧o.l.length < M) (a:Option (Nat × Nat)) (c:Option Nat) (e:Nat) (K:Nat→Prop) (h:H) (hw:gs=[]∨∃ q0 vs0 md0,a=some (q0,0)∧e=1∧W7I q0 vs0 md0 gs K h h) :
    ∃ h',callX E X (M+1) (.fn k_purserlaw17_spoil) [.slice a gs.length c e] h=some (.tup [],h')∧h'.next=h.next∧∀ j,K j→h'.get j=h.get j:=by
  rw [x_cfn es _ _ (Nat.le_of_ble_eq_true rfl) (xs _ _)]
  rcases hw with rfl | ⟨q0,vs0,md0,rfl,rfl,w⟩
  · refine ⟨h,?_,rfl,fun _ _ => rfl⟩
    have c0:decide ((0:Int) < ((0:Nat):Int))=false:=rfl
    have c1:decide ((0:Int) < 0)=false:=rfl
    obtain ⟨M,rfl⟩:∃ k,M=k+1:=⟨M - 1,by omega⟩
    rw [List.length_nil]
    simp (config:={maxSteps:=2000000}) (disch:=first | omega | (simp only [List.length_cons,List.length_nil,List.length_append,List.length_drop]; omega)) only [L_purserlaw17_spoil_2,↓s_len,x_lenS,↓l_loop,↓l_succ,l_exit,x_lenS,↓s_len,Int.reduceLT,Int.cast_ofNat_Int,s_res0,↓s_ops,↓s_seq,↓s_cond,↓s_block,↓s_exit,↓s_nil,↓s_op,↓s_bindS,s_bindS,↓s_bindE,s_bindE,s_bindE_exit,s_norm,↓s_condV,s_condV,s_block_exit,↓s_getp,↓s_get,↓s_con,↓s_list0,↓s_list1,↓s_mov,↓s_bin,s_same,b_lss,s_end',s_res0,↓iteN_true,↓iteN_false,iteN_true,iteN_false,Nat.reduceEqDiff,decide_true,decide_false,if_true]
    try rfl
  · have fin:∀ T,P2I (.slice (some (q0,0)) gs.length c 1) gs.length q0 vs0 md0 gs K h 0 T h→∃ h',fnEnd [] (blockE 0 (loopN (evC (callX E X M) 62 M none L_purserlaw17_spoil_2) M ⟨T,[],h⟩))=some (.tup [],h')∧h'.next=h.next∧∀ j,K j→h'.get j=h.get j:=by
      intro T I
      obtain ⟨T3,h3,rr,J⟩:=loop_go (f:=evC (callX E X M) 62 M none L_purserlaw17_spoil_2) (P2I (.slice (some (q0,0)) gs.length c 1) gs.length q0 vs0 md0 gs K h) gs.length (.exit 0) (by intro h; cases h) (fun _ h' => W7I q0 vs0 md0 gs K h h') (fun i T h' hi I => p2_step _ M q0 vs0 md0 gs hd c K h hgl i T h' hi I) (fun T h' I => by
        obtain ⟨il,t0,t6,t7,w⟩:=I
        have c0:decide ((gs.length:Int) < (gs.length:Int))=false:=decide_eq_false (by omega)
        generalize gs.length=n at *
        exact ⟨_,_,by
          simp (config:={maxSteps:=2000000}) (disch:=first | omega | (simp only [List.length_cons,List.length_nil,List.length_append,List.length_drop]; omega)) only [L_purserlaw17_spoil_2,t6,t7,c0,↓s_ops,↓s_seq,↓s_cond,↓s_exit,↓s_nil,↓s_op,↓s_bindS,s_bindS,↓s_bindE,s_bindE,s_bindE_exit,s_norm,↓s_condV,s_condV,↓s_getp,↓s_bin,s_same,b_lss,↓iteN_true,↓iteN_false,iteN_true,iteN_false,decide_true]
          exact rfl,w⟩) gs.length 0 (by omega) M (by omega) T h I
      rw [rr]
      exact ⟨h3,rfl,J.nx,J.fr⟩
    obtain ⟨Lo,eL⟩:∃ R,L_purserlaw17_spoil_2=R:=⟨_,rfl⟩
    rw [eL] at fin ⊢
    have fin':=fun T q0 q6 q7 => fin T ⟨Nat.zero_le _,q0,q6,q7,w⟩
    clear fin
    generalize gs.length=n at *
    simp (config:={maxSteps:=2000000}) (disch:=first | omega | (simp only [List.length_cons,List.length_nil,List.length_append,List.length_drop]; omega)) only [↓s_len,x_lenS,↓l_loop,x_lenS,↓s_len,↓s_ops,↓s_seq,↓s_block,↓s_nil,↓s_op,↓s_bindS,s_bindS,↓s_bindE,s_bindE,s_norm,↓s_getp,↓s_get,↓s_con,↓s_list0,↓s_list1,↓s_mov,s_same,↓iteN_true,iteN_true,decide_true]
    exact fin' _ (by (simp only [s_getp,Nat.reduceEqDiff,decide_false,iteN_false]; try rfl)) (by (simp only [s_getp,Nat.reduceEqDiff,decide_false,decide_true,iteN_false,iteN_true]; try rfl)) (by (simp only [s_getp,decide_true,iteN_true]; try rfl))
end Go.Eng
