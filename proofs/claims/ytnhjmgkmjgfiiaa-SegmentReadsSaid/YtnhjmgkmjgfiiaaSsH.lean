/- What functions of the program come to: own work. -/
import Derived.Test.YtnhjmgkmjgfiiaaSsE
namespace Go.Eng
open Go
variable {E:Nat→Option Fn} {X:Orc}
set_option linter.unusedSimpArgs false
set_option linter.unusedVariables false
theorem dcheck_go (e:E k_purserref16_Check=some f_purserref16_Check) (x:∀ a h,X (.fn k_purserref16_Check) a h=none) (N:Nat) (o:Rq) (hl:o.l.length < 9223372036854775807) (a:Option (Nat × Nat)) (c:Option Nat) (ez:Nat) (h:H) :
    ∃ h',callX E X (N+1) (.fn k_purserref16_Check) [.agg [.int .i64 o.kind,.slice a o.l.length c ez]] h=some (.int .i64 (if rqOk o=true then 0 else 160),h')∧Kp h h':=by
  rw [x_cfn e _ _ (Nat.le_of_ble_eq_true rfl) (x _ _)]
  have ca:∀ l:List V,(V.agg l).cells=l:=fun _ => rfl
  obtain ⟨h1,e1⟩:∃ h1,h.new (.cells [.int .i64 o.kind,.slice a o.l.length c ez] .rw)=h1:=⟨_,rfl⟩
  have g1:h1.get h.next=some (.cells [.int .i64 o.kind,.slice a o.l.length c ez] .rw):=by rw [← e1]; exact h_new_same _ _
  refine ⟨h1,?_,by rw [← e1]; exact Kp.new _ _⟩
  unfold rqOk
  obtain ⟨k,l⟩:=o
  simp only at hl g1 e1 ⊢
  generalize l.length=n at *
  by_cases c1:k < 0
  · have d1:decide (k < 0)=true:=decide_eq_true c1
    rw [decide_eq_false (show ¬ (0:Int)≤k by omega),Bool.false_and,Bool.false_and,if_neg (by simp)]
    simp (config:={maxSteps:=2000000}) (disch:=first | omega | (simp only [List.length_cons,List.length_nil,List.length_append,List.length_drop]; omega)) only [ca,e1,g1,d1,↓s_box,↓x_fieldAddr,x_fieldV,Nat.add_zero,Nat.add_zero,↓s_load,m_load,↓m_load1,m_load1,s_res0,↓s_ops,↓s_seq,↓s_cond,↓s_ret,↓s_nil,↓s_op,↓s_opg,↓s_wanted',↓s_wantV,s_wantV,beq_false,↓s_bindS,s_bindS,↓s_bindE,s_bindE,s_bindE_ret,s_norm,↓s_condV,s_condV,↓s_getp,↓s_get,↓s_con,↓s_list0,↓s_list1,↓s_mov,↓s_pick,↓s_pickE,s_pickE,↓s_bin,s_same,b_lss,s_end,s_res0,s_res1,s_tup1,↓iteN_true,↓iteN_false,iteN_true,iteN_false,Nat.reduceEqDiff,decide_true,decide_false,Bool.not_true,List.getElem?_cons_zero]
    try rfl
  · have d1:decide (k < 0)=false:=decide_eq_false c1
    rw [decide_eq_true (show (0:Int)≤k by omega),Bool.true_and]
    by_cases c2:255 < k
    · have d2:decide (255 < k)=true:=decide_eq_true c2
      rw [decide_eq_false (show ¬ k≤(255:Int) by omega),Bool.false_and,if_neg (by simp)]
      simp (config:={maxSteps:=2000000}) (disch:=first | omega | (simp only [List.length_cons,List.length_nil,List.length_append,List.length_drop]; omega)) only [ca,e1,g1,d1,d2,↓s_box,↓x_fieldAddr,x_fieldV,Nat.add_zero,Nat.add_zero,↓s_load,m_load,↓m_load1,m_load1,s_res0,↓s_ops,↓s_seq,↓s_cond,↓s_ret,↓s_nil,↓s_op,↓s_opg,↓s_wanted',↓s_wantV,s_wantV,beq_false,↓s_bindS,s_bindS,↓s_bindE,s_bindE,s_bindE_ret,s_norm,↓s_condV,s_condV,↓s_getp,↓s_get,↓s_con,↓s_list0,↓s_list1,↓s_mov,↓s_pick,↓s_pickE,s_pickE,↓s_bin,s_same,b_lss,b_gtr,s_end,s_res0,s_res1,s_tup1,↓iteN_true,↓iteN_false,iteN_true,iteN_false,Nat.reduceEqDiff,decide_true,decide_false,Bool.not_true,List.getElem?_cons_zero,beq_self_eq_true]
      try rfl
    · have d2:decide (255 < k)=false:=decide_eq_false c2
      rw [decide_eq_true (show k≤(255:Int) by omega),Bool.true_and]
      by_cases c3:n≤200000
      · have d3:decide ((200000:Int) < (n:Int))=false:=decide_eq_false (by omega)
        rw [decide_eq_true c3,if_pos rfl]
        simp (config:={maxSteps:=2000000}) (disch:=first | omega | (simp only [List.length_cons,List.length_nil,List.length_append,List.length_drop]; omega)) only [ca,e1,g1,d1,d2,d3,↓s_box,↓s_len,x_lenS,↓x_fieldAddr,x_fieldV,Nat.zero_add,Nat.add_zero,Nat.add_zero,↓s_load,m_load,↓m_load1,m_load1,x_lenS,↓s_len,s_res0,↓s_skip,↓s_ops,↓s_seq,↓s_cond,↓s_ret,↓s_nil,↓s_op,↓s_opg,↓s_wanted',↓s_wantV,s_wantV,↓s_bindS,s_bindS,↓s_bindE,s_bindE,s_norm,↓s_condV,s_condV,↓s_getp,↓s_get,↓s_con,↓s_list0,↓s_list1,↓s_mov,↓s_pick,↓s_pickE,s_pickE,↓s_bin,s_same,b_lss,b_gtr,s_end,s_res0,s_res1,s_tup1,↓iteN_true,↓iteN_false,iteN_true,iteN_false,Nat.zero_add,Nat.reduceEqDiff,decide_true,decide_false,List.getElem?_cons_zero,List.getElem?_cons_succ,beq_self_eq_true]
        try rfl
      · have d3:decide ((200000:Int) < (n:Int))=true:=decide_eq_true (by omega)
        rw [decide_eq_false c3,if_neg (by simp)]
        simp (config:={maxSteps:=2000000}) (disch:=first | omega | (simp only [List.length_cons,List.length_nil,List.length_append,List.length_drop]; omega)) only [ca,e1,g1,d1,d2,d3,↓s_box,↓s_len,x_lenS,↓x_fieldAddr,x_fieldV,Nat.zero_add,Nat.add_zero,Nat.add_zero,↓s_load,m_load,↓m_load1,m_load1,x_lenS,↓s_len,s_res0,↓s_ops,↓s_seq,↓s_cond,↓s_ret,↓s_nil,↓s_op,↓s_opg,↓s_wanted',↓s_wantV,s_wantV,↓s_bindS,s_bindS,↓s_bindE,s_bindE,s_bindE_ret,s_norm,↓s_condV,s_condV,↓s_getp,↓s_get,↓s_con,↓s_list0,↓s_list1,↓s_mov,↓s_pick,↓s_pickE,s_pickE,↓s_bin,s_same,b_lss,b_gtr,s_end,s_res0,s_res1,s_tup1,↓iteN_true,↓iteN_false,iteN_true,iteN_false,Nat.zero_add,Nat.reduceEqDiff,decide_true,decide_false,List.getElem?_cons_zero,List.getElem?_cons_succ,beq_self_eq_true]
        try rfl
theorem u8k (k:Nat) (h:k < 256):wr .u8 (k:Int)=(k:Int):=by rw [w8n,Nat.mod_eq_of_lt h]
theorem lit1 (h:H) (k n:Nat) (l:List Nat) (hl:l.length=n+1) (hn:n≤1000000):appendC (h.new (.cells [.int .u8 (k:Int)] .rw)) 1 1 (.slice (some (h.next,0)) 1 (some 1) 1) (some (n+1,ofI .u8 l))=some (.slice (some (h.next+1,0)) (n+2) none 1,(h.new (.cells [.int .u8 (k:Int)] .rw)).new (.cells (ofI .u8 (k :: l)) .rw)):=by
  rw [appF_of _ _ _ _ _ _ _ _ (by omega) (by omega),h_new_same]
  have:=appFI .u8 [k] l .rw (h.new (.cells [.int .u8 (k:Int)] .rw)) 0 1 (n+1) (by show 0+1≤1; omega)
  rw [show 1+(n+1)=n+2 by omega] at this
  exact this
theorem done_go (ef:E k_purserref16_One=some f_purserref16_One) (xf:∀ a h,X (.fn k_purserref16_One) a h=none) (e:EnCm E) (x:NoCm X) (N:Nat) (o:Rq) (hv:rqOk o=true) (ok:o.ok) (hl:o.l.length≤250000) (a:Option (Nat × Nat)) (c:Option Nat) (ez:Nat) (h:H) (src:SrcH h a ez o.l) :
    ∃ h' a' c' e',callX E X (N+250101) (.fn k_purserref16_One) [.agg [.int .i64 o.kind,.slice a o.l.length c ez]] h=some (.slice a' (rqB o).length c' e',h')∧Nw h h' (rqB o) a' c' e':=by
  rw [x_cfn ef _ _ (Nat.le_of_ble_eq_true rfl) (xf _ _)]
  have ca:∀ l:List V,(V.agg l).cells=l:=fun _ => rfl
  have hv':=hv
  unfold rqOk at hv'
  simp only [Bool.and_eq_true,decide_eq_true_eq] at hv'
  obtain ⟨⟨k0,k1⟩,_⟩:=hv'
  obtain ⟨kn,ekn⟩:=Int.eq_ofNat_of_zero_le k0
  obtain ⟨hA,eA⟩:∃ hA,h.new (.cells [.int .i64 (kn:Int),.slice a o.l.length c ez] .rw)=hA:=⟨_,rfl⟩
  have kA:Kp h hA:=by rw [← eA]; exact Kp.new _ _
  have nA:hA.next=h.next+1:=by rw [← eA]; rfl
  have gA:hA.get h.next=some (.cells [.int .i64 (kn:Int),.slice a o.l.length c ez] .rw):=by rw [← eA]; exact h_new_same _ _
  obtain ⟨fe,fb⟩:=fix4 o.l.length (by omega)
  obtain ⟨hB,aB,cB,eB,rB',nwB⟩:=rfixed_go e.rf x.rf (N+250080) 4 o.l.length (by omega) hA
  rw [fe,fb,leN_len] at rB'
  rw [fb] at nwB
  have scB:=(nwB.wb.src.mono (Kp.new hB (.cells [.int .u8 (kn:Int)] .rw))).cellz cB
  rw [leN_len] at scB
  have ap:=lit1 hB kn 3 (leN 4 o.l.length) (leN_len _ _) (by omega)
  obtain ⟨hC,eC⟩:∃ hC,(hB.new (.cells [.int .u8 (kn:Int)] .rw)).new (.cells (ofI .u8 (kn :: leN 4 o.l.length)) .rw)=hC:=⟨_,rfl⟩
  have kC:Kp hB hC:=by rw [← eC]; (repeat (first | exact Kp.refl _ | refine Kp.put ?_ _ (by first | omega | (simp only [h_next_put,h_next_new,h_next_del]; omega)) | refine Kp.del ?_ (by first | omega | (simp only [h_next_put,h_next_new,h_next_del]; omega)) | refine Kp.trans ?_ (Kp.new _ _)))
  rw [eC] at ap
  have sC:SrcH hC (some (hB.next+1,0)) 1 (kn :: leN 4 o.l.length):=.inr ⟨hB.next+1,0,_,.rw,rfl,rfl,by rw [← eC]; exact Nat.lt_succ_self _,by rw [← eC]; exact h_new_same _ _,by rw [ofI_len]; omega,by rw [List.drop_zero]; exact List.take_of_length_le (by rw [ofI_len]; exact Nat.le_refl _)⟩
  have l5:(kn :: leN 4 o.l.length).length=5:=by rw [List.length_cons,leN_len]
  have b5:byt (kn :: leN 4 o.l.length)=true:=byt_iff.2 (fun y hy => by
    rcases List.mem_cons.1 hy with rfl | hy
    · omega
    · exact byt_iff.1 (leN_byt 4 _) y hy)
  obtain ⟨hD,aD,cD,eD,rD,nwD⟩:=rmark_go e x N (kn :: leN 4 o.l.length) b5 (by omega) (some (hB.next+1,0)) none 1 hC sC
  have kAD:Kp hA hD:=nwB.kp.trans (kC.trans nwD.kp)
  have gB:hB.get h.next=some (.cells [.int .i64 (kn:Int),.slice a o.l.length c ez] .rw):=by rw [nwB.kp.2 _ (by omega),gA]
  have gD:hD.get h.next=some (.cells [.int .i64 (kn:Int),.slice a o.l.length c ez] .rw):=by rw [kAD.2 _ (by omega),gA]
  obtain ⟨hE,aE,cE,eE,rE,nwE⟩:=rmark_go e x N o.l ok.bl hl a c ez hD ((src.mono kA).mono kAD)
  have scE:=nwE.wb.src.cellz cE
  have w5:(kn :: leN 4 o.l.length++leN 4 (onV 0 (kn :: leN 4 o.l.length))).length=9:=by rw [List.length_append,l5,leN_len]
  rw [l5,w5] at rD
  have wbD:=nwD.wb.kp nwE.kp
  obtain ⟨aF,cF,eF,hF,ap2,wbF,nF,fF,oF⟩:=ap_wb hE _ (o.l++leN 4 (onV 0 o.l)) aD cD eD wbD (by rw [w5,List.length_append,leN_len]; omega)
  have eq:kn :: leN 4 o.l.length++leN 4 (onV 0 (kn :: leN 4 o.l.length))++(o.l++leN 4 (onV 0 o.l))=rqB o:=by
    unfold rqB mkB4; rw [show o.kind.toNat=kn by rw [ekn]; rfl]
  rw [eq] at ap2 wbF
  rw [w5] at ap2
  have k0E:Kp h hE:=kA.trans (kAD.trans nwE.kp)
  have geD:∀ q z,aD=some (q,z)→h.next < q:=fun q z e => by have:=nwD.ge q z e; have:=nwB.kp.1; have:=kC.1; omega
  refine ⟨hF,aF,cF,eF,?_,⟨⟨by have:=k0E.1; omega,fun j hj => by rw [fF j (by have:=k0E.1; omega) (fun e => by have:=geD _ _ e; omega),k0E.2 _ hj]⟩,wbF,fun q z e => by
    rcases oF with w | w
    · rw [w] at e; have:=geD q z e; omega
    · rw [w] at e; cases e; exact k0E.1⟩⟩
  have w8:=u8k kn (by omega)
  have wu:wr .u64 (o.l.length:Int)=(o.l.length:Int):=u64n _ (by omega)
  rw [ekn]
  obtain ⟨W,eW⟩:∃ W,(o.l++leN 4 (onV 0 o.l)).length=W:=⟨_,rfl⟩
  rw [eW] at rE scE ap2
  obtain ⟨R,eR⟩:∃ W,(rqB o).length=W:=⟨_,rfl⟩
  rw [eR] at ap2 ⊢
  obtain ⟨ol,eol⟩:∃ W,o.l.length=W:=⟨_,rfl⟩
  obtain ⟨C4,eC4⟩:∃ W,ofI .u8 (leN 4 o.l.length)=W:=⟨_,rfl⟩
  rw [eC4] at scB ap
  obtain ⟨C5,eC5⟩:∃ W,ofI .u8 (o.l++leN 4 (onV 0 o.l))=W:=⟨_,rfl⟩
  rw [eC5] at scE ap2
  rw [eol] at eA gA gB gD rB' rE wu ⊢
  replace rD:callX E X (N+250100) (.fn k_purserref02_Mark) [.slice (some (hB.next+1,0)) 5 none 1] hC=_:=rD
  replace ap:appendC (hB.new (.cells [.int .u8 (kn:Int)] .rw)) 1 1 (.slice (some (hB.next,0)) 1 (some 1) 1) (some (4,C4))=some (.slice (some (hB.next+1,0)) 5 none 1,hC):=ap
  replace rB':callX E X (N+250100) (.fn k_purserref01_Fixed) [.int .i64 4,.int .u64 (ol:Int)] hA=_:=rB'
  simp (config:={maxSteps:=2000000}) (disch:=first | omega | (simp only [List.length_cons,List.length_nil,List.length_append,List.length_drop]; omega)) only [ca,eA,gA,gB,gD,w8,wu,rB',scB,ap,rD,rE,scE,ap2,↓s_append,↓s_box,↓s_len,x_lenS,↓x_conv,x_convV,↓x_fieldAddr,x_fieldV,Nat.zero_add,Nat.add_zero,↓s_load,m_load,↓m_load1,m_load1,w_zero,x_lenS,↓s_len,↓x_buildS,x_buildE,↓x_P0,↓x_P1,x_fill0,x_filli,List.length_cons,List.length_nil,List.drop_succ_cons,List.drop_nil,Int.cast_ofNat_Int,s_res0,↓s_ops,↓s_seq,↓s_ret,↓s_nil,↓s_op,↓s_bindS,s_bindS,↓s_bindE,s_bindE,s_norm,↓s_getp,↓s_get,↓s_con,↓s_os0,↓s_os1,↓s_list0,↓s_list1,↓s_mov,↓s_call,↓s_ext,s_same,s_end,s_res0,s_res1,s_tup1,↓iteN_true,↓iteN_false,iteN_true,iteN_false,Nat.zero_add,List.append_nil,Nat.reduceEqDiff,decide_true,decide_false,List.getElem?_cons_zero,List.getElem?_cons_succ]
structure EnRo (E:Nat→Option Fn):Prop where
  cm:EnCm E
  ck:E k_purserref16_Check=some f_purserref16_Check
  on:E k_purserref16_One=some f_purserref16_One
  en:E k_purserref16_Encode=some f_purserref16_Encode
  sa:E k_purserref16_Same=some f_purserref16_Same
  gr:E k_purserref16_Great=some f_purserref16_Great
structure NoRo (X:Orc):Prop where
  cm:NoCm X
  ck:∀ a h,X (.fn k_purserref16_Check) a h=none
  on:∀ a h,X (.fn k_purserref16_One) a h=none
  en:∀ a h,X (.fn k_purserref16_Encode) a h=none
  sa:∀ a h,X (.fn k_purserref16_Same) a h=none
  gr:∀ a h,X (.fn k_purserref16_Great) a h=none
structure DeI (v:V) (ops:List Rq) (h0:H) (i:Nat) (T:Tr V) (h:H):Prop where
  il:i≤ops.length
  t0:evO T (.t 0)=v
  t4:∃ a c e,evO T (.t 4)=.slice a (rB (ops.take i)).length c e∧Nw h0 h (rB (ops.take i)) a c e
  t5:evO T (.t 5)=.int .i64 (i:Int)
  kp:Kp h0 h
theorem de_step (e:EnRo E) (x:NoRo X) (N m:Nat) (ops:List Rq) (hl:ops.length≤20000) (ok:∀ o ∈ ops,o.ok) (hw:∀ o ∈ ops,o.l.length≤250000) (hT:(rB ops).length≤700000) (a:Option (Nat × Nat)) (c:Option Nat) (ez:Nat) (h0:H) (row:RrS h0 ops a ez) (i:Nat) (o:Rq) (ho:ops[i]?=some o) (T:Tr V) (h:H) (I:DeI (.slice a ops.length c ez) ops h0 i T h) :
    (rqOk o=true→∃ T' h',evC (callX E X (N+250101)) 29 m none L_purserref16_Encode_0 ⟨T,[],h⟩=some (.normal,⟨T',[],h'⟩)∧DeI (.slice a ops.length c ez) ops h0 (i+1) T' h')∧(rqOk o=false→∃ T' h',evC (callX E X (N+250101)) 29 m none L_purserref16_Encode_0 ⟨T,[],h⟩=some (.ret,⟨T',[],h'⟩)∧evO T' (.t 2)=.slice none 0 (some 0) 0∧evO T' (.t 3)=.int .i64 160∧Kp h0 h'):=by
  obtain ⟨_,t0,⟨a4,c4,e4,t4,nw⟩,t5,kp⟩:=I
  have hi:i < ops.length:=(List.getElem?_eq_some_iff.1 ho).1
  have om:=List.mem_of_getElem? ho
  have c0:decide ((i:Int) < (ops.length:Int))=true:=decide_eq_true (by omega)
  have wi:wr .i64 ((i:Int)+1)=((i+1:Nat):Int):=by rw [wr_i64 (by omega)]; omega
  have ix:idx (i:Int) ops.length=some i:=idxn hi
  obtain ⟨q,off,vs,md,b,cb,eb,rfl,rfl,hq,gq',ld,sb,_⟩:=rr_at row i o ho
  have gv:h.get q=some (.cells vs md):=by rw [kp.2 _ hq,gq']
  have lo:=hw o om
  obtain ⟨h1,r1,k1⟩:=dcheck_go e.ck x.ck (N+250100) o (by omega) b cb eb h
  have z0:decide ((0:Int)=0)=true:=rfl
  have z1:decide ((160:Int)=0)=false:=rfl
  have i1:i+1≤ops.length:=hi
  have e1:=rB_succ ops i o ho
  have le1:=rB_le ops (i+1)
  generalize hB:rB (ops.take i)=B at *
  have gv1:h1.get q=some (.cells vs md):=by rw [k1.2 _ (by have:=kp.1; omega),gv]
  constructor
  · intro hv
    rw [if_pos hv] at r1
    obtain ⟨h2,a2,c2,e2,r2,nw2⟩:=done_go e.on x.on e.cm x.cm N o hv (ok o om) (by omega) b cb eb h1 ((sb.mono kp).mono k1)
    obtain ⟨a3,c3,e3,h3,ap,nw3,n3,f3,o3⟩:=((nw.more k1).more nw2.kp).ap (rqB o) (by rw [← List.length_append,← e1]; omega)
    have sc:=nw2.wb.src.cellz c2
    rw [← e1] at ap nw3
    obtain ⟨B2,eB2⟩:∃ n,(rB (ops.take (i+1))).length=n:=⟨_,rfl⟩
    obtain ⟨on,eon⟩:∃ n,ops.length=n:=⟨_,rfl⟩
    obtain ⟨ol,eol⟩:∃ n,o.l.length=n:=⟨_,rfl⟩
    obtain ⟨ml,eml⟩:∃ n,(rqB o).length=n:=⟨_,rfl⟩
    obtain ⟨bl,ebl⟩:∃ n,B.length=n:=⟨_,rfl⟩
    obtain ⟨C,eC⟩:∃ n,ofI .u8 (rqB o)=n:=⟨_,rfl⟩
    rw [eon] at t0 c0 ix
    rw [eol] at ld r1 r2
    rw [eml] at r2 sc ap
    rw [ebl] at t4 ap
    rw [eC] at sc ap
    rw [eB2] at ap
    exact ⟨_,h3,by
      simp (config:={maxSteps:=2000000}) (disch:=first | omega | (simp only [List.length_cons,List.length_nil,List.length_append,List.length_drop]; omega)) only [L_purserref16_Encode_0,t0,t4,t5,gv,gv1,ld,c0,wi,ix,r1,r2,sc,ap,↓s_append,Bool.not_true,↓s_len,x_lenS,↓s_load,m_load,↓x_idxS,x_idxSE,x_addrE,x_lenS,↓s_len,↓s_skip,↓s_ops,↓s_seq,↓s_cond,↓s_block,↓s_nil,↓s_op,↓s_bindS,s_bindS,↓s_bindE,s_bindE,s_norm,↓s_condV,s_condV,s_block_normal,↓s_getp,↓s_con,↓s_os0,↓s_os1,↓s_mov,↓s_bin,↓s_call,s_same,b_neq,b_lss,b_add,↓iteN_true,↓iteN_false,iteN_true,iteN_false,Nat.reduceEqDiff,decide_true,decide_false,Bool.not_true]
      exact rfl,⟨i1,by rw [eon]; exact (by (simp only [s_getp,Nat.reduceEqDiff,decide_false,iteN_false,t0]; try rfl)),⟨a3,c3,e3,by rw [eB2]; exact (by (simp only [s_getp,Nat.reduceEqDiff,decide_false,decide_true,iteN_false,iteN_true]; try rfl)),nw3⟩,(by (simp only [s_getp,decide_true,iteN_true]; try rfl)),nw3.kp⟩⟩
  · intro hv
    rw [if_neg (by rw [hv]; simp)] at r1
    obtain ⟨on,eon⟩:∃ n,ops.length=n:=⟨_,rfl⟩
    obtain ⟨ol,eol⟩:∃ n,o.l.length=n:=⟨_,rfl⟩
    rw [eon] at t0 c0 ix
    rw [eol] at ld r1
    obtain ⟨T',r,u2,u3⟩:∃ T',evC (callX E X (N+250101)) 29 m none L_purserref16_Encode_0 ⟨T,[],h⟩=some (.ret,⟨T',[],h1⟩)∧evO T' (.t 2)=.slice none 0 (some 0) 0∧evO T' (.t 3)=.int .i64 160:=by
      exact ⟨_,by
        simp (config:={maxSteps:=2000000}) (disch:=first | omega | (simp only [List.length_cons,List.length_nil,List.length_append,List.length_drop]; omega)) only [L_purserref16_Encode_0,t0,t5,gv,ld,c0,ix,r1,Bool.not_false,↓s_len,x_lenS,↓s_load,m_load,↓x_idxS,x_idxSE,x_addrE,x_lenS,↓s_len,Int.reduceEq,↓s_skip,↓s_ops,↓s_seq,↓s_cond,↓s_block,↓s_ret,↓s_nil,↓s_op,↓s_bindS,s_bindS,↓s_bindE,s_bindE,s_bindE_ret,s_norm,↓s_condV,s_condV,s_block_ret,↓s_getp,↓s_con,↓s_os0,↓s_os1,↓s_mov,↓s_bin,↓s_call,s_same,b_neq,b_lss,↓iteN_true,↓iteN_false,iteN_true,iteN_false,Nat.reduceEqDiff,decide_true,decide_false,Bool.not_false]
        exact rfl,(by (simp only [s_getp,Nat.reduceEqDiff,decide_false,decide_true,iteN_false,iteN_true]; try rfl)),(by (simp only [s_getp,decide_true,iteN_true]; try rfl))⟩
    exact ⟨T',h1,r,u2,u3,kp.trans k1⟩
theorem dencode_go (e:EnRo E) (x:NoRo X) (N:Nat) (ops:List Rq) (hl:ops.length≤20000) (ok:∀ o ∈ ops,o.ok) (hw:∀ o ∈ ops,o.l.length≤250000) (hT:(rB ops).length≤700000) (a:Option (Nat × Nat)) (c:Option Nat) (ez:Nat) (h:H) (row:RrS h ops a ez) :
    ∃ h' a2 c2 e2,callX E X (N+250102) (.fn k_purserref16_Encode) [.slice a ops.length c ez] h=some (.tup [.slice a2 (enR ops).1.length c2 e2,.int .i64 ((enR ops).2:Int)],h')∧Nw h h' (enR ops).1 a2 c2 e2:=by
  rw [x_cfn e.en _ _ (Nat.le_of_ble_eq_true rfl) (x.en _ _)]
  have fin:∀ T,DeI (.slice a ops.length c ez) ops h 0 T h→∃ h' a2 c2 e2,fnEnd [.tmp 2,.tmp 3] (bindE (blockE 0 (loopN (evC (callX E X (N+250101)) 29 (N+250101) none L_purserref16_Encode_0) (N+250101) ⟨T,[],h⟩)) (evC (callX E X (N+250101)) 29 (N+250101) none R_purserref16_Encode_0))=some (.tup [.slice a2 (enR ops).1.length c2 e2,.int .i64 ((enR ops).2:Int)],h')∧Nw h h' (enR ops).1 a2 c2 e2:=by
    intro T I
    unfold enR
    rcases rq_or ops with okv | ⟨j,o,ho,vo,hb⟩
    · rw [if_pos (List.all_eq_true.2 okv)]
      obtain ⟨T',h',rr,J⟩:=loop_go (f:=evC (callX E X (N+250101)) 29 (N+250101) none L_purserref16_Encode_0) (DeI (.slice a ops.length c ez) ops h) ops.length (.exit 0) (by intro h; cases h) (DeI (.slice a ops.length c ez) ops h ops.length) (fun i T h' hi I => (de_step e x N _ ops hl ok hw hT a c ez h row i _ (List.getElem?_eq_getElem hi) T h' I).1 (okv _ (List.getElem_mem hi))) (fun T h' I => by
        obtain ⟨il,t0,⟨a4,c4,e4,t4,nw⟩,t5,kp⟩:=I
        have c0:decide ((ops.length:Int) < (ops.length:Int))=false:=decide_eq_false (by omega)
        obtain ⟨n,en⟩:∃ n,ops.length=n:=⟨_,rfl⟩
        obtain ⟨bl,ebl⟩:∃ n,(rB (ops.take ops.length)).length=n:=⟨_,rfl⟩
        rw [ebl] at t4
        rw [en] at t0 t5 c0
        exact ⟨_,h',by
          simp (config:={maxSteps:=2000000}) (disch:=first | omega | (simp only [List.length_cons,List.length_nil,List.length_append,List.length_drop]; omega)) only [L_purserref16_Encode_0,t0,t5,c0,↓s_len,x_lenS,x_lenS,↓s_len,↓s_ops,↓s_seq,↓s_cond,↓s_exit,↓s_nil,↓s_op,↓s_bindS,s_bindS,↓s_bindE,s_bindE,s_bindE_exit,s_norm,↓s_condV,s_condV,↓s_getp,↓s_mov,↓s_bin,s_same,b_lss,↓iteN_true,↓iteN_false,iteN_true,iteN_false,Nat.reduceEqDiff,decide_true,decide_false]
          exact rfl,⟨il,by rw [en]; exact (by (simp only [s_getp,Nat.reduceEqDiff,decide_false,iteN_false,t0]; try rfl)),⟨a4,c4,e4,by rw [ebl]; exact (by (simp only [s_getp,Nat.reduceEqDiff,decide_false,iteN_false,t4]; try rfl)),nw⟩,by rw [en]; exact (by (simp only [s_getp,Nat.reduceEqDiff,decide_false,iteN_false,t5]; try rfl)),kp⟩⟩) ops.length 0 (by omega) (N+250101) (by omega) T h I
      rw [rr]
      obtain ⟨il,t0,⟨a4,c4,e4,t4,nw⟩,t5,kp⟩:=J
      rw [List.take_length] at t4 nw
      refine ⟨h',a4,c4,e4,?_,nw⟩
      simp only
      generalize (rB ops).length=bl at *
      simp (config:={maxSteps:=2000000}) (disch:=first | omega | (simp only [List.length_cons,List.length_nil,List.length_append,List.length_drop]; omega)) only [R_purserref16_Encode_0,t4,Int.cast_ofNat_Int,s_res0,↓s_ops,↓s_seq,↓s_ret,↓s_nil,↓s_op,↓s_bindS,s_bindS,↓s_bindE,s_bindE,s_norm,s_block_exit,↓s_getp,↓s_con,↓s_mov,s_end,s_res0,s_res1,s_tup2,↓iteN_true,↓iteN_false,iteN_true,iteN_false,Nat.reduceEqDiff,decide_true,decide_false,if_true]
      try rfl
    · rw [if_neg (fun h => by have:=List.all_eq_true.1 h o (List.mem_of_getElem? ho); rw [vo] at this; cases this)]
      have hj:j < ops.length:=(List.getElem?_eq_some_iff.1 ho).1
      obtain ⟨T',h',rr,u2,u3,k⟩:=loop_go (f:=evC (callX E X (N+250101)) 29 (N+250101) none L_purserref16_Encode_0) (DeI (.slice a ops.length c ez) ops h) j .ret (by intro h; cases h) (fun T' h' => evO T' (.t 2)=.slice none 0 (some 0) 0∧evO T' (.t 3)=.int .i64 160∧Kp h h') (fun i T h' hi I => (de_step e x N _ ops hl ok hw hT a c ez h row i _ (List.getElem?_eq_getElem (by omega)) T h' I).1 (hb i _ hi (List.getElem?_eq_getElem (by omega)))) (fun T h' I => (de_step e x N _ ops hl ok hw hT a c ez h row j o ho T h' I).2 vo) j 0 (by omega) (N+250101) (by omega) T h I
      rw [rr]
      refine ⟨h',none,some 0,0,?_,⟨k,.nil _,fun _ _ e => by cases e⟩⟩
      simp (config:={maxSteps:=2000000}) (disch:=first | omega | (simp only [List.length_cons,List.length_nil,List.length_append,List.length_drop]; omega)) only [u2,u3,List.length_nil,Int.cast_ofNat_Int,s_res0,s_bindE_ret,s_block_ret,s_end,s_res0,s_res1,s_tup2]
      try rfl
  obtain ⟨R,eR⟩:∃ R,R_purserref16_Encode_0=R:=⟨_,rfl⟩
  obtain ⟨Lo,eL⟩:∃ R,L_purserref16_Encode_0=R:=⟨_,rfl⟩
  rw [eR,eL] at fin ⊢
  have l0:(rB (ops.take 0)).length=0:=rfl
  obtain ⟨n,en⟩:∃ n,ops.length=n:=⟨_,rfl⟩
  rw [en] at ⊢
  simp (config:={maxSteps:=2000000}) (disch:=first | omega | (simp only [List.length_cons,List.length_nil,List.length_append,List.length_drop]; omega)) only [↓l_loop,↓l_succ,↓s_ops,↓s_seq,↓s_block,↓s_nil,↓s_op,↓s_bindS,s_bindS,↓s_bindE,s_bindE,s_norm,↓s_con,↓s_list0,↓s_list1,↓s_mov]
  exact fin _ ⟨Nat.zero_le _,by rw [en]; exact (by (simp only [s_getp,Nat.reduceEqDiff,decide_false,iteN_false]; try rfl)),⟨none,some 0,0,by rw [l0]; exact (by (simp only [s_getp,Nat.reduceEqDiff,decide_false,decide_true,iteN_false,iteN_true]; try rfl)),⟨Kp.refl _,.nil _,fun _ _ e => by cases e⟩⟩,(by (simp only [s_getp,decide_true,iteN_true]; try rfl)),Kp.refl _⟩
structure EnRg (E:Nat→Option Fn):Prop where
  rf:EnRf E
  nm:E k_purserref01_Number=some f_purserref01_Number
structure NoRg (X:Orc):Prop where
  rf:NoRf X
  nm:∀ a h,X (.fn k_purserref01_Number) a h=none
theorem numV_snoc (a:List Nat) (b:Nat):numV (a++[b])=numV a+b * 256 ^ a.length:=by
  induction a with
  | nil => show 0 * 256+b=0+b * 1; omega
  | cons x r ih =>
    show numV (r++[b]) * 256+x=(numV r * 256+x)+b * 256 ^ (r.length+1)
    rw [ih,Nat.pow_succ,Nat.add_mul,← Nat.mul_assoc]; omega
theorem takeD (l:List Nat) (i:Nat) (h:i < l.length):l.take (i+1)=l.take i++[l.getD i 0]:=by
  rw [List.take_add_one,List.getElem?_eq_getElem h,List.getD_eq_getElem?_getD,List.getElem?_eq_getElem h]; rfl
structure RNI (a:Option (Nat × Nat)) (c:Option Nat) (ez:Nat) (l:List Nat) (h0:H) (i:Nat) (T:Tr V) (h:H):Prop where
  il:i≤l.length
  t0:evO T (.t 0)=.slice a l.length c ez
  t3:evO T (.t 3)=.int .u64 (numV (l.take i):Nat)
  t4:evO T (.t 4)=.int .i64 (i:Int)
  hh:h=h0
theorem rnumber_go (e:EnRg E) (x:NoRg X) (N:Nat) (a:Option (Nat × Nat)) (c:Option Nat) (ez:Nat) (l:List Nat) (bl:byt l=true) (hl:l.length≤8) (h:H) (src:SrcH h a ez l) :
    callX E X (N+20) (.fn k_purserref01_Number) [.slice a l.length c ez] h=some (.int .u64 (numV l:Nat),h):=by
  rw [x_cfn e.nm _ _ (Nat.le_of_ble_eq_true rfl) (x.nm _ _)]
  have fin:∀ T,RNI a c ez l h 0 T h→fnEnd [.tmp 2] (bindE (blockE 0 (loopN (evC (callX E X (N+19)) 22 (N+19) none L_purserref01_Number_0) (N+19) ⟨T,[],h⟩)) (evC (callX E X (N+19)) 22 (N+19) none R_purserref01_Number_0))=some (.int .u64 (numV l:Nat),h):=by
    intro T I
    obtain ⟨T',h',r,t3,hh⟩:=loop_go (f:=evC (callX E X (N+19)) 22 (N+19) none L_purserref01_Number_0) (RNI a c ez l h) l.length (.exit 0) (by intro h; cases h) (fun T h' => evO T (.t 3)=.int .u64 (numV l:Nat)∧h'=h) (fun i T h' hi I => by
      obtain ⟨_,t0,t3,t4,hh⟩:=I
      subst hh
      obtain ⟨bi,off,vs,md,rfl,rfl,h3,h4,h5,h6⟩:=src.resolve_left (fun h => by rw [h] at hi; cases hi)
      have c0:decide ((i:Int) < (l.length:Int))=true:=decide_eq_true (by omega)
      have wi:wr .i64 ((i:Int)+1)=((i+1:Nat):Int):=by rw [wr_i64 (by omega)]; omega
      have ix:idx (i:Int) l.length=some i:=idxn hi
      have cg:vs[off+i]?=some (.int .u8 (l.getD i 0:Nat)):=by
        have:((vs.drop off).take l.length)[i]?=(ofI .u8 l)[i]?:=by rw [h6]
        rw [List.getElem?_take_of_lt hi,List.getElem?_drop,ofI_get _ _ _ hi] at this
        exact this
      have r1:=power_go e.rf.pw x.rf.pw (N+9) i (by omega) h'
      have ns:numV (l.take (i+1))=numV (l.take i)+l.getD i 0 * 256 ^ i:=by
        rw [takeD l i hi,numV_snoc,List.length_take,Nat.min_eq_left (by omega)]
      have nl:=numV_lt8 (l.take (i+1)) (byt_take bl _) (by rw [List.length_take]; omega)
      have i1:i+1≤l.length:=hi
      obtain ⟨n2,en2⟩:∃ n,numV (l.take (i+1))=n:=⟨_,rfl⟩
      rw [en2] at ns nl
      have yl:l.getD i 0 < 256:=by
        rw [List.getD_eq_getElem?_getD,List.getElem?_eq_getElem hi]; exact byt_iff.1 bl _ (List.getElem_mem hi)
      generalize numV (l.take i)=n at *
      generalize l.getD i 0=y at *
      generalize 256 ^ i=p at *
      obtain ⟨yp,eyp⟩:∃ z,y * p=z:=⟨_,rfl⟩
      rw [eyp] at ns
      have wy:wr .u64 (y:Int)=(y:Int):=u64n _ (by omega)
      have w1:wr .u64 ((y:Int) * (p:Int))=(yp:Int):=by rw [← eyp,← Int.natCast_mul,u64n _ (by omega)]
      have w2:wr .u64 ((n:Int)+(yp:Int))=(n2:Int):=by rw [show (n:Int)+(yp:Int)=((n2:Nat):Int) by omega]; exact u64n _ nl
      refine ⟨_,h',by
        simp (config:={maxSteps:=2000000}) (disch:=first | omega | (simp only [List.length_cons,List.length_nil,List.length_append,List.length_drop]; omega)) only [L_purserref01_Number_0,t0,t3,t4,h4,cg,c0,wi,ix,r1,wy,w1,w2,vbeq_int,↓s_len,x_lenS,↓x_conv,x_convV,Nat.mul_one,↓s_evD,↓s_dnil,↓s_dL,↓s_dRj,↓s_dB,↓s_bindD,s_bindD,s_finDx,s_addP0,↓s_bump0,s_ok0,↓s_ok1,s_okR0,↓s_okR1,↓s_okE,s_okE,s_okE1,s_nth0,Bool.and_self,↓s_load,m_load,↓m_load1,m_load1,↓x_idxS,x_idxSE,x_addrE,x_lenS,↓s_len,↓s_skip,↓s_ops,↓s_dops,↓s_seq,↓s_cond,↓s_block,↓s_nil,↓s_op,↓s_bindS,s_bindS,↓s_bindE,s_bindE,s_norm,↓s_condV,s_condV,s_block_normal,↓s_getp,↓s_con,↓s_os0,↓s_os1,↓s_mov,↓s_bin,↓s_call,s_same,b_lss,b_add,b_mul,↓iteN_true,↓iteN_false,iteN_true,iteN_false,Nat.reduceEqDiff,decide_true,decide_false]
        exact rfl,⟨i1,(by (simp only [s_getp,Nat.reduceEqDiff,decide_false,iteN_false,t0]; try rfl)),by rw [en2]; exact (by (simp only [s_getp,Nat.reduceEqDiff,decide_false,decide_true,iteN_false,iteN_true]; try rfl)),(by (simp only [s_getp,decide_true,iteN_true]; try rfl)),rfl⟩⟩) (fun T h' I => by
      obtain ⟨il,t0,t3,t4,hh⟩:=I
      rw [List.take_length] at t3
      have c0:decide ((l.length:Int) < (l.length:Int))=false:=decide_eq_false (by omega)
      refine ⟨_,_,by
        simp (config:={maxSteps:=2000000}) (disch:=first | omega | (simp only [List.length_cons,List.length_nil,List.length_append,List.length_drop]; omega)) only [L_purserref01_Number_0,t0,t4,c0,↓s_len,x_lenS,x_lenS,↓s_len,↓s_ops,↓s_seq,↓s_cond,↓s_exit,↓s_nil,↓s_op,↓s_bindS,s_bindS,↓s_bindE,s_bindE,s_bindE_exit,s_norm,↓s_condV,s_condV,↓s_getp,↓s_mov,↓s_bin,s_same,b_lss,↓iteN_true,↓iteN_false,iteN_true,iteN_false,Nat.reduceEqDiff,decide_true,decide_false]
        exact rfl,(by (simp only [s_getp,Nat.reduceEqDiff,decide_false,iteN_false,t3]; try rfl)),hh⟩) l.length 0 (by omega) (N+19) (by omega) T h I
    rw [r,hh]
    simp (config:={maxSteps:=2000000}) (disch:=first | omega | (simp only [List.length_cons,List.length_nil,List.length_append,List.length_drop]; omega)) only [R_purserref01_Number_0,t3,s_res0,↓s_ops,↓s_seq,↓s_ret,↓s_nil,↓s_op,↓s_bindS,s_bindS,↓s_bindE,s_bindE,s_norm,s_block_exit,↓s_getp,↓s_mov,s_end,s_res0,s_res1,s_tup1,↓iteN_true,iteN_true,decide_true,if_true]
  obtain ⟨R,eR⟩:∃ R,R_purserref01_Number_0=R:=⟨_,rfl⟩
  obtain ⟨Lo,eL⟩:∃ R,L_purserref01_Number_0=R:=⟨_,rfl⟩
  rw [eR,eL] at fin ⊢
  simp (config:={maxSteps:=2000000}) (disch:=first | omega | (simp only [List.length_cons,List.length_nil,List.length_append,List.length_drop]; omega)) only [↓l_loop,↓l_succ,↓s_ops,↓s_seq,↓s_block,↓s_nil,↓s_op,↓s_bindS,s_bindS,↓s_bindE,s_bindE,s_norm,↓s_con,↓s_list0,↓s_list1,↓s_mov]
  exact fin _ ⟨by omega,(by (simp only [s_getp,Nat.reduceEqDiff,decide_false,iteN_false]; try rfl)),by rw [List.take_zero]; show _=V.int .u64 ((0:Nat):Int); exact (by (simp only [s_getp,Nat.reduceEqDiff,decide_false,decide_true,iteN_false,iteN_true]; try rfl)),(by (simp only [s_getp,decide_true,iteN_true]; try rfl)),rfl⟩
theorem src_atR {h:H} {a:Option (Nat × Nat)} {l:List Nat} {bi off:Nat} {vs:List V} (h6:(vs.drop off).take l.length=ofI .u8 l) (i:Nat) (hi:i < l.length):vs[off+i]?=some (.int .u8 (l.getD i 0:Nat)):=by
  have:((vs.drop off).take l.length)[i]?=(ofI .u8 l)[i]?:=by rw [h6]
  rw [List.getElem?_take_of_lt hi,List.getElem?_drop,ofI_get _ _ _ hi] at this
  exact this
theorem getD_dropR (l:List Nat) (n i:Nat):(l.drop n).getD i 0=l.getD (n+i) 0:=by
  rw [List.getD_eq_getElem?_getD,List.getD_eq_getElem?_getD,List.getElem?_drop]
theorem vb_str (l:List Nat):(V.str l).beq (V.str l)=true:=by
  unfold V.beq; rw [strEq_dec]; simp
def ddR (E:Nat→Option Fn) (X:Orc) (N:Nat) (h:H) (v:V) (at_:Nat) (h':H):Option (Rq × Nat)→Prop
  | none => callX E X N (.fn k_purserref16_Decode) [v,.int .i64 (at_:Int)] h=some (.tup [.agg [.int .i64 0,.slice none 0 (some 0) 0],.int .i64 0,.int .i64 160],h')
  | some (o,k) => ∃ a2 c2 e2,callX E X N (.fn k_purserref16_Decode) [v,.int .i64 (at_:Int)] h=some (.tup [.agg [.int .i64 o.kind,.slice a2 o.l.length c2 e2],.int .i64 ((at_+k:Nat):Int),.int .i64 0],h')∧Wb h' o.l a2 c2 e2∧∀ q z,a2=some (q,z)→h.next < q
theorem ddecode_bad (ed:E k_purserref16_Decode=some f_purserref16_Decode) (xd:∀ a h,X (.fn k_purserref16_Decode) a h=none) (N:Nat) (n:Nat) (hn:n≤1000000) (at_:Int) (hat:at_ < 0∨(n:Int) < at_∨(n:Int) < at_+13) (a:Option (Nat × Nat)) (c:Option Nat) (ez:Nat) (h:H) :
    ∃ h',Kp h h'∧callX E X (N+2) (.fn k_purserref16_Decode) [.slice a n c ez,.int .i64 at_] h=some (.tup [.agg [.int .i64 0,.slice none 0 (some 0) 0],.int .i64 0,.int .i64 160],h'):=by
  obtain ⟨hA,eA⟩:∃ hA,h.new (.cells [.int .i64 0,.slice none 0 (some 0) 0] .rw)=hA:=⟨_,rfl⟩
  have kA:Kp h hA:=by rw [← eA]; exact Kp.new _ _
  have gA:hA.get h.next=some (.cells [.int .i64 0,.slice none 0 (some 0) 0] .rw):=by rw [← eA]; exact h_new_same _ _
  obtain ⟨hF,eF⟩:∃ hF,hA.put h.next (.cells [.int .i64 0,.slice none 0 (some 0) 0] .rw)=hF:=⟨_,rfl⟩
  have kF:Kp h hF:=by rw [← eF]; exact kA.put _ (Nat.le_refl _)
  have gF:hF.get h.next=some (.cells [.int .i64 0,.slice none 0 (some 0) 0] .rw):=by rw [← eF]; exact h_put_same _ _ _
  refine ⟨hF,kF,?_⟩
  rw [x_cfn ed _ _ (Nat.le_of_ble_eq_true rfl) (xd _ _)]
  by_cases h0:at_ < 0
  · have c0:decide (at_ < 0)=true:=decide_eq_true h0
    simp (config:={maxSteps:=2000000}) (disch:=first | omega | (simp only [List.length_cons,List.length_nil,List.length_append,List.length_drop]; omega)) only [eA,gA,c0,eF,gF,st2i,ld2,x_build,x_aggO,x_P0,x_fill0,Nat.zero_add,m_load,↓m_st,m_stE,m_storeE,w_zero,↓s_alloc,↓x_P0,x_fill0,List.length_cons,List.length_nil,List.drop_succ_cons,List.drop_nil,Nat.reduceAdd,s_resc,s_consR,s_res0,↓s_ops,↓s_seq,↓s_cond,↓s_ret,↓s_nil,↓s_op,↓s_opg,↓s_wanted',↓s_wantV,s_wantV,beq_false,↓s_bindS,s_bindS,↓s_bindE,s_bindE,s_bindE_ret,s_norm,↓s_condV,s_condV,↓s_getp,↓s_getp0,↓s_get,↓s_con,↓s_list0,↓s_list1,↓s_mov,↓s_pick,↓s_pickE,s_pickE,↓s_bin,s_same,b_lss,s_end,s_res0,s_res1,s_tup2,↓iteN_true,↓iteN_false,iteN_true,iteN_false,Nat.zero_add,List.append_nil,Nat.reduceEqDiff,decide_true,decide_false,Bool.not_true]
    try rfl
  · have c0:decide (at_ < 0)=false:=decide_eq_false h0
    by_cases h1:(n:Int) < at_
    · have c1:decide ((n:Int) < at_)=true:=decide_eq_true h1
      simp (config:={maxSteps:=2000000}) (disch:=first | omega | (simp only [List.length_cons,List.length_nil,List.length_append,List.length_drop]; omega)) only [eA,gA,c0,c1,eF,gF,st2i,ld2,x_build,x_aggO,x_P0,x_fill0,↓s_len,x_lenS,Nat.zero_add,m_load,↓m_st,m_stE,m_storeE,w_zero,↓s_alloc,x_lenS,↓s_len,↓x_P0,x_fill0,List.length_cons,List.length_nil,List.drop_succ_cons,List.drop_nil,Nat.reduceAdd,s_resc,s_consR,s_res0,↓s_ops,↓s_seq,↓s_cond,↓s_ret,↓s_nil,↓s_op,↓s_opg,↓s_wanted',↓s_wantV,s_wantV,beq_false,↓s_bindS,s_bindS,↓s_bindE,s_bindE,s_bindE_ret,s_norm,↓s_condV,s_condV,↓s_getp,↓s_getp0,↓s_get,↓s_con,↓s_list0,↓s_list1,↓s_mov,↓s_pick,↓s_pickE,s_pickE,↓s_bin,s_same,b_lss,b_gtr,s_end,s_res0,s_res1,s_tup2,↓iteN_true,↓iteN_false,iteN_true,iteN_false,Nat.zero_add,List.append_nil,Nat.reduceEqDiff,decide_true,decide_false,Bool.not_true,beq_self_eq_true]
      try rfl
    · have c1:decide ((n:Int) < at_)=false:=decide_eq_false h1
      have w1:wr .i64 ((n:Int) - at_)=(n:Int) - at_:=wr_i64 (by omega)
      have c2:decide ((n:Int) - at_ < 13)=true:=decide_eq_true (by omega)
      simp (config:={maxSteps:=2000000}) (disch:=first | omega | (simp only [List.length_cons,List.length_nil,List.length_append,List.length_drop]; omega)) only [eA,gA,c0,c1,w1,c2,eF,gF,st2i,ld2,x_build,x_aggO,x_P0,x_fill0,↓s_len,x_lenS,Nat.zero_add,m_load,↓m_st,m_stE,m_storeE,w_zero,↓s_alloc,x_lenS,↓s_len,↓x_P0,x_fill0,List.length_cons,List.length_nil,List.drop_succ_cons,List.drop_nil,Nat.reduceAdd,s_resc,s_consR,s_res0,↓s_ops,↓s_seq,↓s_cond,↓s_ret,↓s_nil,↓s_op,↓s_opg,↓s_wanted',↓s_wantV,s_wantV,↓s_bindS,s_bindS,↓s_bindE,s_bindE,s_bindE_ret,s_norm,↓s_condV,s_condV,↓s_getp,↓s_getp0,↓s_get,↓s_con,↓s_list0,↓s_list1,↓s_mov,↓s_pick,↓s_pickE,s_pickE,↓s_bin,s_same,b_lss,b_gtr,b_sub,s_end,s_res0,s_res1,s_tup2,↓iteN_true,↓iteN_false,iteN_true,iteN_false,Nat.zero_add,List.append_nil,Nat.reduceEqDiff,decide_true,decide_false,beq_self_eq_true]
      try rfl
theorem dc_is (b:List Nat) (bb:byt b=true) (h13:13≤b.length) (n:Nat) (en:numV ((b.drop 1).take 4)=n):dcV b=if 200000 < n∨b.length < 13+n then none else if rqB ⟨(b.getD 0 0:Nat),(b.drop 9).take n⟩=b.take (13+n) then some (⟨(b.getD 0 0:Nat),(b.drop 9).take n⟩,13+n) else none:=by
  by_cases c1:200000 < n∨b.length < 13+n
  · rw [if_pos c1]
    unfold dcV
    rw [if_neg (by omega),en]
    by_cases c2:barE (b.take 9)≠0
    · rw [if_pos c2]
    · rw [if_neg c2]
      by_cases c3:200000 < n
      · rw [if_pos c3]
      · rw [if_neg c3,if_pos (by omega)]
  · rw [if_neg c1]
    have ll:((b.drop 9).take n).length=n:=by rw [List.length_take,List.length_drop]; omega
    have y0:b.getD 0 0 < 256:=bytD bb 0
    have rok:rqOk ⟨(b.getD 0 0:Nat),(b.drop 9).take n⟩=true:=by
      unfold rqOk
      simp only [Bool.and_eq_true,decide_eq_true_eq]
      exact ⟨⟨by omega,by omega⟩,by rw [ll]; omega⟩
    by_cases c2:rqB ⟨(b.getD 0 0:Nat),(b.drop 9).take n⟩=b.take (13+n)
    · rw [if_pos c2]
      have e:b=rqB ⟨(b.getD 0 0:Nat),(b.drop 9).take n⟩++b.drop (13+n):=by rw [c2,List.take_append_drop]
      have d:=dc_ok ⟨(b.getD 0 0:Nat),(b.drop 9).take n⟩ rok (fun l => onV_lt 0 l) (b.drop (13+n))
      rw [← e,rqB_len] at d
      simp only [ll] at d
      exact d
    · rw [if_neg c2]
      cases hd:dcV b with
      | none => rfl
      | some z =>
        obtain ⟨o,k⟩:=z
        exfalso
        obtain ⟨f1,f2,f3,f4,f5⟩:=dc_of b bb o k hd
        unfold dcV at hd
        rw [if_neg (by omega)] at hd
        by_cases d2:barE (b.take 9)≠0
        · rw [if_pos d2] at hd; cases hd
        rw [if_neg d2,en,if_neg (by omega),if_neg (by omega)] at hd
        by_cases d5:barE ((b.drop 9).take (n+4))≠0
        · rw [if_pos d5] at hd; cases hd
        rw [if_neg d5] at hd
        simp only [Option.some.injEq,Prod.mk.injEq] at hd
        obtain ⟨rfl,rfl⟩:=hd
        exact c2 f3.symm
set_option maxRecDepth 100000 in
set_option maxHeartbeats 1000000 in
theorem ddecode_ok (ed:E k_purserref16_Decode=some f_purserref16_Decode) (xd:∀ a h,X (.fn k_purserref16_Decode) a h=none) (e:EnRo E) (x:NoRo X) (eg:EnRg E) (xg:NoRg X) (N:Nat) (s:List Nat) (bs:byt s=true) (hs:s.length≤250000) (at_:Nat) (hat:at_+13≤s.length) (a:Option (Nat × Nat)) (h:H) (src:SrcH h a 1 s) :
    ∃ h',Kp h h'∧ddR E X (N+250103) h (.slice a s.length none 1) at_ h' (dcV (s.drop at_)):=by
  obtain ⟨b,eb⟩:∃ b,s.drop at_=b:=⟨_,rfl⟩
  have lb:b.length=s.length - at_:=by rw [← eb,List.length_drop]
  have bb:byt b=true:=by rw [← eb]; exact byt_drop bs _
  rw [eb]
  obtain ⟨n,en⟩:∃ n,numV ((b.drop 1).take 4)=n:=⟨_,rfl⟩
  rw [dc_is b bb (by omega) n en]
  obtain ⟨hA,eA⟩:∃ hA,h.new (.cells [.int .i64 0,.slice none 0 (some 0) 0] .rw)=hA:=⟨_,rfl⟩
  have kA:Kp h hA:=by rw [← eA]; exact Kp.new _ _
  have nA:hA.next=h.next+1:=by rw [← eA]; rfl
  have gA:hA.get h.next=some (.cells [.int .i64 0,.slice none 0 (some 0) 0] .rw):=by rw [← eA]; exact h_new_same _ _
  have c0:decide ((at_:Int) < 0)=false:=decide_eq_false (by omega)
  have c1:decide ((s.length:Int) < (at_:Int))=false:=decide_eq_false (by omega)
  have w1:wr .i64 ((s.length:Int) - (at_:Int))=((b.length:Nat):Int):=by rw [wr_i64 (by omega)]; omega
  have c2:decide ((b.length:Int) < 13)=false:=decide_eq_false (by omega)
  have w2:wr .i64 ((at_:Int)+1)=((at_+1:Nat):Int):=by rw [wr_i64 (by omega)]; omega
  have w3:wr .i64 ((at_:Int)+5)=((at_+5:Nat):Int):=by rw [wr_i64 (by omega)]; omega
  have sv1:slcV 1 (some (.int .i64 ((at_+1:Nat):Int))) (some (.int .i64 ((at_+5:Nat):Int))) none (.slice a s.length none 1)=some (.slice (upA a (at_+1)) 4 none 1):=by
    rw [slcV_lhA _ _ _ _ _ _ (by omega) (by omega),show at_+5 - (at_+1)=4 by omega]
  have e4:(s.drop (at_+1)).take 4=(b.drop 1).take 4:=by rw [← eb,List.drop_drop]
  have l4:((b.drop 1).take 4).length=4:=by rw [List.length_take,List.length_drop]; omega
  have rN:=rnumber_go eg xg (N+250082) (upA a (at_+1)) none 1 ((b.drop 1).take 4) (byt_take (byt_drop bb _) _) (by omega) hA (by rw [← e4]; exact ((src.mono kA).drop _).take _)
  rw [l4,en] at rN
  replace rN:callX E X (N+250102) (.fn k_purserref01_Number) [.slice (upA a (at_+1)) 4 none 1] hA=_:=rN
  have nl:n < 4294967296:=by have:=numV_lt ((b.drop 1).take 4) (byt_take (byt_drop bb _) _); rw [l4,en] at this; exact this
  obtain ⟨hF,eF⟩:∃ hF,hA.put h.next (.cells [.int .i64 0,.slice none 0 (some 0) 0] .rw)=hF:=⟨_,rfl⟩
  have kF:Kp h hF:=by rw [← eF]; exact kA.put _ (Nat.le_refl _)
  have gF:hF.get h.next=some (.cells [.int .i64 0,.slice none 0 (some 0) 0] .rw):=by rw [← eF]; exact h_put_same _ _ _
  have w4:wr .i64 ((b.length:Int) - 13)=((b.length - 13:Nat):Int):=by rw [wr_i64 (by omega)]; omega
  have w5:wr .u64 ((b.length - 13:Nat):Int)=((b.length - 13:Nat):Int):=u64n _ (by omega)
  by_cases h1:200000 < n∨b.length < 13+n
  · rw [if_pos h1]
    refine ⟨hF,kF,?_⟩
    show callX E X (N+250103) _ _ _=_
    rw [x_cfn ed _ _ (Nat.le_of_ble_eq_true rfl) (xd _ _)]
    by_cases h2:200000 < n
    · have c3:decide ((200000:Int) < (n:Int))=true:=decide_eq_true (by omega)
      generalize s.length=sl at *
      generalize b.length=bl at *
      generalize upA a (at_+1)=ua at *
      simp (config:={maxSteps:=2000000}) (disch:=first | omega | (simp only [List.length_cons,List.length_nil,List.length_append,List.length_drop]; omega)) only [eA,gA,c0,c1,w1,c2,w2,w3,sv1,rN,c3,eF,gF,st2i,ld2,x_build,x_aggO,x_P0,x_fill0,↓x_slcS,x_M0,x_M1,↓s_len,x_lenS,Nat.zero_add,m_load,↓m_st,m_stE,m_storeE,w_zero,↓s_alloc,x_lenS,↓s_len,↓x_P0,x_fill0,List.length_cons,List.length_nil,List.drop_succ_cons,List.drop_nil,Nat.reduceAdd,s_resc,s_consR,s_res0,↓s_skip,↓s_ops,↓s_seq,↓s_cond,↓s_ret,↓s_nil,↓s_op,↓s_opg,↓s_wanted',↓s_wantV,s_wantV,beq_false,↓s_bindS,s_bindS,↓s_bindE,s_bindE,s_bindE_ret,s_norm,↓s_condV,s_condV,↓s_getp,↓s_getp0,↓s_get,↓s_con,↓s_os0,↓s_os1,↓s_list0,↓s_list1,↓s_mov,↓s_pick,↓s_pickE,s_pickE,↓s_bin,↓s_call,s_same,b_lss,b_gtr,b_add,b_sub,s_end,s_res0,s_res1,s_tup2,↓iteN_true,↓iteN_false,iteN_true,iteN_false,Nat.zero_add,List.append_nil,Nat.reduceEqDiff,decide_true,decide_false,Bool.not_true,beq_self_eq_true]
      try rfl
    · have c3:decide ((200000:Int) < (n:Int))=false:=decide_eq_false (by omega)
      have c4:decide (((b.length - 13:Nat):Int) < (n:Int))=true:=decide_eq_true (by omega)
      generalize b.length - 13=bl13 at *
      generalize s.length=sl at *
      generalize b.length=bl at *
      generalize upA a (at_+1)=ua at *
      simp (config:={maxSteps:=2000000}) (disch:=first | omega | (simp only [List.length_cons,List.length_nil,List.length_append,List.length_drop]; omega)) only [eA,gA,c0,c1,w1,c2,w2,w3,sv1,rN,c3,w4,w5,c4,eF,gF,st2i,ld2,x_build,x_aggO,x_P0,x_fill0,↓x_slcS,x_M0,x_M1,↓s_len,x_lenS,↓x_conv,x_convV,Nat.zero_add,m_load,↓m_st,m_stE,m_storeE,w_zero,↓s_alloc,x_lenS,↓s_len,↓x_P0,x_fill0,List.length_cons,List.length_nil,List.drop_succ_cons,List.drop_nil,Nat.reduceAdd,s_resc,s_consR,s_res0,↓s_skip,↓s_ops,↓s_seq,↓s_cond,↓s_ret,↓s_nil,↓s_op,↓s_opg,↓s_wanted',↓s_wantV,s_wantV,↓s_bindS,s_bindS,↓s_bindE,s_bindE,s_bindE_ret,s_norm,↓s_condV,s_condV,↓s_getp,↓s_getp0,↓s_get,↓s_con,↓s_os0,↓s_os1,↓s_list0,↓s_list1,↓s_mov,↓s_pick,↓s_pickE,s_pickE,↓s_bin,↓s_call,s_same,b_lss,b_gtr,b_add,b_sub,s_end,s_res0,s_res1,s_tup2,↓iteN_true,↓iteN_false,iteN_true,iteN_false,Nat.zero_add,List.append_nil,Nat.reduceEqDiff,decide_true,decide_false,beq_self_eq_true]
      try rfl
  · rw [if_neg h1]
    have c3:decide ((200000:Int) < (n:Int))=false:=decide_eq_false (by omega)
    have c4:decide (((b.length - 13:Nat):Int) < (n:Int))=false:=decide_eq_false (by omega)
    have hn0:s≠[]:=fun h => by rw [h] at hat; simp at hat
    rcases src with s0 | ⟨bi,off,vs,md,rfl,_,hbi,gs,hvl,hvs⟩
    · exact absurd s0 hn0
    have src:SrcH h (some (bi,off)) 1 s:=.inr ⟨bi,off,vs,md,rfl,rfl,hbi,gs,hvl,hvs⟩
    have cb:=src_atR (h:=h) (a:=none) (bi:=bi) hvs at_ (by omega)
    have e0:s.getD at_ 0=b.getD 0 0:=by rw [← eb,getD_dropR,Nat.add_zero]
    rw [e0] at cb
    have y0:b.getD 0 0 < 256:=bytD bb 0
    obtain ⟨y,ey⟩:∃ y,b.getD 0 0=y:=⟨_,rfl⟩
    rw [ey] at cb y0 ⊢
    obtain ⟨l,el⟩:∃ l,(b.drop 9).take n=l:=⟨_,rfl⟩
    have ll:l.length=n:=by rw [← el,List.length_take,List.length_drop]; omega
    have bl:byt l=true:=by rw [← el]; exact byt_take (byt_drop bb _) _
    rw [el]
    have w6:wr .i64 ((at_:Int)+13)=((at_+13:Nat):Int):=by rw [wr_i64 (by omega)]; omega
    have w7:wr .i64 (n:Int)=(n:Int):=wr_i64 (by omega)
    have w8:wr .i64 (((at_+13:Nat):Int)+(n:Int))=((at_+(13+n):Nat):Int):=by rw [wr_i64 (by omega)]; omega
    have w9:wr .i64 (y:Int)=(y:Int):=wr_i64 (by omega)
    have w10:wr .i64 ((at_:Int)+9)=((at_+9:Nat):Int):=by rw [wr_i64 (by omega)]; omega
    have w11:wr .i64 (((at_+(13+n):Nat):Int) - 4)=((at_+9+n:Nat):Int):=by rw [wr_i64 (by omega)]; omega
    obtain ⟨A9,eA9⟩:∃ z,at_+9+n=z:=⟨_,rfl⟩
    rw [eA9] at w11
    have ix:idx (at_:Int) s.length=some at_:=idxn (by omega)
    have sv2:slcV 1 (some (.int .i64 ((at_+9:Nat):Int))) (some (.int .i64 (A9:Int))) none (.slice (some (bi,off)) s.length none 1)=some (.slice (upA (some (bi,off)) (at_+9)) n none 1):=by
      rw [slcV_lhA _ _ _ _ _ _ (by omega) (by omega),← eA9,Nat.add_sub_cancel_left]
    have e9:(s.drop (at_+9)).take n=l:=by rw [← el,← eb,List.drop_drop]
    have kb:Kp hA (bump 1 hA):=⟨by show hA.next≤hA.next+1; omega,fun _ _ => rfl⟩
    have nb:(bump 1 hA).next=hA.next+1:=rfl
    obtain ⟨a1,c1',z1,h2,r2,nw2⟩:=twinv_go e.cm.rf.tw x.cm.rf.tw (N+250101) l (by omega) (upA (some (bi,off)) (at_+9)) none 1 (bump 1 hA) (by rw [← e9]; exact ((src.mono (kA.trans kb)).drop _).take _)
    rw [ll] at r2
    have k2:Kp hA h2:=kb.trans nw2.kp
    have kn2:=nw2.kp.1
    have gbA:hA.get bi=some (.cells vs md):=by rw [kA.2 _ hbi,gs]
    have gb2:h2.get bi=some (.cells vs md):=by rw [k2.2 _ (by omega),kA.2 _ hbi,gs]
    have vb8:(V.int .u8 (y:Int)).beq (V.int .u8 (y:Int))=true:=by unfold V.beq; rw [kindEq_self,ieq_dec]; simp
    obtain ⟨h3,eh3⟩:∃ h3,(h2.put hA.next (.cells [.int .i64 0,.slice none 0 (some 0) 0] .rw)).put hA.next (.cells [.int .i64 (y:Int),.slice a1 n c1' z1] .rw)=h3:=⟨_,rfl⟩
    have k3:Kp hA h3:=by rw [← eh3]; exact (k2.put _ (Nat.le_refl _)).put _ (Nat.le_refl _)
    have n3:h3.next=h2.next:=by rw [← eh3]; rfl
    have g3:h3.get hA.next=some (.cells [.int .i64 (y:Int),.slice a1 n c1' z1] .rw):=by rw [← eh3]; exact h_put_same _ _ _
    have ge1:∀ q z,a1=some (q,z)→hA.next < q:=fun q z e => by have:=nw2.ge q z e; omega
    have wb3:Wb h3 l a1 c1' z1:=nw2.wb.mono (by omega) (fun q hq e => by rw [← eh3,h_put_ne _ _ (by have:=ge1 q 0 e; omega),h_put_ne _ _ (by have:=ge1 q 0 e; omega)])
    have rok:rqOk ⟨(y:Nat),l⟩=true:=by
      unfold rqOk
      simp only [Bool.and_eq_true,decide_eq_true_eq]
      exact ⟨⟨by omega,by omega⟩,by omega⟩
    obtain ⟨h4,a4,c4,z4,r4,nw4⟩:=done_go e.on x.on e.cm x.cm (N+1) ⟨(y:Nat),l⟩ rok ⟨by show (-9223372036854775808:Int)≤(y:Int); omega,by show (y:Int) < _; omega,bl⟩ (by show l.length≤_; omega) a1 c1' z1 h3 wb3.src
    rw [rqB_len] at r4
    simp only [ll] at r4
    have kn4:=nw4.kp.1
    have g4:h4.get hA.next=some (.cells [.int .i64 (y:Int),.slice a1 n c1' z1] .rw):=by rw [nw4.kp.2 _ (by omega),g3]
    have g4r:h4.get h.next=some (.cells [.int .i64 0,.slice none 0 (some 0) 0] .rw):=by rw [nw4.kp.2 _ (by omega),k3.2 _ (by omega),gA]
    have st4:=str_src nw4.wb.src (rqB_byt _ rok ⟨by show (-9223372036854775808:Int)≤(y:Int); omega,by show (y:Int) < _; omega,bl⟩) c4
    rw [rqB_len] at st4
    simp only [ll] at st4
    have ePar:(s.drop at_).take (13+n)=b.take (13+n):=by rw [eb]
    obtain ⟨AN,eAN⟩:∃ z,at_+(13+n)=z:=⟨_,rfl⟩
    rw [eAN] at w8 w11
    have sv3:slcV 1 (some (.int .i64 (at_:Int))) (some (.int .i64 (AN:Int))) none (.slice (some (bi,off)) s.length none 1)=some (.slice (upA (some (bi,off)) at_) (13+n) none 1):=by
      rw [slcV_lhA _ _ _ _ _ _ (by omega) (by omega),← eAN,Nat.add_sub_cancel_left]
    have lbt:(b.take (13+n)).length=13+n:=by rw [List.length_take]; omega
    have s3:=fun hh (k:Kp h hh) => str_src (((src.mono k).drop at_).take (13+n)) (byt_take (byt_drop bs _) _) none
    rw [ePar,lbt] at s3
    have s33:=s3 h3 (kA.trans k3)
    have s34:=s3 h4 (kA.trans (k3.trans nw4.kp))
    by_cases hq:rqB ⟨(y:Nat),l⟩=b.take (13+n)
    · rw [if_pos hq]
      have d1:decide (rqB ⟨(y:Nat),l⟩=b.take (13+n))=true:=decide_eq_true hq
      obtain ⟨h5,eh5⟩:∃ h5,h4.put h.next (.cells [.int .i64 (y:Int),.slice a1 n c1' z1] .rw)=h5:=⟨_,rfl⟩
      have g5:h5.get h.next=some (.cells [.int .i64 (y:Int),.slice a1 n c1' z1] .rw):=by rw [← eh5]; exact h_put_same _ _ _
      refine ⟨h5,by rw [← eh5]; exact (kA.trans (k3.trans nw4.kp)).put _ (Nat.le_refl _),a1,c1',z1,?_,?_,fun q z e => by have:=ge1 q z e; omega⟩
      · rw [x_cfn ed _ _ (Nat.le_of_ble_eq_true rfl) (xd _ _)]
        simp only [ll]
        rw [eAN]
        generalize rqB ⟨(y:Nat),l⟩=RB at *
        generalize b.take (13+n)=BT at *
        generalize b.length - 13=bl13 at *
        generalize s.length=sl at *
        generalize b.length=bl at *
        obtain ⟨ua,eua⟩:∃ u,upA (some (bi,off)) (at_+1)=u:=⟨_,rfl⟩
        obtain ⟨ub,eub⟩:∃ u,upA (some (bi,off)) (at_+9)=u:=⟨_,rfl⟩
        obtain ⟨uc,euc⟩:∃ u,upA (some (bi,off)) at_=u:=⟨_,rfl⟩
        rw [eua] at sv1 rN
        rw [eub] at sv2 r2
        rw [euc] at sv3 s33 s34
        simp (config:={maxSteps:=2000000}) (disch:=first | omega | (simp only [List.length_cons,List.length_nil,List.length_append,List.length_drop]; omega)) only [eA,c0,c1,w1,c2,w2,w3,sv1,rN,c3,w4,w5,c4,w6,w7,w8,w9,w10,w11,ix,gbA,gb2,cb,vb8,vb_str,sv2,r2,eh3,g3,r4,g4,g4r,st4,sv3,s33,s34,d1,eh5,g5,b_sneq,Bool.not_true,↓ns_b2s,st2i,ld2,x_build,x_aggO,x_P0,x_P1,x_fill0,x_fills,x_filli,↓x_slcS,x_M0,x_M1,↓s_len,x_lenS,↓x_conv,x_convV,Nat.zero_add,Nat.add_zero,Nat.mul_one,↓s_evD,↓s_dnil,↓s_dL,↓s_dR,↓s_dRj,↓s_dB,↓s_dAlloc,↓s_bindD,s_bindD,s_finDx,s_addP0,s_addP1,s_addB,s_lookP,↓s_bump0,↓s_bump_get,s_ok0,↓s_ok1,s_okR0,↓s_okR1,↓s_okE,s_okE,s_okE1,s_nth0,s_nthS,Nat.add_zero,Bool.and_self,↓h_put_get,↓s_load,m_load,↓m_load1,m_load1,↓m_st,m_stE,m_storeE,w_zero,w_succ,↓s_alloc,↓x_idxS,x_idxSE,x_addrE,x_lenS,↓s_len,↓x_P0,↓x_P1,x_fill0,x_filli,x_fills,List.length_cons,List.length_nil,List.cons_append,List.drop_succ_cons,List.drop_zero,List.drop_nil,List.nil_append,Nat.reduceAdd,s_resc,s_consR,s_res0,↓s_skip,↓s_ops,↓s_dops,↓s_seq,↓s_cond,↓s_ret,↓s_nil,↓s_op,↓s_opg,↓s_wanted',↓s_wantV,s_wantV,↓s_bindS,s_bindS,↓s_bindE,s_bindE,s_norm,↓s_condV,s_condV,↓s_getp,↓s_getp0,↓s_get,↓s_con,↓s_os0,↓s_os1,↓s_list0,↓s_list1,↓s_mov,↓s_pick,↓s_pickE,s_pickE,↓s_bin,↓s_call,s_same,b_lss,b_gtr,b_add,b_sub,s_end,s_res0,s_res1,s_tup2,↓iteN_true,↓iteN_false,iteN_true,iteN_false,Nat.zero_add,List.nil_append,List.append_nil,Nat.reduceEqDiff,decide_true,decide_false,Bool.not_true,beq_self_eq_true]
        try rfl
      · exact (wb3.kp nw4.kp).mono (by rw [← eh5]; exact Nat.le_refl _) (fun q hq e => by rw [← eh5,h_put_ne _ _ (by have:=ge1 q 0 e; omega)])
    · rw [if_neg hq]
      have d1:decide (rqB ⟨(y:Nat),l⟩=b.take (13+n))=false:=decide_eq_false hq
      obtain ⟨h5,eh5⟩:∃ h5,h4.put h.next (.cells [.int .i64 0,.slice none 0 (some 0) 0] .rw)=h5:=⟨_,rfl⟩
      have g5:h5.get h.next=some (.cells [.int .i64 0,.slice none 0 (some 0) 0] .rw):=by rw [← eh5]; exact h_put_same _ _ _
      refine ⟨h5,by rw [← eh5]; exact (kA.trans (k3.trans nw4.kp)).put _ (Nat.le_refl _),?_⟩
      show callX E X (N+250103) _ _ _=_
      rw [x_cfn ed _ _ (Nat.le_of_ble_eq_true rfl) (xd _ _)]
      generalize rqB ⟨(y:Nat),l⟩=RB at *
      generalize b.take (13+n)=BT at *
      generalize b.length - 13=bl13 at *
      generalize s.length=sl at *
      generalize b.length=bl at *
      obtain ⟨ua,eua⟩:∃ u,upA (some (bi,off)) (at_+1)=u:=⟨_,rfl⟩
      obtain ⟨ub,eub⟩:∃ u,upA (some (bi,off)) (at_+9)=u:=⟨_,rfl⟩
      obtain ⟨uc,euc⟩:∃ u,upA (some (bi,off)) at_=u:=⟨_,rfl⟩
      rw [eua] at sv1 rN
      rw [eub] at sv2 r2
      rw [euc] at sv3 s33 s34
      simp (config:={maxSteps:=2000000}) (disch:=first | omega | (simp only [List.length_cons,List.length_nil,List.length_append,List.length_drop]; omega)) only [eA,c0,c1,w1,c2,w2,w3,sv1,rN,c3,w4,w5,c4,w6,w7,w8,w9,w10,w11,ix,gbA,gb2,cb,vb8,vb_str,sv2,r2,eh3,g3,r4,g4r,st4,sv3,s33,s34,d1,eh5,g5,b_sneq,Bool.not_false,↓ns_b2s,st2i,ld2,x_build,x_aggO,x_P0,x_P1,x_fill0,x_fills,x_filli,↓x_slcS,x_M0,x_M1,↓s_len,x_lenS,↓x_conv,x_convV,Nat.zero_add,Nat.add_zero,Nat.mul_one,↓s_evD,↓s_dnil,↓s_dL,↓s_dR,↓s_dRj,↓s_dB,↓s_dAlloc,↓s_bindD,s_bindD,s_finDx,s_addP0,s_addP1,s_addB,s_lookP,↓s_bump0,↓s_bump_get,s_ok0,↓s_ok1,s_okR0,↓s_okR1,↓s_okE,s_okE,s_okE1,s_nth0,s_nthS,Nat.add_zero,Bool.and_self,↓h_put_get,↓s_load,m_load,↓m_load1,m_load1,↓m_st,m_stE,m_storeE,w_zero,w_succ,↓s_alloc,↓x_idxS,x_idxSE,x_addrE,x_lenS,↓s_len,↓x_P0,↓x_P1,x_fill0,x_filli,x_fills,List.length_cons,List.length_nil,List.cons_append,List.drop_succ_cons,List.drop_zero,List.drop_nil,List.nil_append,Nat.reduceAdd,s_resc,s_consR,s_res0,↓s_skip,↓s_ops,↓s_dops,↓s_seq,↓s_cond,↓s_ret,↓s_nil,↓s_op,↓s_opg,↓s_wanted',↓s_wantV,s_wantV,↓s_bindS,s_bindS,↓s_bindE,s_bindE,s_bindE_ret,s_norm,↓s_condV,s_condV,↓s_getp,↓s_getp0,↓s_get,↓s_con,↓s_os0,↓s_os1,↓s_list0,↓s_list1,↓s_mov,↓s_pick,↓s_pickE,s_pickE,↓s_bin,↓s_call,s_same,b_lss,b_gtr,b_add,b_sub,s_end,s_res0,s_res1,s_tup2,↓iteN_true,↓iteN_false,iteN_true,iteN_false,Nat.zero_add,List.nil_append,List.append_nil,Nat.reduceEqDiff,decide_true,decide_false,Bool.not_false,beq_self_eq_true]
      try rfl
structure EnRa (E:Nat→Option Fn):Prop where
  ro:EnRo E
  rg:EnRg E
  de:E k_purserref16_Decode=some f_purserref16_Decode
structure NoRa (X:Orc):Prop where
  ro:NoRo X
  rg:NoRg X
  de:∀ a h,X (.fn k_purserref16_Decode) a h=none
theorem ddecode_go (e:EnRa E) (x:NoRa X) (N:Nat) (s:List Nat) (bs:byt s=true) (hs:s.length≤250000) (at_:Nat) (hat:at_≤s.length) (a:Option (Nat × Nat)) (h:H) (src:SrcH h a 1 s) :
    ∃ h',Kp h h'∧ddR E X (N+250103) h (.slice a s.length none 1) at_ h' (dcV (s.drop at_)):=by
  by_cases h13:at_+13≤s.length
  · exact ddecode_ok e.de x.de e.ro x.ro e.rg x.rg N s bs hs at_ h13 a h src
  · obtain ⟨h',k,r⟩:=ddecode_bad e.de x.de (N+250101) s.length (by omega) (at_:Int) (by omega) a none 1 h
    have:dcV (s.drop at_)=none:=by unfold dcV; rw [if_pos (by rw [List.length_drop]; omega)]
    rw [this]
    exact ⟨h',k,r⟩
end Go.Eng
namespace Go.Eng
open Go
variable {E:Nat→Option Fn} {X:Orc}
set_option linter.unusedSimpArgs false
set_option linter.unusedVariables false
structure EnDg (E:Nat→Option Fn):Prop where
  ra:EnRa E
  rf:EnRf E
  en:E k_purserref17_Encode=some f_purserref17_Encode
  gp:E k_purserref17_group=some f_purserref17_group
  rd:E k_purserref17_Read=some f_purserref17_Read
structure NoDg (X:Orc):Prop where
  ra:NoRa X
  rf:NoRf X
  en:∀ a h,X (.fn k_purserref17_Encode) a h=none
  gp:∀ a h,X (.fn k_purserref17_group) a h=none
  rd:∀ a h,X (.fn k_purserref17_Read) a h=none
structure DgI (v0 v1:V) (h0:H) (n i:Nat) (T:Tr V) (h:H):Prop where
  il:i≤n
  t0:evO T (.t 0)=v0
  t1:evO T (.t 1)=v1
  t6:evO T (.t 6)=.int .i64 (i:Int)
  hh:h=h0
theorem dg_round (Q:Orc) (m:Nat) (v0:V) (ops:List Rq) (hl:ops.length≤1000000) (ok:∀ o ∈ ops,o.ok) (a:Option (Nat × Nat)) (c:Option Nat) (ez:Nat) (h0:H) (row:RrS h0 ops a ez) (i:Nat) (o:Rq) (ho:ops[i]?=some o) (T:Tr V) (h:H) (I:DgI v0 (.slice a ops.length c ez) h0 ops.length i T h) :
    (o.kind≠255→∃ T' h',evC Q 62 m none L_purserref17_Encode_0 ⟨T,[],h⟩=some (.normal,⟨T',[],h'⟩)∧DgI v0 (.slice a ops.length c ez) h0 ops.length (i+1) T' h') ∧
    (o.kind=255→∃ T' h',evC Q 62 m none L_purserref17_Encode_0 ⟨T,[],h⟩=some (.ret,⟨T',[],h'⟩)∧evO T' (.t 4)=.slice none 0 (some 0) 0∧evO T' (.t 5)=.int .i64 170∧h'=h0):=by
  obtain ⟨_,t0,t1,t6,hh⟩:=I
  subst hh
  have hi:=(List.getElem?_eq_some_iff.1 ho).1
  obtain ⟨q,off,vs,md,b,cb,eb,rfl,rfl,hq,g,ld,cg,sb⟩:=rr_at2 row i o ho
  have c0:decide ((i:Int) < (ops.length:Int))=true:=decide_eq_true (by omega)
  have ix:idx (i:Int) ops.length=some i:=idxn hi
  have wi:wr .i64 ((i:Int)+1)=((i+1:Nat):Int):=by rw [wr_i64 (by omega)]; omega
  have i1:i+1≤ops.length:=hi
  obtain ⟨n,en⟩:∃ n,ops.length=n:=⟨_,rfl⟩
  rw [en] at t1 c0 ix
  constructor
  · intro hk
    have d0:decide (o.kind=255)=false:=decide_eq_false hk
    generalize o.kind=kd at *
    refine ⟨_,h,by
      simp (config:={maxSteps:=2000000}) (disch:=first | omega | (simp only [List.length_cons,List.length_nil,List.length_append,List.length_drop]; omega)) only [L_purserref17_Encode_0,t1,t6,g,ld,c0,ix,wi,d0,↓s_len,x_lenS,↓x_fieldAddr,x_fieldV,Nat.add_zero,↓s_load,m_load,↓m_load1,m_load1,↓x_idxS,x_idxSE,x_addrE,x_lenS,↓s_len,↓s_skip,↓s_ops,↓s_seq,↓s_cond,↓s_block,↓s_nil,↓s_op,↓s_bindS,s_bindS,↓s_bindE,s_bindE,s_norm,↓s_condV,s_condV,s_block_normal,↓s_getp,↓s_con,↓s_mov,↓s_bin,s_same,b_eql,b_lss,b_add,↓iteN_true,↓iteN_false,iteN_true,iteN_false,Nat.reduceEqDiff,decide_true,decide_false]
      exact rfl,⟨i1,(by (simp only [s_getp,Nat.reduceEqDiff,decide_false,iteN_false,t0]; try rfl)),by rw [en]; exact (by (simp only [s_getp,Nat.reduceEqDiff,decide_false,iteN_false,t1]; try rfl)),(by (simp only [s_getp,decide_true,iteN_true]; try rfl)),rfl⟩⟩
  · intro hk
    have d0:decide (o.kind=255)=true:=decide_eq_true hk
    generalize o.kind=kd at *
    exact ⟨_,h,by
      simp (config:={maxSteps:=2000000}) (disch:=first | omega | (simp only [List.length_cons,List.length_nil,List.length_append,List.length_drop]; omega)) only [L_purserref17_Encode_0,t1,t6,g,ld,c0,ix,d0,↓s_len,x_lenS,↓x_fieldAddr,x_fieldV,Nat.add_zero,↓s_load,m_load,↓m_load1,m_load1,↓x_idxS,x_idxSE,x_addrE,x_lenS,↓s_len,↓s_skip,↓s_ops,↓s_seq,↓s_cond,↓s_block,↓s_ret,↓s_nil,↓s_op,↓s_bindS,s_bindS,↓s_bindE,s_bindE,s_bindE_ret,s_norm,↓s_condV,s_condV,s_block_ret,↓s_getp,↓s_con,↓s_mov,↓s_bin,s_same,b_eql,b_lss,↓iteN_true,↓iteN_false,iteN_true,iteN_false,Nat.reduceEqDiff,decide_true,decide_false]
      exact rfl,(by (simp only [s_getp,Nat.reduceEqDiff,decide_false,decide_true,iteN_false,iteN_true]; try rfl)),(by (simp only [s_getp,decide_true,iteN_true]; try rfl)),rfl⟩
theorem dsegenc_go (e:EnDg E) (x:NoDg X) (N:Nat) (n:Nat) (hn:n < 18446744073709551616) (ops:List Rq) (hl:ops.length≤10000) (ok:∀ o ∈ ops,o.ok) (hw:∀ o ∈ ops,o.l.length≤250000) (hT:(rB ops).length≤600000) (a:Option (Nat × Nat)) (c:Option Nat) (ez:Nat) (h:H) (row:RrS h ops a ez) :
    ∃ h' a2 c2 e2,callX E X (N+250103) (.fn k_purserref17_Encode) [.int .u64 (n:Int),.slice a ops.length c ez] h=some (.tup [.slice a2 (sgR n ops).1.length c2 e2,.int .i64 ((sgR n ops).2:Int)],h')∧Nw h h' (sgR n ops).1 a2 c2 e2:=by
  rw [x_cfn e.en _ _ (Nat.le_of_ble_eq_true rfl) (x.en _ _)]
  have bad:sgOk n ops=false→sgR n ops=([],170):=fun h => by unfold sgR; rw [h]; rfl
  have nwn:∀ h',Kp h h'→Nw h h' [] none (some 0) 0:=fun h' k => ⟨k,.nil _,fun _ _ e => by cases e⟩
  by_cases h1:n < 1
  · have d0:decide ((n:Int) < 1)=true:=decide_eq_true (by omega)
    rw [bad (by unfold sgOk; rw [decide_eq_false (by omega)]; rfl)]
    refine ⟨h,none,some 0,0,?_,nwn h (Kp.refl _)⟩
    generalize ops.length=L at *
    simp (config:={maxSteps:=2000000}) (disch:=first | omega | (simp only [List.length_cons,List.length_nil,List.length_append,List.length_drop]; omega)) only [d0,Nat.zero_add,List.length_nil,Int.cast_ofNat_Int,s_res0,↓s_ops,↓s_seq,↓s_cond,↓s_ret,↓s_nil,↓s_op,↓s_opg,↓s_wanted',↓s_wantV,s_wantV,beq_false,↓s_bindS,s_bindS,↓s_bindE,s_bindE,s_bindE_ret,s_norm,↓s_condV,s_condV,↓s_getp,↓s_get,↓s_con,↓s_list0,↓s_list1,↓s_mov,↓s_pick,↓s_pickE,s_pickE,↓s_bin,s_same,b_lss,s_end,s_res0,s_res1,s_tup2,↓iteN_true,↓iteN_false,iteN_true,iteN_false,Nat.zero_add,Nat.reduceEqDiff,decide_true,decide_false,Bool.not_true]
    try rfl
  have d0:decide ((n:Int) < 1)=false:=decide_eq_false (by omega)
  by_cases h2:ops.length < 1
  · have d1:decide ((ops.length:Int) < 1)=true:=decide_eq_true (by omega)
    rw [bad (by
      have:ops=[]:=List.length_eq_zero_iff.1 (by omega)
      unfold sgOk; rw [this]; simp)]
    refine ⟨h,none,some 0,0,?_,nwn h (Kp.refl _)⟩
    generalize ops.length=L at *
    simp (config:={maxSteps:=2000000}) (disch:=first | omega | (simp only [List.length_cons,List.length_nil,List.length_append,List.length_drop]; omega)) only [d0,d1,↓s_len,x_lenS,Nat.zero_add,x_lenS,↓s_len,List.length_nil,Int.cast_ofNat_Int,s_res0,↓s_ops,↓s_seq,↓s_cond,↓s_ret,↓s_nil,↓s_op,↓s_opg,↓s_wanted',↓s_wantV,s_wantV,↓s_bindS,s_bindS,↓s_bindE,s_bindE,s_bindE_ret,s_norm,↓s_condV,s_condV,↓s_getp,↓s_get,↓s_con,↓s_list0,↓s_list1,↓s_mov,↓s_pick,↓s_pickE,s_pickE,↓s_bin,s_same,b_lss,s_end,s_res0,s_res1,s_tup2,↓iteN_true,↓iteN_false,iteN_true,iteN_false,Nat.zero_add,Nat.reduceEqDiff,decide_true,decide_false,beq_self_eq_true]
    try rfl
  have d1:decide ((ops.length:Int) < 1)=false:=decide_eq_false (by omega)
  have fin:∀ T,DgI (.int .u64 (n:Int)) (.slice a ops.length c ez) h ops.length 0 T h→∃ h' a2 c2 e2,fnEnd [.tmp 4,.tmp 5] (bindE (blockE 0 (loopN (evC (callX E X (N+250102)) 62 (N+250102) none L_purserref17_Encode_0) (N+250102) ⟨T,[],h⟩)) (evC (callX E X (N+250102)) 62 (N+250102) none R_purserref17_Encode_0))=some (.tup [.slice a2 (sgR n ops).1.length c2 e2,.int .i64 ((sgR n ops).2:Int)],h')∧Nw h h' (sgR n ops).1 a2 c2 e2:=by
    intro T I
    rcases noM_or ops with hall | ⟨j,o,j1,j2,j3⟩
    · obtain ⟨T',h',rr,J⟩:=loop_go (f:=evC (callX E X (N+250102)) 62 (N+250102) none L_purserref17_Encode_0) (DgI (.int .u64 (n:Int)) (.slice a ops.length c ez) h ops.length) ops.length (.exit 0) (by intro h; cases h) (DgI (.int .u64 (n:Int)) (.slice a ops.length c ez) h ops.length ops.length) (fun i T h' hi I => (dg_round _ _ _ ops (by omega) ok a c ez h row i _ (List.getElem?_eq_getElem hi) T h' I).1 (hall _ (List.getElem_mem hi))) (fun T h' I => by
        obtain ⟨il,t0,t1,t6,hh⟩:=I
        have c0:decide ((ops.length:Int) < (ops.length:Int))=false:=decide_eq_false (by omega)
        obtain ⟨n,en⟩:∃ n,ops.length=n:=⟨_,rfl⟩
        rw [en] at t1 t6 c0
        exact ⟨_,h',by
          simp (config:={maxSteps:=2000000}) (disch:=first | omega | (simp only [List.length_cons,List.length_nil,List.length_append,List.length_drop]; omega)) only [L_purserref17_Encode_0,t1,t6,c0,↓s_len,x_lenS,x_lenS,↓s_len,↓s_ops,↓s_seq,↓s_cond,↓s_exit,↓s_nil,↓s_op,↓s_bindS,s_bindS,↓s_bindE,s_bindE,s_bindE_exit,s_norm,↓s_condV,s_condV,↓s_getp,↓s_mov,↓s_bin,s_same,b_lss,↓iteN_true,↓iteN_false,iteN_true,iteN_false,Nat.reduceEqDiff,decide_true,decide_false]
          exact rfl,⟨il,(by (simp only [s_getp,Nat.reduceEqDiff,decide_false,iteN_false,t0]; try rfl)),by rw [en]; exact (by (simp only [s_getp,Nat.reduceEqDiff,decide_false,iteN_false,t1]; try rfl)),by rw [en]; exact (by (simp only [s_getp,Nat.reduceEqDiff,decide_false,iteN_false,t6]; try rfl)),hh⟩⟩) ops.length 0 (by omega) (N+250102) (by omega) T h I
      rw [rr]
      obtain ⟨_,t0,t1,t6,hh⟩:=J
      subst hh
      obtain ⟨h1,a1,c1,e1,r1,nw1⟩:=dencode_go e.ra.ro x.ra.ro N ops (by omega) ok hw (by omega) a c ez h' row
      have z0:decide ((0:Int)=0)=true:=rfl
      have z1:decide ((160:Int)=0)=false:=rfl
      have hm:noM ops=true:=List.all_eq_true.2 (fun o ho => decide_eq_true (hall o ho))
      unfold enR at r1 nw1
      cases hv:ops.all rqOk with
      | false =>
        rw [hv,if_neg (by simp)] at r1 nw1
        simp only [List.length_nil] at r1
        rw [bad (by unfold sgOk; rw [hv,Bool.and_false])]
        refine ⟨h1,none,some 0,0,?_,nwn h1 nw1.kp⟩
        generalize ops.length=L at *
        simp (config:={maxSteps:=2000000}) (disch:=first | omega | (simp only [List.length_cons,List.length_nil,List.length_append,List.length_drop]; omega)) only [R_purserref17_Encode_0,t1,r1,List.length_nil,Int.reduceEq,Int.cast_ofNat_Int,s_res0,↓s_ops,↓s_seq,↓s_cond,↓s_ret,↓s_nil,↓s_op,↓s_bindS,s_bindS,↓s_bindE,s_bindE,s_bindE_ret,s_norm,↓s_condV,s_condV,s_block_exit,↓s_getp,↓s_con,↓s_os0,↓s_os1,↓s_mov,↓s_bin,↓s_call,↓s_ext,s_same,b_neq,s_end,s_res0,s_res1,s_tup2,↓iteN_true,↓iteN_false,iteN_true,iteN_false,Nat.reduceEqDiff,decide_true,decide_false,Bool.not_false,List.getElem?_cons_zero,List.getElem?_cons_succ,if_true]
        try rfl
      | true =>
      rw [hv,if_pos rfl] at r1 nw1
      simp only at r1 nw1
      replace r1:callX E X (N+250102) (.fn k_purserref16_Encode) [.slice a ops.length c ez] h'=some (.tup [.slice a1 (rB ops).length c1 e1,.int .i64 0],h1):=r1
      have sok:sgOk n ops=true:=by
        unfold sgOk; rw [hm,hv,decide_eq_true (show 1≤n by omega),decide_eq_true (show ops≠[] by intro e; rw [e] at h2; exact h2 (by decide))]; rfl
      have eR:sgR n ops=(sgB n ops,0):=by unfold sgR; rw [if_pos sok]
      have lS:=sgB_len n ops
      have eS:sgB n ops=rB ops++rqB (mkR n ops.length):=by
        have:=sgB_eq n ops []
        rw [List.append_nil,List.append_nil] at this; exact this
      rw [eR]
      simp only
      obtain ⟨h3,a3,c3,e3,r3,nw3⟩:=rfixed_go e.rf x.rf (N+250082) 8 n hn h1
      obtain ⟨h4,a4,c4,e4,r4,nw4⟩:=rfixed_go e.rf x.rf (N+250082) 4 ops.length (by omega) h3
      have f8:=fix8 n hn
      have f4:=fix4 ops.length (by omega)
      rw [f8.1,f8.2,leN_len] at r3
      rw [f8.2] at nw3
      rw [f4.1,f4.2,leN_len] at r4
      rw [f4.2] at nw4
      rw [show N+250082+20=N+250102 by omega] at r3 r4
      replace r3:callX E X (N+250102) (.fn k_purserref01_Fixed) [.int .i64 8,.int .u64 (n:Int)] h1=some (.tup [.slice a3 8 c3 e3,.int .i64 0],h3):=r3
      replace r4:callX E X (N+250102) (.fn k_purserref01_Fixed) [.int .i64 4,.int .u64 (ops.length:Int)] h3=some (.tup [.slice a4 4 c4 e4,.int .i64 0],h4):=r4
      obtain ⟨a5,c5,e5,h5,ap5,nw5,n5,f5,o5⟩:=(nw3.more nw4.kp).ap (leN 4 ops.length) (by rw [leN_len,leN_len]; omega)
      have sc4:=nw4.wb.src.cellz c4
      have l12:(leN 8 n++leN 4 ops.length).length=12:=mkP_len n ops.length
      rw [leN_len] at sc4
      rw [l12,leN_len,leN_len] at ap5
      obtain ⟨h6,a6,c6,e6,r6,nw6⟩:=done_go e.ra.ro.on x.ra.ro.on e.ra.ro.cm x.ra.ro.cm (N+1) (mkR n ops.length) (mkR_ok _ _).2 (mkR_ok _ _).1 (by show (mkP n ops.length).length≤_; rw [mkP_len]; omega) a5 c5 e5 h5 nw5.wb.src
      rw [show N+1+250101=N+250102 by omega] at r6
      replace r6:callX E X (N+250102) (.fn k_purserref16_One) [.agg [.int .i64 255,.slice a5 (mkP n ops.length).length c5 e5]] h5=_:=r6
      rw [mkP_len,mkR_len] at r6
      obtain ⟨a7,c7,e7,h7,ap7,nw7,n7,f7,o7⟩:=((nw1.more nw5.kp).more nw6.kp).ap (rqB (mkR n ops.length)) (by rw [mkR_len]; omega)
      have sc6:=nw6.wb.src.cellz c6
      rw [mkR_len] at sc6 ap7
      rw [← eS] at ap7 nw7
      refine ⟨h7,a7,c7,e7,?_,nw7⟩
      have wu:wr .u64 (ops.length:Int)=(ops.length:Int):=u64n _ (by omega)
      have d2:decide ((1500000:Int) < ((sgB n ops).length:Int))=false:=decide_eq_false (by omega)
      generalize (sgB n ops).length=SB_ at *
      generalize (rB ops).length=RB at *
      generalize ofI .u8 (rqB (mkR n ops.length))=C6 at *
      generalize ofI .u8 (leN 4 ops.length)=C4 at *
      generalize ops.length=L at *
      simp (config:={maxSteps:=2000000}) (disch:=first | omega | (simp only [List.length_cons,List.length_nil,List.length_append,List.length_drop]; omega)) only [R_purserref17_Encode_0,t0,t1,r1,r3,r4,wu,sc4,ap5,r6,sc6,ap7,d2,↓s_append,x_build,x_aggO,x_P0,x_P1,x_fill0,x_fills,x_filli,↓s_len,x_lenS,↓x_conv,x_convV,Nat.zero_add,w_zero,w_succ,x_lenS,↓s_len,↓x_P0,↓x_P1,x_fill0,x_filli,x_fills,List.length_cons,List.length_nil,List.cons_append,List.drop_succ_cons,List.drop_zero,List.drop_nil,List.nil_append,Int.cast_ofNat_Int,s_res0,↓s_skip,↓s_ops,↓s_seq,↓s_cond,↓s_ret,↓s_nil,↓s_op,↓s_bindS,s_bindS,↓s_bindE,s_bindE,s_norm,↓s_condV,s_condV,s_block_exit,↓s_getp,↓s_con,↓s_os0,↓s_os1,↓s_mov,↓s_bin,↓s_call,↓s_ext,s_same,b_neq,b_gtr,s_end,s_res0,s_res1,s_tup2,↓iteN_true,↓iteN_false,iteN_true,iteN_false,Nat.zero_add,List.nil_append,List.append_nil,Nat.reduceEqDiff,decide_true,decide_false,Bool.not_true,List.getElem?_cons_zero,List.getElem?_cons_succ,if_true]
      try rfl
    · rw [bad (by
        have:noM ops=false:=by
          unfold noM
          exact List.all_eq_false.2 ⟨o,List.mem_of_getElem? j1,by simp [j2]⟩
        unfold sgOk; rw [this,Bool.and_false,Bool.false_and])]
      have hj:=(List.getElem?_eq_some_iff.1 j1).1
      obtain ⟨T',h',rr,t4,t5,hh⟩:=loop_go (f:=evC (callX E X (N+250102)) 62 (N+250102) none L_purserref17_Encode_0) (DgI (.int .u64 (n:Int)) (.slice a ops.length c ez) h ops.length) j .ret (by intro h; cases h) (fun T h' => evO T (.t 4)=.slice none 0 (some 0) 0∧evO T (.t 5)=.int .i64 170∧h'=h) (fun i T h' hi I => (dg_round _ _ _ ops (by omega) ok a c ez h row i _ (List.getElem?_eq_getElem (by omega)) T h' I).1 (j3 i _ hi (List.getElem?_eq_getElem (by omega)))) (fun T h' I => (dg_round _ _ _ ops (by omega) ok a c ez h row j o j1 T h' I).2 j2) j 0 (by omega) (N+250102) (by omega) T h I
      rw [rr]
      refine ⟨h,none,some 0,0,?_,nwn h (Kp.refl _)⟩
      rw [hh]
      simp (config:={maxSteps:=2000000}) (disch:=first | omega | (simp only [List.length_cons,List.length_nil,List.length_append,List.length_drop]; omega)) only [t4,t5,List.length_nil,Int.cast_ofNat_Int,s_res0,s_bindE_ret,s_block_ret,s_end,s_res0,s_res1,s_tup2]
      try rfl
  obtain ⟨R,eR⟩:∃ R,R_purserref17_Encode_0=R:=⟨_,rfl⟩
  obtain ⟨Lo,eL⟩:∃ R,L_purserref17_Encode_0=R:=⟨_,rfl⟩
  rw [eR,eL] at fin ⊢
  have fin':=fun T q0 q1 q6 => fin T ⟨Nat.zero_le _,q0,q1,q6,rfl⟩
  clear fin
  generalize ops.length=L at *
  simp (config:={maxSteps:=2000000}) (disch:=first | omega | (simp only [List.length_cons,List.length_nil,List.length_append,List.length_drop]; omega)) only [d0,d1,↓s_len,x_lenS,Nat.zero_add,↓l_loop,↓l_succ,x_lenS,↓s_len,↓s_skip,↓s_ops,↓s_seq,↓s_cond,↓s_block,↓s_nil,↓s_op,↓s_opg,↓s_wanted',↓s_wantV,s_wantV,↓s_bindS,s_bindS,↓s_bindE,s_bindE,s_norm,↓s_condV,s_condV,↓s_getp,↓s_get,↓s_con,↓s_list0,↓s_list1,↓s_mov,↓s_pick,↓s_pickE,s_pickE,↓s_bin,s_same,b_lss,↓iteN_true,↓iteN_false,iteN_true,iteN_false,Nat.zero_add,Nat.reduceEqDiff,decide_true,decide_false,beq_self_eq_true]
  exact fin' _ (by (simp only [s_getp,Nat.reduceEqDiff,decide_false,iteN_false]; try rfl)) (by (simp only [s_getp,Nat.reduceEqDiff,decide_false,iteN_false]; try rfl)) (by (simp only [s_getp,decide_true,iteN_true]; try rfl))
end Go.Eng
namespace Go.Eng
open Go
variable {E:Nat→Option Fn} {X:Orc}
set_option linter.unusedSimpArgs false
set_option linter.unusedVariables false
theorem rqB_inj (o p:Rq) (ho:rqOk o=true) (hp:rqOk p=true) (h:rqB o=rqB p):o=p:=by
  have h1:=dc_ok o ho (fun l => onV_lt 0 l) []
  have h2:=dc_ok p hp (fun l => onV_lt 0 l) []
  rw [h,h2] at h1
  exact (Prod.mk.inj (Option.some.inj h1)).1.symm
def dgR (at_:Nat):Option (List Rq × Nat)→List Rq × Int
  | none => ([],-1)
  | some (g,j) => (g,((at_+j:Nat):Int))
structure GpI (v:V) (num fr:Nat) (dn:List Rq) (at_ cnt:Nat) (h0:H) (T:Tr V) (h:H):Prop where
  t0:evO T (.t 0)=v
  t1:evO T (.t 1)=.int .i64 (at_:Int)
  t2:evO T (.t 2)=.int .u64 (num:Int)
  t8:∃ a c e,evO T (.t 8)=.slice a dn.length c e∧RrF h0.next h dn a c e
  t9:evO T (.t 9)=.int .i64 (fr:Int)
  t10:evO T (.t 10)=.int .i64 (cnt:Int)
  kp:Kp h0 h
def GpR (h0:H) (r:List Rq × Int) (T:Tr V) (h:H):Prop:=Kp h0 h∧∃ a c e,evO T (.t 6)=.slice a r.1.length c e∧evO T (.t 7)=.int .i64 r.2∧RrF h0.next h r.1 a c e
theorem gp_none (e:EnDg E) (x:NoDg X) (N m:Nat) (s:List Nat) (bs:byt s=true) (hs:s.length≤20000) (num fr:Nat) (a:Option (Nat × Nat)) (h0:H) (src:SrcH h0 a 1 s) (dn:List Rq) (at_ cnt:Nat) (T:Tr V) (h:H) (hat:at_≤s.length) (hcn:cnt≤at_) (I:GpI (.slice a s.length none 1) num fr dn at_ cnt h0 T h) (hd:dcV (s.drop at_)=none) :
    ∃ T' h',evC (callX E X (N+250104)) 60 m none L_purserref17_group_0 ⟨T,[],h⟩=some (.ret,⟨T',[],h'⟩)∧GpR h0 ([],-1) T' h':=by
  have z1:decide ((160:Int)=0)=false:=rfl
  obtain ⟨t0,t1,t2,⟨ar,cr,er,t8,row⟩,t9,t10,kp⟩:=I
  obtain ⟨h1,k1,r1⟩:=ddecode_go e.ra x.ra (N+1) s bs (by omega) at_ hat a h (src.mono kp)
  rw [hd] at r1
  unfold ddR at r1
  simp only at r1
  rw [show N+1+250103=N+250104 by omega] at r1
  have c0:decide ((cnt:Int)≤(s.length:Int))=true:=decide_eq_true (by omega)
  obtain ⟨h2,eh2⟩:∃ h2,(h1.new (.cells [.int .i64 0,.slice none 0 (some 0) 0] .rw)).put h1.next (.cells [.int .i64 0,.slice none 0 (some 0) 0] .rw)=h2:=⟨_,rfl⟩
  have k2:Kp h h2:=k1.trans (by rw [← eh2]; (repeat (first | exact Kp.refl _ | refine Kp.put ?_ _ (by first | omega | (simp only [h_next_put,h_next_new,h_next_del]; omega)) | refine Kp.del ?_ (by first | omega | (simp only [h_next_put,h_next_new,h_next_del]; omega)) | refine Kp.trans ?_ (Kp.new _ _))))
  obtain ⟨sl,esl⟩:∃ n,s.length=n:=⟨_,rfl⟩
  obtain ⟨dl,edl⟩:∃ n,dn.length=n:=⟨_,rfl⟩
  rw [esl] at t0 r1 c0
  rw [edl] at t8
  exact ⟨_,h2,by
    simp (config:={maxSteps:=2000000}) (disch:=first | omega | (simp only [List.length_cons,List.length_nil,List.length_append,List.length_drop]; omega)) only [L_purserref17_group_0,t0,t1,t10,r1,c0,eh2,st2i,Bool.not_false,↓s_len,x_lenS,Nat.zero_add,↓h_new_get,↓m_st,m_stE,m_storeE,w_zero,↓s_alloc,x_lenS,↓s_len,List.length_cons,List.length_nil,List.drop_succ_cons,List.drop_nil,Nat.reduceAdd,Int.reduceEq,↓s_skip,↓s_ops,↓s_seq,↓s_cond,↓s_block,↓s_ret,↓s_nil,↓s_op,↓s_bindS,s_bindS,↓s_bindE,s_bindE,s_bindE_ret,s_norm,↓s_condV,s_condV,s_block_ret,↓s_getp,↓s_getp0,↓s_con,↓s_os0,↓s_os1,↓s_mov,↓s_bin,↓s_call,↓s_ext,s_same,b_neq,b_leq,↓iteN_true,↓iteN_false,iteN_true,iteN_false,Nat.zero_add,List.append_nil,Nat.reduceEqDiff,decide_true,decide_false,Bool.not_false,List.getElem?_cons_zero,List.getElem?_cons_succ]
    exact rfl,kp.trans k2,none,some 0,0,(by (simp only [s_getp,Nat.reduceEqDiff,decide_false,decide_true,iteN_false,iteN_true]; try rfl)),(by (simp only [s_getp,decide_true,iteN_true]; try rfl)),.inl ⟨rfl,rfl,rfl,rfl⟩⟩
theorem gp_end (e:EnDg E) (x:NoDg X) (N m:Nat) (s:List Nat) (bs:byt s=true) (hs:s.length≤20000) (num:Nat) (hn1:1≤num) (hn2:num < 18446744073709551616) (fr:Nat) (a:Option (Nat × Nat)) (h0:H) (src:SrcH h0 a 1 s) (dn:List Rq) (at_ cnt:Nat) (T:Tr V) (h:H) (hat:at_≤s.length) (hfr:fr≤at_) (hcn:cnt≤at_) (hp:(s.drop fr).take (at_ - fr)=rB dn) (hdn:∀ o ∈ dn,o.kind≠255∧rqOk o=true∧o.ok∧o.l.length≤20000) (I:GpI (.slice a s.length none 1) num fr dn at_ cnt h0 T h) (o:Rq) (k:Nat) (hd:dcV (s.drop at_)=some (o,k)) (hk:o.kind=255) :
    ∃ T' h',evC (callX E X (N+250104)) 60 m none L_purserref17_group_0 ⟨T,[],h⟩=some (.ret,⟨T',[],h'⟩)∧GpR h0 (if dn=[]∨o.l≠mkP num dn.length then ([],-1) else (dn,((at_+k:Nat):Int))) T' h':=by
  have z0:decide ((0:Int)=0)=true:=rfl
  have z2:decide ((170:Int)=0)=false:=rfl
  have z3:decide ((255:Int)=255)=true:=rfl
  obtain ⟨t0,t1,t2,⟨ar,cr,er,t8,row⟩,t9,t10,kp⟩:=I
  obtain ⟨h1,k1,r1⟩:=ddecode_go e.ra x.ra (N+1) s bs (by omega) at_ hat a h (src.mono kp)
  rw [hd] at r1
  unfold ddR at r1
  simp only at r1
  rw [show N+1+250103=N+250104 by omega] at r1
  obtain ⟨a2,c2,e2,r1,wb2,ge2⟩:=r1
  obtain ⟨f1,f2,f3,f4,f5⟩:=dc_of _ (byt_drop bs _) o k hd
  rw [List.length_drop] at f5
  rw [hk] at r1
  have c0:decide ((cnt:Int)≤(s.length:Int))=true:=decide_eq_true (by omega)
  obtain ⟨h2,eh2⟩:∃ h2,(h1.new (.cells [.int .i64 0,.slice none 0 (some 0) 0] .rw)).put h1.next (.cells [.int .i64 255,.slice a2 o.l.length c2 e2] .rw)=h2:=⟨_,rfl⟩
  have k12:Kp h1 h2:=by rw [← eh2]; (repeat (first | exact Kp.refl _ | refine Kp.put ?_ _ (by first | omega | (simp only [h_next_put,h_next_new,h_next_del]; omega)) | refine Kp.del ?_ (by first | omega | (simp only [h_next_put,h_next_new,h_next_del]; omega)) | refine Kp.trans ?_ (Kp.new _ _)))
  have g2:h2.get h1.next=some (.cells [.int .i64 255,.slice a2 o.l.length c2 e2] .rw):=by rw [← eh2]; exact h_put_same _ _ _
  have k02:=k1.trans k12
  have lp:=congrArg List.length hp
  rw [List.length_take,List.length_drop] at lp
  have ge:=rB_ge dn
  obtain ⟨h3,a3,c3,e3,r3,nw3⟩:=dsegenc_go e x (N+1) num hn2 dn (by omega) (fun o ho => (hdn o ho).2.2.1) (fun o ho => by have:=(hdn o ho).2.2.2; omega) (by omega) ar cr er h2 (row.row.mono k02)
  rw [show N+1+250103=N+250104 by omega] at r3
  have k03:=k02.trans nw3.kp
  by_cases hne:dn=[]
  · rw [if_pos (.inl hne)]
    have sno:sgR num dn=([],170):=by
      have:sgOk num dn=false:=by unfold sgOk; rw [hne]; simp
      unfold sgR; rw [this]; rfl
    rw [sno] at r3
    simp only [List.length_nil] at r3
    subst hne
    rw [show ([]:List Rq).length=0 from rfl] at r3 t8
    obtain ⟨sl,esl⟩:∃ n,s.length=n:=⟨_,rfl⟩
    obtain ⟨ol,eol⟩:∃ n,o.l.length=n:=⟨_,rfl⟩
    rw [esl] at t0 r1 c0
    rw [eol] at r1 eh2 g2
    obtain ⟨ak,eak⟩:∃ n,at_+k=n:=⟨_,rfl⟩
    rw [eak] at r1
    replace r3:callX E X (N+250104) (.fn k_purserref17_Encode) [.int .u64 (num:Int),.slice ar 0 cr er] h2=some (.tup [.slice a3 0 c3 e3,.int .i64 170],h3):=r3
    exact ⟨_,h3,by
      simp (config:={maxSteps:=2000000}) (disch:=first | omega | (simp only [List.length_cons,List.length_nil,List.length_append,List.length_drop]; omega)) only [L_purserref17_group_0,t0,t1,t2,t8,t10,r1,c0,eh2,g2,r3,st2i,Bool.not_true,Bool.not_false,↓s_len,x_lenS,↓x_fieldAddr,x_fieldV,Nat.zero_add,Nat.add_zero,↓s_evD,↓s_dnil,↓s_dL,↓s_dLg,↓s_dRg,↓s_bindD,s_bindD,s_finD,s_addP0,↓s_bump0,Nat.add_zero,↓h_new_get,↓s_load,m_load,↓m_load1,m_load1,↓m_st,m_stE,m_storeE,w_zero,↓s_alloc,x_lenS,↓s_len,List.length_cons,List.length_nil,List.drop_succ_cons,List.drop_nil,Nat.reduceAdd,Int.reduceEq,↓s_skip,↓s_ops,↓s_dops,↓s_seq,↓s_cond,↓s_block,↓s_ret,↓s_nil,↓s_op,↓s_wanted',↓s_wantV,s_wantV,beq_false,↓s_bindS,s_bindS,↓s_bindE,s_bindE,s_bindE_ret,s_norm,↓s_condV,s_condV,s_block_ret,↓s_getp,↓s_getp0,↓s_con,↓s_os0,↓s_os1,↓s_mov,↓s_pick,↓s_pickE,s_pickE,↓s_bin,↓s_call,↓s_ext,s_same,b_eql,b_neq,b_leq,↓iteN_true,↓iteN_false,iteN_true,iteN_false,Nat.zero_add,List.append_nil,Nat.reduceEqDiff,decide_true,decide_false,Bool.not_true,Bool.not_false,List.getElem?_cons_zero,List.getElem?_cons_succ]
      exact rfl,kp.trans k03,none,some 0,0,(by (simp only [s_getp,Nat.reduceEqDiff,decide_false,decide_true,iteN_false,iteN_true]; try rfl)),(by (simp only [s_getp,decide_true,iteN_true]; try rfl)),.inl ⟨rfl,rfl,rfl,rfl⟩⟩
  · have sok:sgOk num dn=true:=by
      unfold sgOk noM
      simp only [Bool.and_eq_true,decide_eq_true_eq,List.all_eq_true]
      exact ⟨⟨⟨hn1,hne⟩,fun o ho => (hdn o ho).1⟩,fun o ho => (hdn o ho).2.1⟩
    have eR:sgR num dn=(sgB num dn,0):=by unfold sgR; rw [if_pos sok]
    rw [eR] at r3 nw3
    simp only at r3 nw3
    have eS:sgB num dn=rB dn++rqB (mkR num dn.length):=by
      have:=sgB_eq num dn []
      rw [List.append_nil,List.append_nil] at this; exact this
    have bS:byt (sgB num dn)=true:=by
      rw [eS]; exact byt_app (rB_byt dn (fun o ho => (hdn o ho).2.1) (fun o ho => (hdn o ho).2.2.1)) (rqB_byt _ (mkR_ok _ _).2 (mkR_ok _ _).1)
    have eT:(s.drop fr).take (at_+k - fr)=rB dn++rqB o:=by
      have h1:at_+k - fr=(at_ - fr)+k:=by omega
      rw [h1,List.take_add,hp,List.drop_drop,show fr+(at_ - fr)=at_ by omega,f3]
    have lT:((s.drop fr).take (at_+k - fr)).length=at_+k - fr:=by rw [List.length_take,List.length_drop]; omega
    have s1:=str_src nw3.wb.src bS c3
    have s2:=str_src (((src.mono (kp.trans k03)).drop fr).take (at_+k - fr)) (byt_take (byt_drop bs _) _) none
    rw [lT] at s2
    have sv:slcV 1 (some (.int .i64 (fr:Int))) (some (.int .i64 ((at_+k:Nat):Int))) none (.slice a s.length none 1)=some (.slice (upA a fr) (at_+k - fr) none 1):=slcV_lhA _ _ _ _ _ _ (by omega) (by omega)
    have iff_:sgB num dn=(s.drop fr).take (at_+k - fr) ↔ o.l=mkP num dn.length:=by
      rw [eT,eS]
      constructor
      · intro h
        have:=rqB_inj _ _ (mkR_ok num dn.length).2 f1 (List.append_cancel_left h)
        rw [← this]; rfl
      · intro h
        have:o=mkR num dn.length:=by
          cases o; simp only at hk h; subst hk; subst h; rfl
        rw [this]
    obtain ⟨W,eW⟩:∃ W,(s.drop fr).take (at_+k - fr)=W:=⟨_,rfl⟩
    rw [eW] at s2 iff_
    obtain ⟨W2,eW2⟩:∃ W,sgB num dn=W:=⟨_,rfl⟩
    rw [eW2] at s1 r3 iff_
    by_cases hm:o.l=mkP num dn.length
    · have d0:decide (W2=W)=true:=decide_eq_true (iff_.2 hm)
      rw [if_neg (by simp [hne,hm])]
      have rowF:=row.kp k03
      obtain ⟨sl,esl⟩:∃ n,s.length=n:=⟨_,rfl⟩
      obtain ⟨ol,eol⟩:∃ n,o.l.length=n:=⟨_,rfl⟩
      obtain ⟨dl,edl⟩:∃ n,dn.length=n:=⟨_,rfl⟩
      obtain ⟨wl,ewl⟩:∃ n,W2.length=n:=⟨_,rfl⟩
      obtain ⟨ak,eak⟩:∃ n,at_+k=n:=⟨_,rfl⟩
      obtain ⟨af,eaf⟩:∃ n,ak - fr=n:=⟨_,rfl⟩
      rw [eak] at r1 sv s2
      rw [eaf] at sv s2
      rw [esl] at t0 r1 c0 sv
      rw [eol] at r1 eh2 g2
      rw [edl] at t8 r3
      rw [ewl] at r3 s1
      replace r3:callX E X (N+250104) (.fn k_purserref17_Encode) [.int .u64 (num:Int),.slice ar dl cr er] h2=some (.tup [.slice a3 wl c3 e3,.int .i64 0],h3):=r3
      exact ⟨_,h3,by
        simp (config:={maxSteps:=2000000}) (disch:=first | omega | (simp only [List.length_cons,List.length_nil,List.length_append,List.length_drop]; omega)) only [L_purserref17_group_0,t0,t1,t2,t8,t9,t10,r1,c0,eh2,g2,r3,s1,s2,sv,d0,b_sneq,↓ns_b2s,↓x_slcS,x_M0,x_M1,st2i,Bool.not_true,↓s_len,x_lenS,↓x_fieldAddr,x_fieldV,Nat.zero_add,Nat.add_zero,↓s_evD,↓s_dnil,↓s_dL,↓s_dLg,↓s_dRg,↓s_bindD,s_bindD,s_finD,s_addP0,↓s_bump0,Nat.add_zero,↓h_new_get,↓s_load,m_load,↓m_load1,m_load1,↓m_st,m_stE,m_storeE,w_zero,↓s_alloc,x_lenS,↓s_len,List.length_cons,List.length_nil,List.drop_succ_cons,List.drop_nil,Nat.reduceAdd,↓s_skip,↓s_ops,↓s_dops,↓s_seq,↓s_cond,↓s_block,↓s_ret,↓s_nil,↓s_op,↓s_wanted',↓s_wantV,s_wantV,↓s_bindS,s_bindS,↓s_bindE,s_bindE,s_bindE_ret,s_norm,↓s_condV,s_condV,s_block_ret,↓s_getp,↓s_getp0,↓s_con,↓s_os0,↓s_os1,↓s_mov,↓s_pick,↓s_pickE,s_pickE,↓s_bin,↓s_call,↓s_ext,s_same,b_eql,b_neq,b_leq,↓iteN_true,↓iteN_false,iteN_true,iteN_false,Nat.zero_add,List.append_nil,Nat.reduceEqDiff,decide_true,decide_false,Bool.not_true,List.getElem?_cons_zero,List.getElem?_cons_succ,beq_self_eq_true]
        exact rfl,kp.trans k03,ar,cr,er,by simp only [edl]; exact (by (simp only [s_getp,Nat.reduceEqDiff,decide_false,decide_true,iteN_false,iteN_true]; try rfl)),by simp only [eak]; exact (by (simp only [s_getp,decide_true,iteN_true]; try rfl)),rowF⟩
    · have d0:decide (W2=W)=false:=decide_eq_false (fun h => hm (iff_.1 h))
      rw [if_pos (.inr hm)]
      obtain ⟨sl,esl⟩:∃ n,s.length=n:=⟨_,rfl⟩
      obtain ⟨ol,eol⟩:∃ n,o.l.length=n:=⟨_,rfl⟩
      obtain ⟨dl,edl⟩:∃ n,dn.length=n:=⟨_,rfl⟩
      obtain ⟨wl,ewl⟩:∃ n,W2.length=n:=⟨_,rfl⟩
      obtain ⟨ak,eak⟩:∃ n,at_+k=n:=⟨_,rfl⟩
      obtain ⟨af,eaf⟩:∃ n,ak - fr=n:=⟨_,rfl⟩
      rw [eak] at r1 sv s2
      rw [eaf] at sv s2
      rw [esl] at t0 r1 c0 sv
      rw [eol] at r1 eh2 g2
      rw [edl] at t8 r3
      rw [ewl] at r3 s1
      replace r3:callX E X (N+250104) (.fn k_purserref17_Encode) [.int .u64 (num:Int),.slice ar dl cr er] h2=some (.tup [.slice a3 wl c3 e3,.int .i64 0],h3):=r3
      exact ⟨_,h3,by
        simp (config:={maxSteps:=2000000}) (disch:=first | omega | (simp only [List.length_cons,List.length_nil,List.length_append,List.length_drop]; omega)) only [L_purserref17_group_0,t0,t1,t2,t8,t9,t10,r1,c0,eh2,g2,r3,s1,s2,sv,d0,b_sneq,↓ns_b2s,↓x_slcS,x_M0,x_M1,st2i,Bool.not_true,Bool.not_false,↓s_len,x_lenS,↓x_fieldAddr,x_fieldV,Nat.zero_add,Nat.add_zero,↓s_evD,↓s_dnil,↓s_dL,↓s_dLg,↓s_dRg,↓s_bindD,s_bindD,s_finD,s_addP0,↓s_bump0,Nat.add_zero,↓h_new_get,↓s_load,m_load,↓m_load1,m_load1,↓m_st,m_stE,m_storeE,w_zero,↓s_alloc,x_lenS,↓s_len,List.length_cons,List.length_nil,List.drop_succ_cons,List.drop_nil,Nat.reduceAdd,↓s_skip,↓s_ops,↓s_dops,↓s_seq,↓s_cond,↓s_block,↓s_ret,↓s_nil,↓s_op,↓s_wanted',↓s_wantV,s_wantV,↓s_bindS,s_bindS,↓s_bindE,s_bindE,s_bindE_ret,s_norm,↓s_condV,s_condV,s_block_ret,↓s_getp,↓s_getp0,↓s_con,↓s_os0,↓s_os1,↓s_mov,↓s_pick,↓s_pickE,s_pickE,↓s_bin,↓s_call,↓s_ext,s_same,b_eql,b_neq,b_leq,↓iteN_true,↓iteN_false,iteN_true,iteN_false,Nat.zero_add,List.append_nil,Nat.reduceEqDiff,decide_true,decide_false,Bool.not_true,Bool.not_false,List.getElem?_cons_zero,List.getElem?_cons_succ,beq_self_eq_true]
        exact rfl,kp.trans k03,none,some 0,0,(by (simp only [s_getp,Nat.reduceEqDiff,decide_false,decide_true,iteN_false,iteN_true]; try rfl)),(by (simp only [s_getp,decide_true,iteN_true]; try rfl)),.inl ⟨rfl,rfl,rfl,rfl⟩⟩
theorem gp_more (e:EnDg E) (x:NoDg X) (N m:Nat) (s:List Nat) (bs:byt s=true) (hs:s.length≤20000) (num fr:Nat) (a:Option (Nat × Nat)) (h0:H) (src:SrcH h0 a 1 s) (dn:List Rq) (hdl:dn.length≤20000) (at_ cnt:Nat) (T:Tr V) (h:H) (hat:at_≤s.length) (hcn:cnt≤at_) (I:GpI (.slice a s.length none 1) num fr dn at_ cnt h0 T h) (o:Rq) (k:Nat) (hd:dcV (s.drop at_)=some (o,k)) (hk:o.kind≠255) :
    ∃ T' h',evC (callX E X (N+250104)) 60 m none L_purserref17_group_0 ⟨T,[],h⟩=some (.normal,⟨T',[],h'⟩)∧GpI (.slice a s.length none 1) num fr (dn++[o]) (at_+k) (cnt+1) h0 T' h':=by
  have z0:decide ((0:Int)=0)=true:=rfl
  obtain ⟨t0,t1,t2,⟨ar,cr,er,t8,row⟩,t9,t10,kp⟩:=I
  obtain ⟨h1,k1,r1⟩:=ddecode_go e.ra x.ra (N+1) s bs (by omega) at_ hat a h (src.mono kp)
  rw [hd] at r1
  unfold ddR at r1
  simp only at r1
  rw [show N+1+250103=N+250104 by omega] at r1
  obtain ⟨a2,c2,e2,r1,wb2,ge2⟩:=r1
  obtain ⟨f1,f2,f3,f4,f5⟩:=dc_of _ (byt_drop bs _) o k hd
  rw [List.length_drop] at f5
  have c0:decide ((cnt:Int)≤(s.length:Int))=true:=decide_eq_true (by omega)
  have wc:wr .i64 ((cnt:Int)+1)=((cnt+1:Nat):Int):=by rw [wr_i64 (by omega)]; omega
  have z3:decide (o.kind=255)=false:=decide_eq_false hk
  obtain ⟨h2,eh2⟩:∃ h2,(h1.new (.cells [.int .i64 0,.slice none 0 (some 0) 0] .rw)).put h1.next (.cells [.int .i64 o.kind,.slice a2 o.l.length c2 e2] .rw)=h2:=⟨_,rfl⟩
  have k12:Kp h1 h2:=by rw [← eh2]; (repeat (first | exact Kp.refl _ | refine Kp.put ?_ _ (by first | omega | (simp only [h_next_put,h_next_new,h_next_del]; omega)) | refine Kp.del ?_ (by first | omega | (simp only [h_next_put,h_next_new,h_next_del]; omega)) | refine Kp.trans ?_ (Kp.new _ _)))
  have g2:h2.get h1.next=some (.cells [.int .i64 o.kind,.slice a2 o.l.length c2 e2] .rw):=by rw [← eh2]; exact h_put_same _ _ _
  obtain ⟨h3,eh3⟩:∃ h3,h2.new (.cells [.int .i64 o.kind,.slice a2 o.l.length c2 e2] .rw)=h3:=⟨_,rfl⟩
  have k23:Kp h2 h3:=by rw [← eh3]; exact Kp.new _ _
  have k13:=k12.trans k23
  have k03:=k1.trans k13
  have kn:=kp.1
  have kn1:=k1.1
  have kn3:=k13.1
  obtain ⟨h4,ap,row4,n4,f4'⟩:=rap_row h0.next h3 (by omega) dn (by omega) ar cr er (row.kp k03) o a2 c2 e2 (wb2.ow.kp k13) (fun _ q z eq => ⟨by have:=ge2 q z eq; omega,fun e => by have:=(row.lt e).2; have:=ge2 q z eq; omega⟩)
  have sc:=src_r h2 .i64 o.kind a2 o.l.length c2 e2
  rw [eh3] at sc
  have k04:Kp h0 h4:=⟨by omega,fun j hj => by rw [f4' j (by omega) (fun e => by have:=(row.lt e).1; omega),k03.2 _ (by omega),kp.2 _ hj]⟩
  have ll:(dn++[o]).length=dn.length+1:=by rw [List.length_append]; rfl
  obtain ⟨sl,esl⟩:∃ n,s.length=n:=⟨_,rfl⟩
  obtain ⟨dl,edl⟩:∃ n,dn.length=n:=⟨_,rfl⟩
  obtain ⟨ol,eol⟩:∃ n,o.l.length=n:=⟨_,rfl⟩
  obtain ⟨ak,eak⟩:∃ n,at_+k=n:=⟨_,rfl⟩
  rw [esl] at t0 r1 c0
  rw [edl] at t8 ap ll
  rw [eol] at r1 eh2 g2 eh3 ap sc
  rw [eak] at r1
  exact ⟨_,h4,by
    simp (config:={maxSteps:=2000000}) (disch:=first | omega | (simp only [List.length_cons,List.length_nil,List.length_append,List.length_drop]; omega)) only [L_purserref17_group_0,t0,t1,t8,t10,r1,c0,z3,wc,eh2,g2,eh3,fl2,sc,ap,st2i,ld2,↓s_append,Bool.not_true,↓s_len,x_lenS,↓x_fieldAddr,x_fieldV,Nat.zero_add,Nat.add_zero,↓h_new_get,↓s_load,m_load,↓m_load1,m_load1,↓m_st,m_stE,m_storeE,w_zero,↓s_alloc,x_lenS,↓s_len,↓x_buildS,x_buildE,↓x_P0,↓x_P1,List.length_cons,List.length_nil,List.drop_succ_cons,List.drop_nil,Nat.reduceAdd,↓s_skip,↓s_ops,↓s_seq,↓s_cond,↓s_block,↓s_nil,↓s_op,↓s_bindS,s_bindS,↓s_bindE,s_bindE,s_norm,↓s_condV,s_condV,s_block_normal,↓s_getp,↓s_getp0,↓s_con,↓s_os0,↓s_os1,↓s_mov,↓s_bin,↓s_call,↓s_ext,s_same,b_eql,b_neq,b_leq,b_add,↓iteN_true,↓iteN_false,iteN_true,iteN_false,Nat.zero_add,List.append_nil,Nat.reduceEqDiff,decide_true,decide_false,Bool.not_true,List.getElem?_cons_zero,List.getElem?_cons_succ]
    exact rfl,by rw [esl]; exact (by (simp only [s_getp,s_getp0,Nat.reduceEqDiff,decide_false,iteN_false,t0]; try rfl)),by rw [eak]; exact (by (simp only [s_getp,Nat.reduceEqDiff,decide_false,decide_true,iteN_false,iteN_true]; try rfl)),(by (simp only [s_getp,s_getp0,Nat.reduceEqDiff,decide_false,iteN_false,t2]; try rfl)),⟨_,_,_,by rw [ll]; exact (by (simp only [s_getp,Nat.reduceEqDiff,decide_false,decide_true,iteN_false,iteN_true]; try rfl)),row4⟩,(by (simp only [s_getp,s_getp0,Nat.reduceEqDiff,decide_false,iteN_false,t9]; try rfl)),(by (simp only [s_getp,decide_true,iteN_true]; try rfl)),k04⟩
theorem gp_loop (e:EnDg E) (x:NoDg X) (N m:Nat) (s:List Nat) (bs:byt s=true) (hs:s.length≤20000) (num:Nat) (hn1:1≤num) (hn2:num < 18446744073709551616) (fr:Nat) (a:Option (Nat × Nat)) (h0:H) (src:SrcH h0 a 1 s) :
    ∀ (n g:Nat) (dn:List Rq) (at_ cnt:Nat) (T:Tr V) (h:H),s.length - at_≤n→n+1 < g→at_≤s.length→fr≤at_→cnt≤at_→(s.drop fr).take (at_ - fr)=rB dn→(∀ o ∈ dn,o.kind≠255∧rqOk o=true∧o.ok∧o.l.length≤20000)→GpI (.slice a s.length none 1) num fr dn at_ cnt h0 T h →
    ∃ T' h',loopN (evC (callX E X (N+250104)) 60 m none L_purserref17_group_0) g ⟨T,[],h⟩=some (.ret,⟨T',[],h'⟩)∧GpR h0 (dgR at_ (gaV num (n+1) (s.drop at_) dn)) T' h':=by
  intro n
  induction n with
  | zero =>
    intro g dn at_ cnt T h hn hg hat hfr hcn hp hd I
    obtain ⟨g,rfl⟩:∃ k,g=k+1:=⟨g - 1,by omega⟩
    have hz:dcV (s.drop at_)=none:=by
      unfold dcV
      rw [if_pos (by rw [List.length_drop]; omega)]
    obtain ⟨T',h',r,J⟩:=gp_none e x N m s bs hs num fr a h0 src dn at_ cnt T h hat hcn I hz
    refine ⟨T',h',by rw [l_succ,r]; rfl,?_⟩
    rw [ga_succ,hz]; exact J
  | succ n ih =>
    intro g dn at_ cnt T h hn hg hat hfr hcn hp hd I
    obtain ⟨g,rfl⟩:∃ k,g=k+1:=⟨g - 1,by omega⟩
    rw [ga_succ]
    cases hz:dcV (s.drop at_) with
    | none =>
      obtain ⟨T',h',r,J⟩:=gp_none e x N m s bs hs num fr a h0 src dn at_ cnt T h hat hcn I hz
      exact ⟨T',h',by rw [l_succ,r]; rfl,J⟩
    | some z =>
      obtain ⟨o,k⟩:=z
      obtain ⟨f1,f2,f3,f4,f5⟩:=dc_of _ (byt_drop bs _) o k hz
      rw [List.length_drop] at f5
      simp only
      by_cases hk:o.kind=255
      · rw [if_pos hk]
        obtain ⟨T',h',r,J⟩:=gp_end e x N m s bs hs num hn1 hn2 fr a h0 src dn at_ cnt T h hat hfr hcn hp hd I o k hz hk
        refine ⟨T',h',by rw [l_succ,r]; rfl,?_⟩
        by_cases hc:dn=[]∨o.l≠mkP num dn.length
        · rw [if_pos hc] at J ⊢; exact J
        · rw [if_neg hc] at J ⊢; exact J
      · rw [if_neg hk]
        have lp:=congrArg List.length hp
        rw [List.length_take,List.length_drop] at lp
        have ge:=rB_ge dn
        obtain ⟨T1,h1,r,J⟩:=gp_more e x N m s bs hs num fr a h0 src dn (by omega) at_ cnt T h hat hcn I o k hz hk
        obtain ⟨T',h',r2,K⟩:=ih g (dn++[o]) (at_+k) (cnt+1) T1 h1 (by omega) (by omega) (by omega) (by omega) (by omega) (by
          have h1:at_+k - fr=(at_ - fr)+k:=by omega
          rw [h1,List.take_add,hp,List.drop_drop,show fr+(at_ - fr)=at_ by omega,f3,rB_app]
          unfold rB; simp) (fun o' ho => by
          rcases List.mem_append.1 ho with h' | h'
          · exact hd o' h'
          · rcases List.mem_singleton.1 h' with rfl; exact ⟨hk,f1,f2,by omega⟩) J
        refine ⟨T',h',by rw [l_succ,r,l_normal]; exact r2,?_⟩
        rw [List.drop_drop]
        cases hg:gaV num (n+1) (s.drop (at_+k)) (dn++[o]) with
        | none => rw [hg] at K; exact K
        | some w =>
          obtain ⟨gg,j⟩:=w
          rw [hg] at K
          show GpR h0 (gg,((at_+(k+j):Nat):Int)) T' h'
          rw [← Nat.add_assoc]; exact K
theorem dgroup_go (e:EnDg E) (x:NoDg X) (N:Nat) (s:List Nat) (bs:byt s=true) (hs:s.length≤20000) (num:Nat) (hn1:1≤num) (hn2:num < 18446744073709551616) (at_:Nat) (hat:at_≤s.length) (a:Option (Nat × Nat)) (h:H) (src:SrcH h a 1 s) :
    ∃ h' ar cr er,callX E X (N+250105) (.fn k_purserref17_group) [.slice a s.length none 1,.int .i64 (at_:Int),.int .u64 (num:Int)] h=some (.tup [.slice ar (dgR at_ (gaV num (s.length+1) (s.drop at_) [])).1.length cr er,.int .i64 (dgR at_ (gaV num (s.length+1) (s.drop at_) [])).2],h')∧Kp h h'∧RrF h.next h' (dgR at_ (gaV num (s.length+1) (s.drop at_) [])).1 ar cr er:=by
  rw [x_cfn e.gp _ _ (Nat.le_of_ble_eq_true rfl) (x.gp _ _)]
  have fin:∀ T,GpI (.slice a s.length none 1) num at_ [] at_ 0 h T h→∃ h' ar cr er,fnEnd [.tmp 6,.tmp 7] (bindE (blockE 0 (loopN (evC (callX E X (N+250104)) 60 (N+250104) none L_purserref17_group_0) (N+250104) ⟨T,[],h⟩)) (evC (callX E X (N+250104)) 60 (N+250104) none R_purserref17_group_0))=some (.tup [.slice ar (dgR at_ (gaV num (s.length+1) (s.drop at_) [])).1.length cr er,.int .i64 (dgR at_ (gaV num (s.length+1) (s.drop at_) [])).2],h')∧Kp h h'∧RrF h.next h' (dgR at_ (gaV num (s.length+1) (s.drop at_) [])).1 ar cr er:=by
    intro T I
    obtain ⟨T',h',rr,kp,ar,cr,er,t6,t7,row⟩:=gp_loop e x N (N+250104) s bs hs num hn1 hn2 at_ a h src s.length (N+250104) [] at_ 0 T h (by omega) (by omega) hat (Nat.le_refl _) (Nat.zero_le _) (by rw [Nat.sub_self]; rfl) (fun o ho => by cases ho) I
    rw [rr]
    refine ⟨h',ar,cr,er,?_,kp,row⟩
    generalize (dgR at_ (gaV num (s.length+1) (s.drop at_) [])).1.length=dl at *
    generalize (dgR at_ (gaV num (s.length+1) (s.drop at_) [])).2=d2 at *
    simp (config:={maxSteps:=2000000}) (disch:=first | omega | (simp only [List.length_cons,List.length_nil,List.length_append,List.length_drop]; omega)) only [t6,t7,s_res0,s_bindE_ret,s_block_ret,s_end,s_res0,s_res1,s_tup2]
    try rfl
  obtain ⟨R,eR⟩:∃ R,R_purserref17_group_0=R:=⟨_,rfl⟩
  obtain ⟨Lo,eL⟩:∃ R,L_purserref17_group_0=R:=⟨_,rfl⟩
  rw [eR,eL] at fin ⊢
  have fin':=fun T q0 q1 q2 q8 q9 q10 => fin T ⟨q0,q1,q2,⟨none,some 0,0,q8,.inl ⟨rfl,rfl,rfl,rfl⟩⟩,q9,q10,Kp.refl _⟩
  clear fin
  rw [show ([]:List Rq).length=0 from rfl] at fin'
  generalize dgR at_ (gaV num (s.length+1) (s.drop at_) [])=D at *
  generalize s.length=sl at *
  simp (config:={maxSteps:=2000000}) (disch:=first | omega | (simp only [List.length_cons,List.length_nil,List.length_append,List.length_drop]; omega)) only [Nat.zero_add,↓l_loop,↓l_succ,Nat.reduceAdd,↓s_ops,↓s_seq,↓s_block,↓s_nil,↓s_op,↓s_bindS,s_bindS,↓s_bindE,s_bindE,s_norm,↓s_getp,↓s_get,↓s_con,↓s_list0,↓s_list1,↓s_mov,↓iteN_true,↓iteN_false,iteN_true,iteN_false,Nat.zero_add,Nat.reduceEqDiff,decide_true,decide_false]
  exact fin' _ (by (simp only [s_getp,Nat.reduceEqDiff,decide_false,iteN_false]; try rfl)) (by (simp only [s_getp,Nat.reduceEqDiff,decide_false,iteN_false]; try rfl)) (by (simp only [s_getp,Nat.reduceEqDiff,decide_false,iteN_false]; try rfl)) (by (simp only [s_getp,Nat.reduceEqDiff,decide_false,decide_true,iteN_false,iteN_true]; try rfl)) (by (simp only [s_getp,Nat.reduceEqDiff,decide_false,decide_true,iteN_false,iteN_true]; try rfl)) (by (simp only [s_getp,decide_true,iteN_true]; try rfl))
end Go.Eng
namespace Go.Eng
open Go
variable {E:Nat→Option Fn} {X:Orc}
set_option linter.unusedSimpArgs false
set_option linter.unusedVariables false
structure DrI (v:V) (gs:List (List Rq)) (at_ num cnt:Nat) (h0:H) (T:Tr V) (h:H):Prop where
  t0:evO T (.t 0)=v
  t1:evO T (.t 1)=.int .u64 (num:Int)
  t6:∃ a c e,evO T (.t 6)=.slice a gs.length c e∧GgF (geK h0.next) h0.next h gs a c e
  t7:evO T (.t 7)=.int .i64 (at_:Int)
  t8:evO T (.t 8)=.int .i64 (cnt:Int)
  kp:Kp h0 h
theorem dr_stop (e:EnDg E) (x:NoDg X) (N m:Nat) (s:List Nat) (bs:byt s=true) (hs:s.length≤20000) (a:Option (Nat × Nat)) (h0:H) (src:SrcH h0 a 1 s) (gs:List (List Rq)) (at_ num cnt:Nat) (hnum:num < 18446744073709551616) (T:Tr V) (h:H) (hat:at_≤s.length) (hcn:cnt≤s.length+1) (I:DrI (.slice a s.length none 1) gs at_ num cnt h0 T h) (hd:cnt=s.length+1∨num=0∨gaV num (s.length+1) (s.drop at_) []=none) :
    ∃ T' h',evC (callX E X (N+250105)) 39 m none L_purserref17_Read_0 ⟨T,[],h⟩=some (.exit 0,⟨T',[],h'⟩)∧∃ num' cnt',DrI (.slice a s.length none 1) gs at_ num' cnt' h0 T' h':=by
  obtain ⟨t0,t1,⟨ar,cr,er,t6,row⟩,t7,t8,kp⟩:=I
  obtain ⟨dl,edl⟩:∃ n,gs.length=n:=⟨_,rfl⟩
  by_cases h1:cnt=s.length+1
  · have c0:decide ((cnt:Int)≤(s.length:Int))=false:=decide_eq_false (by omega)
    obtain ⟨sl,esl⟩:∃ n,s.length=n:=⟨_,rfl⟩
    rw [esl] at t0 c0
    rw [edl] at t6
    exact ⟨_,h,by
      simp (config:={maxSteps:=2000000}) (disch:=first | omega | (simp only [List.length_cons,List.length_nil,List.length_append,List.length_drop]; omega)) only [L_purserref17_Read_0,t0,t8,c0,↓s_len,x_lenS,x_lenS,↓s_len,↓s_ops,↓s_seq,↓s_cond,↓s_exit,↓s_nil,↓s_op,↓s_opg,↓s_wanted',↓s_wantV,s_wantV,beq_true,↓s_bindS,s_bindS,↓s_bindE,s_bindE,s_bindE_exit,s_norm,↓s_condV,s_condV,↓s_getp,↓s_con,↓s_mov,↓s_pick,↓s_pickE,s_pickE,↓s_bin,s_same,b_leq,↓iteN_true,↓iteN_false,iteN_true,iteN_false,Nat.reduceEqDiff,decide_true,decide_false]
      exact rfl,num,cnt,by rw [esl]; exact (by (simp only [s_getp,Nat.reduceEqDiff,decide_false,iteN_false,t0]; try rfl)),(by (simp only [s_getp,Nat.reduceEqDiff,decide_false,iteN_false,t1]; try rfl)),⟨ar,cr,er,by rw [edl]; exact (by (simp only [s_getp,Nat.reduceEqDiff,decide_false,iteN_false,t6]; try rfl)),row⟩,(by (simp only [s_getp,Nat.reduceEqDiff,decide_false,iteN_false,t7]; try rfl)),(by (simp only [s_getp,Nat.reduceEqDiff,decide_false,iteN_false,t8]; try rfl)),kp⟩
  have c0:decide ((cnt:Int)≤(s.length:Int))=true:=decide_eq_true (by omega)
  by_cases h2:num=0
  · have c1:decide ((0:Int) < (num:Int))=false:=decide_eq_false (by omega)
    obtain ⟨sl,esl⟩:∃ n,s.length=n:=⟨_,rfl⟩
    rw [esl] at t0 c0
    rw [edl] at t6
    exact ⟨_,h,by
      simp (config:={maxSteps:=2000000}) (disch:=first | omega | (simp only [List.length_cons,List.length_nil,List.length_append,List.length_drop]; omega)) only [L_purserref17_Read_0,t0,t1,t8,c0,c1,↓s_len,x_lenS,x_lenS,↓s_len,↓s_ops,↓s_seq,↓s_cond,↓s_exit,↓s_nil,↓s_op,↓s_opg,↓s_wanted',↓s_wantV,s_wantV,↓s_bindS,s_bindS,↓s_bindE,s_bindE,s_bindE_exit,s_norm,↓s_condV,s_condV,↓s_getp,↓s_con,↓s_mov,↓s_pick,↓s_pickE,s_pickE,↓s_bin,s_same,b_leq,b_gtr,↓iteN_true,↓iteN_false,iteN_true,iteN_false,Nat.reduceEqDiff,decide_true,decide_false,beq_self_eq_true]
      exact rfl,num,cnt,by rw [esl]; exact (by (simp only [s_getp,Nat.reduceEqDiff,decide_false,iteN_false,t0]; try rfl)),(by (simp only [s_getp,Nat.reduceEqDiff,decide_false,iteN_false,t1]; try rfl)),⟨ar,cr,er,by rw [edl]; exact (by (simp only [s_getp,Nat.reduceEqDiff,decide_false,iteN_false,t6]; try rfl)),row⟩,(by (simp only [s_getp,Nat.reduceEqDiff,decide_false,iteN_false,t7]; try rfl)),(by (simp only [s_getp,Nat.reduceEqDiff,decide_false,iteN_false,t8]; try rfl)),kp⟩
  have c1:decide ((0:Int) < (num:Int))=true:=decide_eq_true (by omega)
  have hd:gaV num (s.length+1) (s.drop at_) []=none:=by
    rcases hd with hd | hd | hd
    · exact absurd hd h1
    · exact absurd hd h2
    · exact hd
  obtain ⟨h3,a3,c3,e3,r3,k3,row3⟩:=dgroup_go e x N s bs hs num (by omega) hnum at_ hat a h (src.mono kp)
  rw [hd] at r3
  replace r3:callX E X (N+250105) (.fn k_purserref17_group) [.slice a s.length none 1,.int .i64 (at_:Int),.int .u64 (num:Int)] h=some (.tup [.slice a3 0 c3 e3,.int .i64 (-1)],h3):=r3
  have d1:decide ((-1:Int) < 0)=true:=rfl
  obtain ⟨sl,esl⟩:∃ n,s.length=n:=⟨_,rfl⟩
  rw [esl] at t0 c0 r3
  rw [edl] at t6
  exact ⟨_,h3,by
    simp (config:={maxSteps:=2000000}) (disch:=first | omega | (simp only [List.length_cons,List.length_nil,List.length_append,List.length_drop]; omega)) only [L_purserref17_Read_0,t0,t1,t7,t8,c0,c1,r3,↓s_len,x_lenS,x_lenS,↓s_len,Int.reduceLT,↓s_skip,↓s_ops,↓s_seq,↓s_cond,↓s_block,↓s_exit,↓s_nil,↓s_op,↓s_opg,↓s_wanted',↓s_wantV,s_wantV,↓s_bindS,s_bindS,↓s_bindE,s_bindE,s_bindE_exit,s_norm,↓s_condV,s_condV,s_block_exit,↓s_getp,↓s_con,↓s_os0,↓s_os1,↓s_mov,↓s_pick,↓s_pickE,s_pickE,↓s_bin,↓s_call,↓s_ext,s_same,b_lss,b_leq,b_gtr,↓iteN_true,↓iteN_false,iteN_true,iteN_false,Nat.reduceEqDiff,decide_true,decide_false,List.getElem?_cons_zero,List.getElem?_cons_succ,if_false,beq_self_eq_true]
    exact rfl,num,cnt,by rw [esl]; exact (by (simp only [s_getp,Nat.reduceEqDiff,decide_false,iteN_false,t0]; try rfl)),(by (simp only [s_getp,Nat.reduceEqDiff,decide_false,iteN_false,t1]; try rfl)),⟨ar,cr,er,by rw [edl]; exact (by (simp only [s_getp,Nat.reduceEqDiff,decide_false,iteN_false,t6]; try rfl)),row.kp k3⟩,(by (simp only [s_getp,Nat.reduceEqDiff,decide_false,iteN_false,t7]; try rfl)),(by (simp only [s_getp,Nat.reduceEqDiff,decide_false,iteN_false,t8]; try rfl)),kp.trans k3⟩
theorem dr_more (e:EnDg E) (x:NoDg X) (N m:Nat) (s:List Nat) (bs:byt s=true) (hs:s.length≤20000) (a:Option (Nat × Nat)) (h0:H) (src:SrcH h0 a 1 s) (gs:List (List Rq)) (hgs:gs.length≤100000) (at_ num cnt:Nat) (hnum:num < 18446744073709551616) (h1:num≠0) (T:Tr V) (h:H) (hat:at_≤s.length) (hcn:cnt≤s.length) (I:DrI (.slice a s.length none 1) gs at_ num cnt h0 T h) (g:List Rq) (j:Nat) (hd:gaV num (s.length+1) (s.drop at_) []=some (g,j)) :
    ∃ T' h',evC (callX E X (N+250105)) 39 m none L_purserref17_Read_0 ⟨T,[],h⟩=some (.normal,⟨T',[],h'⟩)∧DrI (.slice a s.length none 1) (gs++[g]) (at_+j) ((num+1) % 18446744073709551616) (cnt+1) h0 T' h':=by
  obtain ⟨t0,t1,⟨ar,cr,er,t6,row⟩,t7,t8,kp⟩:=I
  have c0:decide ((cnt:Int)≤(s.length:Int))=true:=decide_eq_true (by omega)
  have c1:decide ((0:Int) < (num:Int))=true:=decide_eq_true (by omega)
  obtain ⟨h3,a3,c3,e3,r3,k3,row3⟩:=dgroup_go e x N s bs hs num (by omega) hnum at_ hat a h (src.mono kp)
  rw [hd] at r3 row3
  replace r3:callX E X (N+250105) (.fn k_purserref17_group) [.slice a s.length none 1,.int .i64 (at_:Int),.int .u64 (num:Int)] h=some (.tup [.slice a3 g.length c3 e3,.int .i64 ((at_+j:Nat):Int)],h3):=r3
  replace row3:RrF h.next h3 g a3 c3 e3:=row3
  have d1:decide (((at_+j:Nat):Int) < 0)=false:=decide_eq_false (by omega)
  have wc:wr .i64 ((cnt:Int)+1)=((cnt+1:Nat):Int):=by rw [wr_i64 (by omega)]; omega
  have wn:wr .u64 ((num:Int)+1)=(((num+1) % 18446744073709551616:Nat):Int):=by
    by_cases h64:num+1 < 18446744073709551616
    · rw [Nat.mod_eq_of_lt h64,wr_u64 (by omega)]; rfl
    · have:num=18446744073709551615:=by omega
      rw [this]; rfl
  obtain ⟨h4,eh4⟩:∃ h4,h3.new (.cells [.slice a3 g.length c3 e3] .rw)=h4:=⟨_,rfl⟩
  have k34:Kp h3 h4:=by rw [← eh4]; exact Kp.new _ _
  have sc:=src_g h3 a3 g.length c3 e3
  rw [eh4] at sc
  have kn:=kp.1
  have kn3:=k3.1
  have kn4:=k34.1
  have k04:=k3.trans k34
  obtain ⟨h5,ap,row5,n5,f5⟩:=gap_row (geK h0.next) h0.next h4 (by omega) gs (by omega) ar cr er (row.kp k04) g a3 c3 e3 (row3.k.mono kn4 (fun i _ hi => k34.2 i hi) (fun i hk hi => ⟨by show h0.next≤i; omega,fun e => by have:=(row.lt e).2.1; omega⟩))
  have k05:Kp h0 h5:=⟨by omega,fun i hi => by rw [f5 i (by omega) (fun e => by have:=(row.lt e).1; omega),k04.2 _ (by omega),kp.2 _ hi]⟩
  have ll:(gs++[g]).length=gs.length+1:=by rw [List.length_append]; rfl
  obtain ⟨sl,esl⟩:∃ n,s.length=n:=⟨_,rfl⟩
  obtain ⟨dl,edl⟩:∃ n,gs.length=n:=⟨_,rfl⟩
  obtain ⟨gl,egl⟩:∃ n,g.length=n:=⟨_,rfl⟩
  obtain ⟨aj,eaj⟩:∃ n,at_+j=n:=⟨_,rfl⟩
  obtain ⟨nn,enn⟩:∃ y,(num+1) % 18446744073709551616=y:=⟨_,rfl⟩
  rw [esl] at t0 c0 r3
  rw [edl] at t6 ap ll
  rw [egl] at r3 eh4 sc ap
  rw [eaj] at r3 d1
  rw [enn] at wn
  exact ⟨_,h5,by
    simp (config:={maxSteps:=2000000}) (disch:=first | omega | (simp only [List.length_cons,List.length_nil,List.length_append,List.length_drop]; omega)) only [L_purserref17_Read_0,t0,t1,t6,t7,t8,c0,c1,r3,d1,wc,wn,eh4,sc,ap,↓s_append,↓s_len,x_lenS,Nat.zero_add,w_zero,x_lenS,↓s_len,↓x_buildS,x_buildE,↓x_P0,↓x_P1,x_fill0,x_fills,List.length_cons,List.length_nil,List.drop_succ_cons,List.drop_nil,↓s_skip,↓s_ops,↓s_seq,↓s_cond,↓s_block,↓s_nil,↓s_op,↓s_opg,↓s_wanted',↓s_wantV,s_wantV,↓s_bindS,s_bindS,↓s_bindE,s_bindE,s_norm,↓s_condV,s_condV,s_block_normal,↓s_getp,↓s_con,↓s_os0,↓s_os1,↓s_mov,↓s_pick,↓s_pickE,s_pickE,↓s_bin,↓s_call,↓s_ext,s_same,b_lss,b_leq,b_gtr,b_add,↓iteN_true,↓iteN_false,iteN_true,iteN_false,Nat.zero_add,List.append_nil,Nat.reduceEqDiff,decide_true,decide_false,List.getElem?_cons_zero,List.getElem?_cons_succ,beq_self_eq_true]
    exact rfl,by rw [esl]; exact (by (simp only [s_getp,Nat.reduceEqDiff,decide_false,iteN_false,t0]; try rfl)),by rw [enn]; exact (by (simp only [s_getp,Nat.reduceEqDiff,decide_false,decide_true,iteN_false,iteN_true]; try rfl)),⟨_,_,_,by rw [ll]; exact (by (simp only [s_getp,Nat.reduceEqDiff,decide_false,decide_true,iteN_false,iteN_true]; try rfl)),row5⟩,by rw [eaj]; exact (by (simp only [s_getp,Nat.reduceEqDiff,decide_false,decide_true,iteN_false,iteN_true]; try rfl)),(by (simp only [s_getp,decide_true,iteN_true]; try rfl)),k05⟩
theorem dr_loop (e:EnDg E) (x:NoDg X) (N m:Nat) (s:List Nat) (bs:byt s=true) (hs:s.length≤20000) (a:Option (Nat × Nat)) (h0:H) (src:SrcH h0 a 1 s) :
    ∀ (f g:Nat) (gs:List (List Rq)) (at_ num cnt:Nat) (T:Tr V) (h:H),f+cnt=s.length+1→f < g→at_≤s.length→num < 18446744073709551616→gs.length≤cnt→DrI (.slice a s.length none 1) gs at_ num cnt h0 T h →
    ∃ T' h' num' cnt',loopN (evC (callX E X (N+250105)) 39 m none L_purserref17_Read_0) g ⟨T,[],h⟩=some (.exit 0,⟨T',[],h'⟩)∧DrI (.slice a s.length none 1) (gs++(grV s f at_ num).1) (grV s f at_ num).2 num' cnt' h0 T' h':=by
  intro f
  induction f with
  | zero =>
    intro g gs at_ num cnt T h hf hg hat hnum hgl I
    obtain ⟨g,rfl⟩:∃ k,g=k+1:=⟨g - 1,by omega⟩
    obtain ⟨T',h',r,n',c',J⟩:=dr_stop e x N m s bs hs a h0 src gs at_ num cnt hnum T h hat (by omega) I (.inl (by omega))
    refine ⟨T',h',n',c',by rw [l_succ,r]; rfl,?_⟩
    show DrI _ (gs++[]) at_ _ _ _ _ _
    rw [List.append_nil]; exact J
  | succ f ih =>
    intro g gs at_ num cnt T h hf hg hat hnum hgl I
    obtain ⟨g,rfl⟩:∃ k,g=k+1:=⟨g - 1,by omega⟩
    rw [gr_succ]
    by_cases hz:num=0
    · rw [if_pos hz]
      obtain ⟨T',h',r,n',c',J⟩:=dr_stop e x N m s bs hs a h0 src gs at_ num cnt hnum T h hat (by omega) I (.inr (.inl hz))
      refine ⟨T',h',n',c',by rw [l_succ,r]; rfl,?_⟩
      show DrI _ (gs++[]) at_ _ _ _ _ _
      rw [List.append_nil]; exact J
    rw [if_neg hz]
    cases hd:gaV num (s.length+1) (s.drop at_) [] with
    | none =>
      rw [gaR_none hd,if_pos rfl]
      obtain ⟨T',h',r,n',c',J⟩:=dr_stop e x N m s bs hs a h0 src gs at_ num cnt hnum T h hat (by omega) I (.inr (.inr hd))
      refine ⟨T',h',n',c',by rw [l_succ,r]; rfl,?_⟩
      show DrI _ (gs++[]) at_ _ _ _ _ _
      rw [List.append_nil]; exact J
    | some w =>
      obtain ⟨gg,j⟩:=w
      rw [gaR_some hd,if_neg (by simp)]
      obtain ⟨g',q1,q2,q3,q4,q5,q6⟩:=ga_of num _ _ _ gg j (byt_drop bs _) hd
      rw [List.length_drop] at q5
      obtain ⟨T1,h1,r,J⟩:=dr_more e x N m s bs hs a h0 src gs (by omega) at_ num cnt hnum hz T h hat (by omega) I gg j hd
      obtain ⟨T',h',n',c',r2,K⟩:=ih g (gs++[gg]) (at_+j) _ (cnt+1) T1 h1 (by omega) (by omega) (by omega) (Nat.mod_lt _ (by omega)) (by rw [List.length_append]; simp; omega) J
      refine ⟨T',h',n',c',by rw [l_succ,r,l_normal]; exact r2,?_⟩
      rw [List.append_assoc] at K
      exact K
theorem dread_go (e:EnDg E) (x:NoDg X) (N:Nat) (s:List Nat) (bs:byt s=true) (hs:s.length≤20000) (num:Nat) (hnum:num < 18446744073709551616) (a:Option (Nat × Nat)) (h:H) (src:SrcH h a 1 s) :
    ∃ h' ar cr er,callX E X (N+250106) (.fn k_purserref17_Read) [.slice a s.length none 1,.int .u64 (num:Int)] h=some (.tup [.slice ar (srR s num).1.length cr er,.int .i64 ((srR s num).2:Int)],h')∧Kp h h'∧GgF (geK h.next) h.next h' (srR s num).1 ar cr er:=by
  rw [x_cfn e.rd _ _ (Nat.le_of_ble_eq_true rfl) (x.rd _ _)]
  unfold srR
  have fin:∀ T,DrI (.slice a s.length none 1) [] 0 num 0 h T h→∃ h' ar cr er,fnEnd [.tmp 4,.tmp 5] (bindE (blockE 0 (loopN (evC (callX E X (N+250105)) 39 (N+250105) none L_purserref17_Read_0) (N+250105) ⟨T,[],h⟩)) (evC (callX E X (N+250105)) 39 (N+250105) none R_purserref17_Read_0))=some (.tup [.slice ar (grV s (s.length+1) 0 num).1.length cr er,.int .i64 ((grV s (s.length+1) 0 num).2:Int)],h')∧Kp h h'∧GgF (geK h.next) h.next h' (grV s (s.length+1) 0 num).1 ar cr er:=by
    intro T I
    obtain ⟨T',h',n',c',rr,J⟩:=dr_loop e x N (N+250105) s bs hs a h src (s.length+1) (N+250105) [] 0 num 0 T h (by omega) (by omega) (Nat.zero_le _) hnum (Nat.le_refl _) I
    rw [List.nil_append] at J
    obtain ⟨t0,t1,⟨ar,cr,er,t6,row⟩,t7,t8,kp⟩:=J
    rw [rr]
    refine ⟨h',ar,cr,er,?_,kp,row⟩
    generalize (grV s (s.length+1) 0 num).1.length=dl at *
    generalize (grV s (s.length+1) 0 num).2=an at *
    simp (config:={maxSteps:=2000000}) (disch:=first | omega | (simp only [List.length_cons,List.length_nil,List.length_append,List.length_drop]; omega)) only [R_purserref17_Read_0,t6,t7,s_res0,↓s_ops,↓s_seq,↓s_ret,↓s_nil,↓s_op,↓s_bindS,s_bindS,↓s_bindE,s_bindE,s_norm,s_block_exit,↓s_getp,↓s_mov,s_end,s_res0,s_res1,s_tup2,↓iteN_true,↓iteN_false,iteN_true,iteN_false,Nat.reduceEqDiff,decide_true,decide_false,if_true]
    try rfl
  obtain ⟨R,eR⟩:∃ R,R_purserref17_Read_0=R:=⟨_,rfl⟩
  obtain ⟨Lo,eL⟩:∃ R,L_purserref17_Read_0=R:=⟨_,rfl⟩
  rw [eR,eL] at fin ⊢
  have fin':=fun T q0 q1 q6 q7 q8 => fin T ⟨q0,q1,⟨none,some 0,0,q6,.nil _ _ _⟩,q7,q8,Kp.refl _⟩
  clear fin
  rw [show ([]:List (List Rq)).length=0 from rfl] at fin'
  generalize grV s (s.length+1) 0 num=D at *
  generalize s.length=sl at *
  simp (config:={maxSteps:=2000000}) (disch:=first | omega | (simp only [List.length_cons,List.length_nil,List.length_append,List.length_drop]; omega)) only [Nat.zero_add,↓l_loop,↓l_succ,↓s_ops,↓s_seq,↓s_block,↓s_nil,↓s_op,↓s_bindS,s_bindS,↓s_bindE,s_bindE,s_norm,↓s_con,↓s_list0,↓s_list1,↓s_mov,Nat.zero_add]
  exact fin' _ (by (simp only [s_getp,Nat.reduceEqDiff,decide_false,iteN_false]; try rfl)) (by (simp only [s_getp,Nat.reduceEqDiff,decide_false,iteN_false]; try rfl)) (by (simp only [s_getp,Nat.reduceEqDiff,decide_false,decide_true,iteN_false,iteN_true]; try rfl)) (by (simp only [s_getp,Nat.reduceEqDiff,decide_false,decide_true,iteN_false,iteN_true]; try rfl)) (by (simp only [s_getp,decide_true,iteN_true]; try rfl))
end Go.Eng
