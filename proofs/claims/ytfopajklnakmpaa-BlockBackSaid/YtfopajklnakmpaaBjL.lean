/- What functions of the program come to: own work. -/
import Derived.Test.YtfopajklnakmpaaBjK
namespace Go.Eng
open Go
variable {E:Nat→Option Fn} {X:Orc}
set_option linter.unusedSimpArgs false
set_option linter.unusedVariables false
theorem flneq (h:H) (L:List Lf) (a b:List V) (x:Bool) (e:eqAll L a b=some x):binV .neq (.flat L) h (.agg a) (.agg b)=some (.bool (!x)):=by
  show (match eqAll L a b with | some b => some (V.bool (!b)) | none => none)=_
  rw [e]
theorem fleql (h:H) (L:List Lf) (a b:List V) (x:Bool) (e:eqAll L a b=some x):binV .eql (.flat L) h (.agg a) (.agg b)=some (.bool x):=by
  show (match eqAll L a b with | some b => some (V.bool b) | none => none)=_
  rw [e]
theorem eqAll_self:∀ (l:List V) (L:List Lf),L=List.replicate l.length .i→(∀ v ∈ l,∃ k n,v=.int k n)→eqAll L l l=some true:=by
  intro l
  induction l with
  | nil => intro L hL _; rw [hL]; rfl
  | cons a r ih =>
    intro L hL hv
    obtain ⟨k,n,rfl⟩:=hv a List.mem_cons_self
    have:=ih _ rfl (fun v h => hv v (List.mem_cons_of_mem _ h))
    rw [hL]
    simp only [List.length_cons,List.replicate_succ,eqAll,this,eqLf,kindEq_self,_root_.cond_true,ieq_dec,decide_true,Bool.and_self]
theorem ofI_int (k:IntKind) (l:List Nat):∀ v ∈ ofI k l,∃ k n,v=V.int k n:=by
  induction l with
  | nil => intro v hv; cases hv
  | cons n r ih =>
    intro v hv
    rcases List.mem_cons.1 hv with rfl | hv
    · exact ⟨_,_,rfl⟩
    · exact ih v hv
theorem hdV_int (x:HdQ):∀ v ∈ hdV x,∃ k n,v=V.int k n:=by
  intro v hv
  unfold hdV at hv
  simp only [List.mem_append,List.mem_cons,List.not_mem_nil,or_false] at hv
  rcases hv with ((rfl | hv) | hv) | rfl | rfl | rfl
  · exact ⟨_,_,rfl⟩
  · exact ofI_int _ _ v hv
  · exact ofI_int _ _ v hv
  · exact ⟨_,_,rfl⟩
  · exact ⟨_,_,rfl⟩
  · exact ⟨_,_,rfl⟩
theorem hd_self (x:HdQ) (ok:x.ok) (L:List Lf) (hL:L=List.replicate 68 .i):eqAll L (hdV x) (hdV x)=some true :=
  eqAll_self _ L (by rw [hL,hdV_len x ok]) (hdV_int x)
theorem hash_self (s:List Nat) (hs:s.length=32) (L:List Lf) (hL:L=List.replicate 32 .i):eqAll L (ofI .u8 s) (ofI .u8 s)=some true :=
  eqAll_self _ L (by rw [hL,ofI_len,hs]) (ofI_int _ s)
structure SbI (v2 v3:V) (i:Nat) (h0:H) (T:Tr V) (h:H):Prop where
  t2:evO T (.t 2)=v2
  t3:evO T (.t 3)=v3
  t5:evO T (.t 5)=.int .i64 (i:Int)
  kp:Kp h0 h
theorem tx_beq {S:Nat→Prop} {h:H} {t:TxQ} {P:List V} (c:TxC S h t P):V.beq (.agg P) (.agg P)=true:=by
  obtain ⟨_,_,_,_,_,_,eP,_⟩:=c
  rw [eP]; exact vbeq4 _ _ _ _ _ _ _ _ _ _ _
theorem sb_round (e:EnDb E) (x:NoDb X) (M m:Nat) (hM:100 < M) (txs:List TxQ) (lt:txs.length≤50000) (ok:∀ t ∈ txs,t.ok∧gtOk t) (P1 P2:List V) (pb qb:Nat) (a b:Option (Nat × Nat)) (c d:Option Nat) (ez ey:Nat) (h0:H) (gb1:h0.get pb=some (.cells P1 .rw)) (gb2:h0.get qb=some (.cells P2 .rw)) (lpb:pb < h0.next) (lqb:qb < h0.next) (p68:P1[68]?=some (.slice a txs.length c ez)) (q68:P2[68]?=some (.slice b txs.length d ey)) (row1:RowG (fun j => j < h0.next) 4 TxC h0 txs a ez) (row2:RowG (fun j => j < h0.next) 4 TxC h0 txs b ey) (i:Nat) (hi:i < txs.length) (T:Tr V) (h:H) (I:SbI (.ptr (some (pb,0))) (.ptr (some (qb,0))) i h0 T h) :
    ∃ T' h',evC (callX E X (M+24)) 41 m none L_purserref07_Same_0 ⟨T,[],h⟩=some (.normal,⟨T',[],h'⟩)∧SbI (.ptr (some (pb,0))) (.ptr (some (qb,0))) (i+1) h0 T' h':=by
  obtain ⟨t2,t3,t5,kp⟩:=I
  have ht:=List.getElem?_eq_getElem hi
  generalize txs[i]=t at ht
  obtain ⟨q,off,vs,md,Q,rfl,rfl,hq,gq,tc,ld⟩:=row_at row1 i t ht
  obtain ⟨r,off2,us,md2,R,rfl,rfl,hr,gr,tc2,ld2⟩:=row_at row2 i t ht
  have g1:h.get pb=some (.cells P1 .rw):=by rw [kp.2 _ lpb,gb1]
  have g2:h.get qb=some (.cells P2 .rw):=by rw [kp.2 _ lqb,gb2]
  have gq':h.get q=some (.cells vs md):=by rw [kp.2 _ hq,gq]
  have gr':h.get r=some (.cells us md2):=by rw [kp.2 _ hr,gr]
  have okt:=ok t (List.mem_of_getElem? ht)
  obtain ⟨h1,c1,k1⟩:=dsame6_go e x M hM t t okt.1 okt.1 okt.2 okt.2 Q R h (tc.kp kp) (tc2.kp kp)
  rw [decide_eq_true rfl] at c1
  have c0:decide ((i:Int) < (txs.length:Int))=true:=decide_eq_true (by omega)
  have wi:wr .i64 ((i:Int)+1)=((i+1:Nat):Int):=by rw [wr_i64 (by omega)]; omega
  have ix:idx (i:Int) txs.length=some i:=idxn hi
  have b1:=tx_beq tc
  have b2:=tx_beq tc2
  generalize txs.length=n at *
  refine ⟨_,h1,by
    simp (config:={maxSteps:=2000000}) (disch:=first | omega | (simp only [List.length_cons,List.length_nil,List.length_append,List.length_drop]; omega)) only [L_purserref07_Same_0,t2,t3,t5,g1,g2,p68,q68,c0,ix,gq',gr',ld,ld2,c1,wi,Bool.not_true,↓s_len,x_lenS,↓x_fieldAddr,x_fieldV,Nat.zero_add,↓s_evD,↓s_dnil,↓s_dL,↓s_dR,↓s_dB,↓s_bindD,s_bindD,s_finD,s_addP0,↓s_bump0,↓s_load,m_load,↓m_load1,m_load1,↓x_idxS,x_idxSE,x_addrE,x_lenS,↓s_len,↓s_skip,↓s_ops,↓s_dops,↓s_seq,↓s_cond,↓s_block,↓s_nil,↓s_op,↓s_bindS,s_bindS,↓s_bindE,s_bindE,s_norm,↓s_condV,s_condV,s_block_normal,↓s_getp,↓s_con,↓s_os0,↓s_os1,↓s_mov,↓s_bin,↓s_un,↓s_call,s_same,b_lss,b_add,u_not,↓iteN_true,↓iteN_false,iteN_true,iteN_false,Nat.zero_add,Nat.reduceEqDiff,decide_true,decide_false,Bool.not_true]
    exact rfl,⟨(by (simp only [s_getp,Nat.reduceEqDiff,decide_false,iteN_false,t2]; try rfl)),(by (simp only [s_getp,Nat.reduceEqDiff,decide_false,iteN_false,t3]; try rfl)),(by (simp only [s_getp,decide_true,iteN_true]; try rfl)),kp.trans k1⟩⟩
theorem bsame_go (e:EnDb E) (x:NoDb X) (e7:E k_purserref07_Same=some f_purserref07_Same) (x7:∀ a h,X (.fn k_purserref07_Same) a h=none) (M:Nat) (hM:60000 < M) (y:BkQ) (ok:y.ok) (g:gbL y) (P1 P2:List V) (h:H) (b1:BkC (fun j => j < h.next) h y P1) (b2:BkC (fun j => j < h.next) h y P2) :
    ∃ h',callX E X (M+25) (.fn k_purserref07_Same) [.agg P1,.agg P2] h=some (.bool true,h')∧Kp h h':=by
  rw [x_cfn e7 _ _ (Nat.le_of_ble_eq_true rfl) (x7 _ _)]
  have ca':∀ l:List V,(V.agg l).cells=l:=fun _ => rfl
  obtain ⟨hb,ehb⟩:∃ hb,(h.new (.cells P1 .rw)).new (.cells P2 .rw)=hb:=⟨_,rfl⟩
  have kb:Kp h hb:=by rw [← ehb]; (repeat (first | exact Kp.refl _ | refine Kp.put ?_ _ (by first | omega | (simp only [h_next_put,h_next_new,h_next_del]; omega)) | refine Kp.del ?_ (by first | omega | (simp only [h_next_put,h_next_new,h_next_del]; omega)) | refine Kp.trans ?_ (Kp.new _ _)))
  have nb:hb.next=h.next+2:=by rw [← ehb]; rfl
  have g1:hb.get h.next=some (.cells P1 .rw):=by rw [← ehb]; (simp (disch:=omega) only [h_new_get,h_next_new,Nat.add_eq_left,decide_true,decide_false,iteN_true,iteN_false,reduceCtorEq,]; try rfl)
  have g2:hb.get (h.next+1)=some (.cells P2 .rw):=by rw [← ehb]; (simp (disch:=omega) only [h_new_get,h_next_new,decide_true,iteN_true,]; try rfl)
  obtain ⟨a,c,ez,e1,row1⟩:=b1.kp kb
  obtain ⟨b,d,ey,e2,row2⟩:=b2.kp kb
  have p68:P1[68]?=some (.slice a y.txs.length c ez):=by rw [e1]; exact bkV_68 y ok.h a c ez
  have q68:P2[68]?=some (.slice b y.txs.length d ey):=by rw [e2]; exact bkV_68 y ok.h b d ey
  have p0:∀ m,loadE (some (.cells P1 m)) (some 68) 0=some (.agg (hdV y.hd)):=fun m => by rw [e1]; exact bkV_ld y ok.h a c ez m
  have q0:∀ m,loadE (some (.cells P2 m)) (some 68) 0=some (.agg (hdV y.hd)):=fun m => by rw [e2]; exact bkV_ld y ok.h b d ey m
  have nq:=fun h => flneq h (List.replicate 68 .i) _ _ _ (hd_self y.hd ok.h _ rfl)
  have ln:∀ (e:EqK) (h:H),binV .neq e h (.int .i64 (y.txs.length:Int)) (.int .i64 (y.txs.length:Int))=some (.bool false):=fun e h => by rw [b_neq,decide_eq_true rfl]; rfl
  have okT:∀ t ∈ y.txs,t.ok∧gtOk t:=fun t ht => ⟨ok.t t ht,g.g t ht⟩
  have fin:∀ T,SbI (.ptr (some (h.next,0))) (.ptr (some (h.next+1,0))) 0 hb T hb→∃ h',fnEnd [.tmp 4] (bindE (blockE 0 (loopN (evC (callX E X (M+24)) 41 (M+24) none L_purserref07_Same_0) (M+24) ⟨T,[],hb⟩)) (evC (callX E X (M+24)) 41 (M+24) none R_purserref07_Same_0))=some (.bool true,h')∧Kp h h':=by
    intro T I
    have gn:=g.n
    obtain ⟨T',h',rr,J⟩:=loop_go (f:=evC (callX E X (M+24)) 41 (M+24) none L_purserref07_Same_0) (fun i T h' => SbI (.ptr (some (h.next,0))) (.ptr (some (h.next+1,0))) i hb T h') y.txs.length (.exit 0) (by intro h; cases h) (fun T h' => Kp hb h') (fun i T h' hi I => sb_round e x M (M+24) (by omega) y.txs g.n okT P1 P2 h.next (h.next+1) a b c d ez ey hb g1 g2 (by omega) (by omega) p68 q68 row1 row2 i hi T h' I) (fun T h' I => by
      obtain ⟨t2,t3,t5,kp⟩:=I
      have gb':h'.get h.next=some (.cells P1 .rw):=by rw [kp.2 _ (by omega),g1]
      have c0:decide ((y.txs.length:Int) < (y.txs.length:Int))=false:=decide_eq_false (by omega)
      generalize y.txs.length=n at *
      exact ⟨_,h',by
        simp (config:={maxSteps:=2000000}) (disch:=first | omega | (simp only [List.length_cons,List.length_nil,List.length_append,List.length_drop]; omega)) only [L_purserref07_Same_0,t2,t5,gb',p68,c0,↓s_len,x_lenS,↓x_fieldAddr,x_fieldV,Nat.zero_add,↓s_load,m_load,↓m_load1,m_load1,x_lenS,↓s_len,↓s_ops,↓s_seq,↓s_cond,↓s_exit,↓s_nil,↓s_op,↓s_bindS,s_bindS,↓s_bindE,s_bindE,s_bindE_exit,s_norm,↓s_condV,s_condV,↓s_getp,↓s_mov,↓s_bin,s_same,b_lss,↓iteN_true,↓iteN_false,iteN_true,iteN_false,Nat.zero_add,Nat.reduceEqDiff,decide_true,decide_false]
        exact rfl,kp⟩) y.txs.length 0 (by omega) (M+24) (by omega) T hb I
    rw [rr]
    refine ⟨h',?_,kb.trans J⟩
    simp (config:={maxSteps:=2000000}) (disch:=first | omega | (simp only [List.length_cons,List.length_nil,List.length_append,List.length_drop]; omega)) only [R_purserref07_Same_0,s_res0,↓s_ops,↓s_seq,↓s_ret,↓s_nil,↓s_op,↓s_bindS,s_bindS,↓s_bindE,s_bindE,s_norm,s_block_exit,↓s_getp,↓s_con,↓s_mov,s_end,s_res0,s_res1,s_tup1,↓iteN_true,iteN_true,decide_true,if_true]
    try rfl
  obtain ⟨R,eR⟩:∃ R,R_purserref07_Same_0=R:=⟨_,rfl⟩
  obtain ⟨Lo,eL⟩:∃ R,L_purserref07_Same_0=R:=⟨_,rfl⟩
  rw [eR,eL] at fin ⊢
  have fin':=fun T q2 q3 q5 => fin T ⟨q2,q3,q5,Kp.refl _⟩
  clear fin
  rw [show (List.replicate 68 Lf.i)=[.i,.i,.i,.i,.i,.i,.i,.i,.i,.i,.i,.i,.i,.i,.i,.i,.i,.i,.i,.i,.i,.i,.i,.i,.i,.i,.i,.i,.i,.i,.i,.i,.i,.i,.i,.i,.i,.i,.i,.i,.i,.i,.i,.i,.i,.i,.i,.i,.i,.i,.i,.i,.i,.i,.i,.i,.i,.i,.i,.i,.i,.i,.i,.i,.i,.i,.i,.i] from rfl] at nq
  generalize y.txs.length=n at *
  simp (config:={maxSteps:=2000000}) (disch:=first | omega | (simp only [List.length_cons,List.length_nil,List.length_append,List.length_drop]; omega)) only [ca',ehb,g1,g2,p0,q0,p68,q68,nq,ln,Bool.not_true,↓s_box,↓s_len,x_lenS,↓x_fieldAddr,x_fieldV,Nat.zero_add,Nat.add_zero,↓l_loop,↓l_succ,h_next_new,↓s_load,m_load,↓m_load1,m_load1,x_lenS,↓s_len,↓s_skip,↓s_ops,↓s_seq,↓s_cond,↓s_block,↓s_nil,↓s_op,↓s_opg,↓s_wanted',↓s_wantV,s_wantV,↓s_bindS,s_bindS,↓s_bindE,s_bindE,s_norm,↓s_condV,s_condV,↓s_getp,↓s_get,↓s_con,↓s_list0,↓s_list1,↓s_mov,↓s_pick,↓s_pickE,s_pickE,↓s_bin,s_same,↓iteN_true,↓iteN_false,iteN_true,iteN_false,Nat.zero_add,Nat.reduceEqDiff,decide_true,decide_false,Bool.not_true,beq_self_eq_true]
  exact fin' _ (by (simp only [s_getp,Nat.reduceEqDiff,decide_false,decide_true,iteN_false,iteN_true]; try rfl)) (by (simp only [s_getp,Nat.reduceEqDiff,decide_false,decide_true,iteN_false,iteN_true]; try rfl)) (by (simp only [s_getp,decide_true,iteN_true]; try rfl))
end Go.Eng
namespace Go.Eng
open Go
variable {E:Nat→Option Fn} {X:Orc}
set_option linter.unusedSimpArgs false
set_option linter.unusedVariables false
structure EnBb (E:Nat→Option Fn):Prop where
  bc:EnBc E
  bs:EnBs E
  db:EnDb E
  s7:E k_purserref07_Same=some f_purserref07_Same
structure NoBb (X:Orc):Prop where
  bc:NoBc X
  bs:NoBs X
  db:NoDb X
  s7:∀ a h,X (.fn k_purserref07_Same) a h=none
theorem NoBb.al:NoBb (alT k_purserlaw07_alive):=by repeat' (first | exact fun _ _ => rfl | exact fun _ _ _ => rfl | exact fun _ => rfl | constructor)
theorem Z69_68:Z69[68]?=some (.slice none 0 (some 0) 0):=rfl
theorem Z69_ld (m:Md):loadE (some (.cells Z69 m)) (some 68) 0=some (.agg Z68):=by
  rw [← Z69_V,← hdZ_V]; exact bkV_ld ⟨hdZ,[]⟩ hdZ_ok none (some 0) 0 m
theorem fit32 (s:List Nat) (hs:s.length=32):Fit 32 (ofI .u8 s):=⟨by rw [ofI_len,hs],plain_ofI _ _⟩
theorem flat_bkB {x:BkQ} (ok:x.hd.ok) (n:Nat) (h:(bkB x).length≤n):(x.txs.map txB).flatten.length≤n:=by
  rw [bkB_len x ok] at h; omega
theorem gbL_of {x:BkQ} (ok:x.hd.ok) (ck:ckB x) (h:(bkB x).length≤20000):gbL x:=by
  have h1:=flat_bkB ok _ h
  have h2:x.txs.length≤(x.txs.map txB).flatten.length:=by
    have:∀ l:List TxQ,l.length≤(l.map txB).flatten.length:=by
      intro l
      induction l with
      | nil => exact Nat.le_refl _
      | cons a r ih =>
        have:=txB_pos a
        rw [List.map_cons,List.flatten_cons,List.length_append,List.length_cons]; omega
    exact this _
  exact ⟨by omega,by omega,fun t ht => gt_of (ck t ht)⟩
set_option maxRecDepth 100000 in
set_option maxHeartbeats 4000000 in
theorem law_BlockBack (e:EnBb E) (el:E k_purserlaw07_BlockBack=some f_purserlaw07_BlockBack) (M:Nat) (hM:30000000 < M) (x:BkQ) (ok:x.ok) (ln:x.txs.length < 9223372036854775807) (sm:∀ t ∈ x.txs,t.ins.length < 9223372036854775807∧t.outs.length < 9223372036854775807) (P:List V) (s:List Nat) (hs:s.length=32) (bs:byt s=true) (b:List Nat) (bb:byt b=true) (am:Option (Nat × Nat)) (h:H) (bc:BkC (fun j => j < h.next) h x P) (so:SrcH h am 1 b) :
    ∃ h2,callX E (alT k_purserlaw07_alive) (M+40) (.fn k_purserlaw07_BlockBack) [.agg P,.agg (ofI .u8 s),.slice am b.length none 1] h=some (.bool true,h2):=by
  rw [x_cfn el _ _ (Nat.le_of_ble_eq_true rfl) rfl]
  rw [show ([.int .u32 0,.int .u8 0,.int .u8 0,.int .u8 0,.int .u8 0,.int .u8 0,.int .u8 0,.int .u8 0,.int .u8 0,.int .u8 0,.int .u8 0,.int .u8 0,.int .u8 0,.int .u8 0,.int .u8 0,.int .u8 0,.int .u8 0,.int .u8 0,.int .u8 0,.int .u8 0,.int .u8 0,.int .u8 0,.int .u8 0,.int .u8 0,.int .u8 0,.int .u8 0,.int .u8 0,.int .u8 0,.int .u8 0,.int .u8 0,.int .u8 0,.int .u8 0,.int .u8 0,.int .u8 0,.int .u8 0,.int .u8 0,.int .u8 0,.int .u8 0,.int .u8 0,.int .u8 0,.int .u8 0,.int .u8 0,.int .u8 0,.int .u8 0,.int .u8 0,.int .u8 0,.int .u8 0,.int .u8 0,.int .u8 0,.int .u8 0,.int .u8 0,.int .u8 0,.int .u8 0,.int .u8 0,.int .u8 0,.int .u8 0,.int .u8 0,.int .u8 0,.int .u8 0,.int .u8 0,.int .u8 0,.int .u8 0,.int .u8 0,.int .u8 0,.int .u8 0,.int .u32 0,.int .u32 0,.int .u32 0,.slice none 0 (some 0) 0]:List V)=Z69 from rfl,show ([.int .u32 0,.int .u8 0,.int .u8 0,.int .u8 0,.int .u8 0,.int .u8 0,.int .u8 0,.int .u8 0,.int .u8 0,.int .u8 0,.int .u8 0,.int .u8 0,.int .u8 0,.int .u8 0,.int .u8 0,.int .u8 0,.int .u8 0,.int .u8 0,.int .u8 0,.int .u8 0,.int .u8 0,.int .u8 0,.int .u8 0,.int .u8 0,.int .u8 0,.int .u8 0,.int .u8 0,.int .u8 0,.int .u8 0,.int .u8 0,.int .u8 0,.int .u8 0,.int .u8 0,.int .u8 0,.int .u8 0,.int .u8 0,.int .u8 0,.int .u8 0,.int .u8 0,.int .u8 0,.int .u8 0,.int .u8 0,.int .u8 0,.int .u8 0,.int .u8 0,.int .u8 0,.int .u8 0,.int .u8 0,.int .u8 0,.int .u8 0,.int .u8 0,.int .u8 0,.int .u8 0,.int .u8 0,.int .u8 0,.int .u8 0,.int .u8 0,.int .u8 0,.int .u8 0,.int .u8 0,.int .u8 0,.int .u8 0,.int .u8 0,.int .u8 0,.int .u8 0,.int .u32 0,.int .u32 0,.int .u32 0]:List V)=Z68 from rfl]
  obtain ⟨L68,eL68⟩:∃ L:List Lf,List.replicate 68 Lf.i=L:=⟨_,rfl⟩
  obtain ⟨L32,eL32⟩:∃ L:List Lf,List.replicate 32 Lf.i=L:=⟨_,rfl⟩
  rw [show ([.i,.i,.i,.i,.i,.i,.i,.i,.i,.i,.i,.i,.i,.i,.i,.i,.i,.i,.i,.i,.i,.i,.i,.i,.i,.i,.i,.i,.i,.i,.i,.i,.i,.i,.i,.i,.i,.i,.i,.i,.i,.i,.i,.i,.i,.i,.i,.i,.i,.i,.i,.i,.i,.i,.i,.i,.i,.i,.i,.i,.i,.i,.i,.i,.i,.i,.i,.i]:List Lf)=List.replicate 68 Lf.i from rfl,show ([.i,.i,.i,.i,.i,.i,.i,.i,.i,.i,.i,.i,.i,.i,.i,.i,.i,.i,.i,.i,.i,.i,.i,.i,.i,.i,.i,.i,.i,.i,.i,.i]:List Lf)=List.replicate 32 Lf.i from rfl,eL68,eL32]
  have xs:NoBb (alT k_purserlaw07_alive):=NoBb.al
  have al:∀ h,callX E (alT k_purserlaw07_alive) (M+39) (.fn k_purserlaw07_alive) [] h=some (.bool true,h):=fun h => x_known rfl
  have ca':∀ l:List V,(V.agg l).cells=l:=fun _ => rfl
  obtain ⟨Z32,eZ32⟩:∃ Z,ofI .u8 (List.replicate 32 0)=Z:=⟨_,rfl⟩
  rw [show ([.int .u8 0,.int .u8 0,.int .u8 0,.int .u8 0,.int .u8 0,.int .u8 0,.int .u8 0,.int .u8 0,.int .u8 0,.int .u8 0,.int .u8 0,.int .u8 0,.int .u8 0,.int .u8 0,.int .u8 0,.int .u8 0,.int .u8 0,.int .u8 0,.int .u8 0,.int .u8 0,.int .u8 0,.int .u8 0,.int .u8 0,.int .u8 0,.int .u8 0,.int .u8 0,.int .u8 0,.int .u8 0,.int .u8 0,.int .u8 0,.int .u8 0,.int .u8 0]:List V)=ofI .u8 (List.replicate 32 0) from rfl,eZ32]
  have fit32Z:Fit 32 Z32:=by rw [← eZ32]; exact fit32 _ rfl
  have fS:Fit 32 (ofI .u8 s):=fit32 s hs
  obtain ⟨hb,ehb⟩:∃ hb,(h.new (.cells P .rw)).new (.cells (ofI .u8 s) .rw)=hb:=⟨_,rfl⟩
  have kb:Kp h hb:=by rw [← ehb]; (repeat (first | exact Kp.refl _ | refine Kp.put ?_ _ (by first | omega | (simp only [h_next_put,h_next_new,h_next_del]; omega)) | refine Kp.del ?_ (by first | omega | (simp only [h_next_put,h_next_new,h_next_del]; omega)) | refine Kp.trans ?_ (Kp.new _ _)))
  have nb:hb.next=h.next+2:=by rw [← ehb]; rfl
  have g0:hb.get h.next=some (.cells P .rw):=by rw [← ehb]; (simp (disch:=omega) only [h_new_get,h_next_new,Nat.add_eq_left,decide_true,decide_false,iteN_true,iteN_false,reduceCtorEq,]; try rfl)
  have g0s:hb.get (h.next+1)=some (.cells (ofI .u8 s) .rw):=by rw [← ehb]; (simp (disch:=omega) only [h_new_get,h_next_new,decide_true,iteN_true,]; try rfl)
  have fP:Fit 69 P:=by obtain ⟨a,c,ez,eP,_⟩:=bc; rw [eP]; exact bkV_fit x ok.h a c ez
  have p0:∀ m,loadE (some (.cells P m)) (some 68) 0=some (.agg (hdV x.hd)):=by obtain ⟨a,c,ez,eP,_⟩:=bc; intro m; rw [eP]; exact bkV_ld x ok.h a c ez m
  have lP:=fun m => fit_ld fP m
  have lS:=fun m => fit_ld fS m
  have bcb:=bc.kp kb
  obtain ⟨h1,r,gr,k1,hr⟩:=great7b_go e.bc.g7 xs.bc.g7 e.bc.g6 xs.bc.g6 (M+37) (by omega) x ok.h ln sm P hb bcb
  replace gr:callX E (alT k_purserlaw07_alive) (M+39) (.fn k_purserref07_Great) _ hb=_:=gr
  have g1:h1.get h.next=some (.cells P .rw):=by rw [k1.2 _ (by omega),g0]
  have g1s:h1.get (h.next+1)=some (.cells (ofI .u8 s) .rw):=by rw [k1.2 _ (by omega),g0s]
  have y1:decide ((0:Int) < 1)=true:=rfl
  have y0:decide ((0:Int) < 0)=false:=rfl
  have z0:decide ((0:Int)=0)=true:=rfl
  have z70:decide ((70:Int)=0)=false:=rfl
  have z77:decide ((70:Int)=70)=true:=rfl
  rcases hr with ⟨gok,rfl⟩ | ⟨_,rfl⟩
  rotate_left
  · generalize b.length=bl at *
    generalize Z69=Z at *
    generalize Z68=Y at *
    simp (config:={maxSteps:=2000000}) (disch:=first | omega | (simp only [List.length_cons,List.length_nil,List.length_append,List.length_drop]; omega)) only [ca',ehb,g0,lP,al,gr,Bool.not_true,↓s_box,Nat.zero_add,h_next_new,↓s_load,m_load,Int.reduceLT,Nat.reduceAdd,s_res0,↓s_ops,↓s_seq,↓s_cond,↓s_ret,↓s_nil,↓s_op,↓s_opg,↓s_wanted',↓s_wantV,s_wantV,beq_false,↓s_bindS,s_bindS,↓s_bindE,s_bindE,s_bindE_ret,s_norm,↓s_condV,s_condV,↓s_getp,↓s_get,↓s_con,↓s_os0,↓s_os1,↓s_list0,↓s_list1,↓s_mov,↓s_pick,↓s_pickE,s_pickE,↓s_bin,↓s_call,s_same,b_gtr,s_end,s_res0,s_res1,s_tup1,↓iteN_true,↓iteN_false,iteN_true,iteN_false,Nat.zero_add,Nat.reduceEqDiff,decide_true,decide_false,Bool.not_true]
    exact ⟨_,rfl⟩
  by_cases hm:20000 < b.length
  · have dm:decide ((20000:Int) < (b.length:Int))=true:=decide_eq_true (by omega)
    generalize b.length=bl at *
    generalize Z69=Z at *
    generalize Z68=Y at *
    simp (config:={maxSteps:=2000000}) (disch:=first | omega | (simp only [List.length_cons,List.length_nil,List.length_append,List.length_drop]; omega)) only [ca',ehb,g0,lP,al,gr,dm,Bool.not_true,↓s_box,↓s_len,x_lenS,Nat.zero_add,h_next_new,↓s_load,m_load,x_lenS,↓s_len,Int.reduceLT,Nat.reduceAdd,s_res0,↓s_ops,↓s_seq,↓s_cond,↓s_ret,↓s_nil,↓s_op,↓s_opg,↓s_wanted',↓s_wantV,s_wantV,beq_false,↓s_bindS,s_bindS,↓s_bindE,s_bindE,s_bindE_ret,s_norm,↓s_condV,s_condV,↓s_getp,↓s_get,↓s_con,↓s_os0,↓s_os1,↓s_list0,↓s_list1,↓s_mov,↓s_pick,↓s_pickE,s_pickE,↓s_bin,↓s_call,s_same,b_gtr,s_end,s_res0,s_res1,s_tup1,↓iteN_true,↓iteN_false,iteN_true,iteN_false,Nat.zero_add,Nat.reduceEqDiff,decide_true,decide_false,Bool.not_true,beq_self_eq_true]
    exact ⟨_,rfl⟩
  have dm:decide ((20000:Int) < (b.length:Int))=false:=decide_eq_false (by omega)
  have gL:=gok.toL ok
  have kn1:=k1.1
  -- the header
  obtain ⟨h2,a2,c2,e2,r2,nw2⟩:=enchead_go e.bc.be.bh xs.bc.be.bh e.bc.al (M+32) (by omega) x.hd ok.h h1
  replace r2:callX E (alT k_purserlaw07_alive) (M+39) (.fn k_block_EncodeHeader) _ h1=_:=r2
  have k2:=nw2.kp
  have kn2:=k2.1
  have l80:=hdB_len x.hd ok.h
  obtain ⟨h3,k3,hd3⟩:=dechead_go e.bc.bd.br xs.bc.bd.br (M+19) (by omega) (hdB x.hd) (hdB_byt x.hd ok.h) (by omega) a2 c2 e2 h2 nw2.wb.src
  rw [l80] at hd3
  rcases hd3 with ⟨_,d3,dok3,edB3,r3⟩ | ⟨no,_⟩
  rotate_left
  · exact absurd rfl no
  have ed3:d3=x.hd:=hdB_inj _ _ dok3 ok.h edB3
  rw [ed3] at r3
  replace r3:callX E (alT k_purserlaw07_alive) (M+39) (.fn k_block_DecodeHeader) _ h2=_:=r3
  have kn3:=k3.1
  have f68:=hdV_fit x.hd ok.h
  have st68:=fun h i => fit_st f68 h i
  have pu68:=fun h i => fit_put f68 h i Z68 rfl
  have ld68:=fun m => fit_ld f68 m
  obtain ⟨h4,eh4⟩:∃ h4,(h3.new (.cells Z68 .rw)).put h3.next (.cells (hdV x.hd) .rw)=h4:=⟨_,rfl⟩
  have k34:Kp h3 h4:=by rw [← eh4]; (repeat (first | exact Kp.refl _ | refine Kp.put ?_ _ (by first | omega | (simp only [h_next_put,h_next_new,h_next_del]; omega)) | refine Kp.del ?_ (by first | omega | (simp only [h_next_put,h_next_new,h_next_del]; omega)) | refine Kp.trans ?_ (Kp.new _ _)))
  have n4:h4.next=h3.next+1:=by rw [← eh4]; rfl
  have gz3:(h3.new (.cells Z68 .rw)).get h3.next=some (.cells Z68 .rw):=h_new_same _ _
  have g43:h4.get h3.next=some (.cells (hdV x.hd) .rw):=by rw [← eh4]; exact h_put_same _ _ _
  have g4s:h4.get (h.next+1)=some (.cells (ofI .u8 s) .rw):=by rw [k34.2 _ (by omega),k3.2 _ (by omega),k2.2 _ (by omega),g1s]
  -- the hash
  obtain ⟨h5,r5,k5⟩:=show_go e.bs xs.bs (M+36) (by omega) s hs bs h4
  replace r5:callX E (alT k_purserlaw07_alive) (M+39) (.fn k_block_Show) _ h4=_:=r5
  have kn5:=k5.1
  obtain ⟨h6,r6,k6⟩:=read_go e.bs xs.bs (M+36) (by omega) s.reverse (by rw [List.length_reverse,hs]) (byt_iff.2 (fun x hx => byt_iff.1 bs x (List.mem_reverse.1 hx))) h5
  rw [List.reverse_reverse] at r6
  replace r6:callX E (alT k_purserlaw07_alive) (M+39) (.fn k_block_Read) _ h5=_:=r6
  have kn6:=k6.1
  have stS:=fun h i => fit_st fS h i
  have puS:=fun h i => fit_put fS h i Z32 fit32Z.1
  obtain ⟨h7,eh7⟩:∃ h7,(h6.new (.cells Z32 .rw)).put h6.next (.cells (ofI .u8 s) .rw)=h7:=⟨_,rfl⟩
  have k67:Kp h6 h7:=by rw [← eh7]; (repeat (first | exact Kp.refl _ | refine Kp.put ?_ _ (by first | omega | (simp only [h_next_put,h_next_new,h_next_del]; omega)) | refine Kp.del ?_ (by first | omega | (simp only [h_next_put,h_next_new,h_next_del]; omega)) | refine Kp.trans ?_ (Kp.new _ _)))
  have n7:h7.next=h6.next+1:=by rw [← eh7]; rfl
  have gz6:(h6.new (.cells Z32 .rw)).get h6.next=some (.cells Z32 .rw):=h_new_same _ _
  have g76:h7.get h6.next=some (.cells (ofI .u8 s) .rw):=by rw [← eh7]; exact h_put_same _ _ _
  have k47:Kp h4 h7:=(k5.trans k6).trans k67
  have g73:h7.get h3.next=some (.cells (hdV x.hd) .rw):=by rw [k47.2 _ (by omega),g43]
  have k17:Kp h1 h7:=((k2.trans k3).trans k34).trans k47
  have g7:h7.get h.next=some (.cells P .rw):=by rw [k17.2 _ (by omega),g1]
  have g7s:h7.get (h.next+1)=some (.cells (ofI .u8 s) .rw):=by rw [k17.2 _ (by omega),g1s]
  have kn7:=k17.1
  have nq68:=fun h => flneq h L68 _ _ _ (hd_self x.hd ok.h L68 eL68.symm)
  have nq32:=fun h => flneq h L32 _ _ _ (hash_self s hs L32 eL32.symm)
  have eq68:∀ h,binV .eql (.flat L68) h (.agg Z68) (.agg Z68)=some (.bool true):=fun h => by
    rw [← hdZ_V]; exact fleql h L68 _ _ _ (hd_self hdZ hdZ_ok L68 eL68.symm)
  have stZ:=fun h i => fit_st fitZ69 h i
  have puZ:=fun h i => fit_put fitZ69 h i Z69 rfl
  have zs:decide (b=b)=true:=decide_eq_true rfl
  have zl:decide ((0:Int)=((0:Nat):Int))=true:=rfl
  have k07:Kp h h7:=(kb.trans k1).trans k17
  -- the second half,on any heap
  have half:∀ hx:H,Kp h7 hx→∃ h12 h14 Q,
      ((callX E (alT k_purserlaw07_alive) (M+39) (.fn k_block_Decode) [.slice am b.length none 1] hx=some (.tup [.agg Z69,.int .i64 70],h12)∧Q=Z69) ∨
       (Fit 69 Q∧callX E (alT k_purserlaw07_alive) (M+39) (.fn k_block_Decode) [.slice am b.length none 1] hx=some (.tup [.agg Q,.int .i64 0],h12)∧∃ a9 c9 e9,callX E (alT k_purserlaw07_alive) (M+39) (.fn k_block_Encode) [.agg Q] ((h12.new (.cells Z69 .rw)).put h12.next (.cells Q .rw))=some (.tup [.slice a9 b.length c9 e9,.int .i64 0],h14)∧b2sV h14 (.slice a9 b.length c9 e9)=some (.str b)∧b2sV h14 (.slice am b.length none 1)=some (.str b))):=by
    intro hx kx
    have k0x:Kp h hx:=k07.trans kx
    obtain ⟨h12,k12,hd⟩:=bdec_go e.bc.bd xs.bc.bd (M+14) (by omega) b bb (by omega) am none 1 (fun _ => ⟨rfl,rfl⟩) hx (so.mono k0x) 20000000 (by omega) (fuel_of _ bb _ (by omega))
    rcases hd with ⟨dn,d,d1,dok,d2,Q,d3,d4⟩ | ⟨_,d2⟩
    · obtain ⟨w1,w2,w3⟩:=dcB_of b bb _ dn d dok d2 d1
      have fQ:Fit 69 Q:=by obtain ⟨a,c,ez,eP,_⟩:=d4; rw [eP]; exact bkV_fit ⟨d,dn⟩ dok a c ez
      obtain ⟨h13,eh13⟩:∃ h13,(h12.new (.cells Z69 .rw)).put h12.next (.cells Q .rw)=h13:=⟨_,rfl⟩
      have k1213:Kp h12 h13:=by rw [← eh13]; (repeat (first | exact Kp.refl _ | refine Kp.put ?_ _ (by first | omega | (simp only [h_next_put,h_next_new,h_next_del]; omega)) | refine Kp.del ?_ (by first | omega | (simp only [h_next_put,h_next_new,h_next_del]; omega)) | refine Kp.trans ?_ (Kp.new _ _)))
      have d5:BkC (fun j => j < h13.next) h13 ⟨d,dn⟩ Q:=d4.mono k1213.1 (fun j _ hj => k1213.2 _ hj) (fun j _ hj => by have:=k1213.1; show j < h13.next; omega)
      rcases benc_go e.bc.be xs.bc.be e.bc.al (M+31) (by omega) ⟨d,dn⟩ w2 (gbL_of dok w3 (by rw [← w1]; omega)) Q h13 d5 with ⟨_,h14,a9,c9,e9,r9,nw9⟩ | ⟨no,_⟩
      · rw [← w1] at r9 nw9
        refine ⟨h12,h14,Q,.inr ⟨fQ,d3,a9,c9,e9,by rw [eh13]; exact r9,?_,?_⟩⟩
        · exact str_src nw9.wb.src bb c9
        · exact str_src (so.mono (((k0x.trans k12).trans k1213).trans nw9.kp)) bb none
      · exact absurd w3 no
    · exact ⟨h12,h12,Z69,.inl ⟨d2,rfl⟩⟩
  have bc7:BkC (fun j => j < h7.next) h7 x P:=bc.kp k07
  rcases benc_go e.bc.be xs.bc.be e.bc.al (M+31) (by omega) x ok gL P h7 bc7 with ⟨ck,h8,a8,c8,e8,r8,nw8⟩ | ⟨_,h8,r8,k8⟩
  rotate_left
  · replace r8:callX E (alT k_purserlaw07_alive) (M+39) (.fn k_block_Encode) _ h7=_:=r8
    obtain ⟨h12,h14,Q,hd⟩:=half h8 k8
    rcases hd with ⟨d2,rfl⟩ | ⟨fQ,d2,a9,c9,e9,r9,s9,s9'⟩
    · have gz12:(h12.new (.cells Z69 .rw)).get h12.next=some (.cells Z69 .rw):=h_new_same _ _
      have gp12:((h12.new (.cells Z69 .rw)).put h12.next (.cells Z69 .rw)).get h12.next=some (.cells Z69 .rw):=h_put_same _ _ _
      have zz:=Z69_68
      have zd:=Z69_ld
      generalize b.length=bl at *
      generalize (bkB x).length=B at *
      generalize hdV x.hd=D at *
      generalize ofI .u8 s=S0 at *
      generalize Z69=Z at *
      generalize Z68=Y at *
      simp (config:={maxSteps:=2000000}) (disch:=first | omega | (simp only [List.length_cons,List.length_nil,List.length_append,List.length_drop]; omega)) only [ca',ehb,g0,g1,lP,p0,al,gr,dm,r2,r3,st68,pu68,ld68,eh4,g4s,lS,r5,r6,stS,puS,eh7,g76,g73,g7,g7s,nq68,nq32,r8,d2,stZ,puZ,zz,zd,eq68,Bool.not_true,Bool.not_false,↓x_build,x_aggO,↓s_box,↓s_len,x_lenS,↓x_fieldAddr,x_fieldV,Nat.zero_add,Nat.add_zero,Nat.add_zero,↓h_put_get,↓h_new_get,h_next_new,↓s_load,m_load,↓m_load1,m_load1,↓m_st,m_stE,↓s_alloc,x_lenS,↓s_len,↓x_P0,x_fill0,Int.reduceLT,Nat.reduceAdd,Int.reduceEq,Int.cast_ofNat_Int,s_res0,↓s_skip,↓s_ops,↓s_seq,↓s_cond,↓s_ret,↓s_nil,↓s_op,↓s_opg,↓s_wanted',↓s_wantV,s_wantV,↓s_bindS,s_bindS,↓s_bindE,s_bindE,s_bindE_ret,s_norm,↓s_condV,s_condV,↓s_getp,↓s_getp0,↓s_get,↓s_con,↓s_os0,↓s_os1,↓s_list0,↓s_list1,↓s_mov,↓s_pick,↓s_pickE,s_pickE,↓s_bin,↓s_un,↓s_call,↓s_ext,s_same,b_eql,b_neq,b_gtr,u_not,s_end,s_res0,s_res1,s_tup1,↓iteN_true,↓iteN_false,iteN_true,iteN_false,Nat.zero_add,Nat.reduceEqDiff,decide_true,decide_false,Bool.not_true,Bool.not_false,List.getElem?_cons_zero,List.getElem?_cons_succ,beq_self_eq_true]
      exact ⟨_,rfl⟩
    · have stQ:=fun h i => fit_st fQ h i
      have puQ:=fun h i => fit_put fQ h i Z69 rfl
      have ldQ:=fun m => fit_ld fQ m
      obtain ⟨h13,eh13⟩:∃ h13,(h12.new (.cells Z69 .rw)).put h12.next (.cells Q .rw)=h13:=⟨_,rfl⟩
      have g13:h13.get h12.next=some (.cells Q .rw):=by rw [← eh13]; exact h_put_same _ _ _
      have gz12:(h12.new (.cells Z69 .rw)).get h12.next=some (.cells Z69 .rw):=h_new_same _ _
      rw [eh13] at r9
      generalize b.length=bl at *
      generalize (bkB x).length=B at *
      generalize hdV x.hd=D at *
      generalize ofI .u8 s=S0 at *
      generalize Z69=Z at *
      generalize Z68=Y at *
      simp (config:={maxSteps:=2000000}) (disch:=first | omega | (simp only [List.length_cons,List.length_nil,List.length_append,List.length_drop]; omega)) only [ca',ehb,g0,g1,lP,p0,al,gr,dm,r2,r3,st68,pu68,ld68,eh4,g4s,lS,r5,r6,stS,puS,eh7,g76,g73,g7,g7s,nq68,nq32,r8,d2,stQ,puQ,ldQ,eh13,g13,r9,s9,s9',b_seq,↓ns_b2s,Bool.not_true,↓s_box,↓s_len,x_lenS,↓x_fieldAddr,x_fieldV,Nat.zero_add,Nat.add_zero,Nat.add_zero,↓h_new_get,h_next_new,↓s_load,m_load,↓m_st,m_stE,↓s_alloc,x_lenS,↓s_len,Int.reduceLT,Nat.reduceAdd,Int.reduceEq,s_res0,↓s_skip,↓s_ops,↓s_seq,↓s_cond,↓s_ret,↓s_nil,↓s_op,↓s_opg,↓s_wanted',↓s_wantV,s_wantV,↓s_bindS,s_bindS,↓s_bindE,s_bindE,s_norm,↓s_condV,s_condV,↓s_getp,↓s_getp0,↓s_get,↓s_con,↓s_os0,↓s_os1,↓s_list0,↓s_list1,↓s_mov,↓s_pick,↓s_pickE,s_pickE,↓s_bin,↓s_un,↓s_call,↓s_ext,s_same,b_eql,b_neq,b_gtr,u_not,s_end,s_res0,s_res1,s_tup1,↓iteN_true,↓iteN_false,iteN_true,iteN_false,Nat.zero_add,Nat.reduceEqDiff,decide_true,decide_false,Bool.not_true,List.getElem?_cons_zero,List.getElem?_cons_succ,beq_self_eq_true]
      exact ⟨_,rfl⟩
  replace r8:callX E (alT k_purserlaw07_alive) (M+39) (.fn k_block_Encode) _ h7=_:=r8
  have k8:=nw8.kp
  have kn8:=k8.1
  have bB:=bkB_byt x ok
  have lB:=bkB_le x ok gok
  have lB0:=bkB_len x ok.h
  obtain ⟨rfl,rfl⟩:=nw8.wb.hc (fun h => by rw [h] at lB0; simp at lB0; omega)
  have rT:=dcB_to x ok ck (by have:=gL.n; omega) [] 20000000 (by have:=gL.n; omega)
  rw [List.append_nil,if_pos rfl] at rT
  obtain ⟨h9,k9,hd9⟩:=bdec_go e.bc.bd xs.bc.bd (M+14) (by omega) (bkB x) bB (by omega) a8 none 1 (fun _ => ⟨rfl,rfl⟩) h8 nw8.wb.src 20000000 (by omega) (fuel_of _ bB _ (by omega))
  rcases hd9 with ⟨dn,d,d1,dok,d2,P9,r9',bc9⟩ | ⟨no,_⟩
  rotate_left
  · rw [rT] at no; cases no
  rw [rT] at d1
  have edn:x.txs=dn:=Option.some.inj d1
  have t80:(bkB x).take 80=hdB x.hd:=by
    unfold bkB
    rw [List.append_assoc,List.take_left' l80]
  rw [t80] at d2
  have edd:d=x.hd:=hdB_inj _ _ dok ok.h d2
  have exx:(⟨d,dn⟩:BkQ)=x:=by rw [edd,← edn]
  rw [exx] at bc9
  replace r9':callX E (alT k_purserlaw07_alive) (M+39) (.fn k_block_Decode) _ h8=_:=r9'
  have kn9:=k9.1
  have f9:Fit 69 P9:=by obtain ⟨a,c,ez,eP,_⟩:=bc9; rw [eP]; exact bkV_fit x ok.h a c ez
  have st9:=fun h i => fit_st f9 h i
  have pu9:=fun h i => fit_put f9 h i Z69 rfl
  have ld9:=fun m => fit_ld f9 m
  obtain ⟨h10,eh10⟩:∃ h10,(h9.new (.cells Z69 .rw)).put h9.next (.cells P9 .rw)=h10:=⟨_,rfl⟩
  have k910:Kp h9 h10:=by rw [← eh10]; (repeat (first | exact Kp.refl _ | refine Kp.put ?_ _ (by first | omega | (simp only [h_next_put,h_next_new,h_next_del]; omega)) | refine Kp.del ?_ (by first | omega | (simp only [h_next_put,h_next_new,h_next_del]; omega)) | refine Kp.trans ?_ (Kp.new _ _)))
  have gz9:(h9.new (.cells Z69 .rw)).get h9.next=some (.cells Z69 .rw):=h_new_same _ _
  have g109:h10.get h9.next=some (.cells P9 .rw):=by rw [← eh10]; exact h_put_same _ _ _
  have k710:Kp h7 h10:=(k8.trans k9).trans k910
  have g10:h10.get h.next=some (.cells P .rw):=by rw [k710.2 _ (by omega),g7]
  have bc10:BkC (fun j => j < h10.next) h10 x P9:=bc9.mono k910.1 (fun j _ hj => k910.2 _ hj) (fun j _ hj => by have:=k910.1; show j < h10.next; omega)
  obtain ⟨h11,r11,k11⟩:=bsame_go e.db xs.db e.s7 xs.s7 (M+14) (by omega) x ok gL P9 P h10 bc10 (bc7.kp k710)
  replace r11:callX E (alT k_purserlaw07_alive) (M+39) (.fn k_purserref07_Same) _ h10=_:=r11
  obtain ⟨h12,h14,Q,hd⟩:=half h11 (k710.trans k11)
  rcases hd with ⟨d2,rfl⟩ | ⟨fQ,d2,a9,c9,e9,r9,s9,s9'⟩
  · have gz12:(h12.new (.cells Z69 .rw)).get h12.next=some (.cells Z69 .rw):=h_new_same _ _
    have gp12:((h12.new (.cells Z69 .rw)).put h12.next (.cells Z69 .rw)).get h12.next=some (.cells Z69 .rw):=h_put_same _ _ _
    have zz:=Z69_68
    have zd:=Z69_ld
    generalize b.length=bl at *
    generalize (bkB x).length=B at *
    generalize hdV x.hd=D at *
    generalize ofI .u8 s=S0 at *
    generalize Z69=Z at *
    generalize Z68=Y at *
    simp (config:={maxSteps:=2000000}) (disch:=first | omega | (simp only [List.length_cons,List.length_nil,List.length_append,List.length_drop]; omega)) only [ca',ehb,g0,g1,lP,p0,al,gr,dm,r2,r3,st68,pu68,ld68,eh4,g4s,lS,r5,r6,stS,puS,eh7,g76,g73,g7,g7s,nq68,nq32,r8,r9',st9,pu9,ld9,eh10,g109,g10,r11,d2,stZ,puZ,zz,zd,eq68,Bool.not_true,Bool.not_false,↓x_build,x_aggO,↓s_box,↓s_len,x_lenS,↓x_fieldAddr,x_fieldV,Nat.zero_add,Nat.add_zero,Nat.add_zero,↓h_put_get,↓h_new_get,h_next_new,↓s_load,m_load,↓m_load1,m_load1,↓m_st,m_stE,↓s_alloc,x_lenS,↓s_len,↓x_P0,x_fill0,Int.reduceLT,Nat.reduceAdd,Int.reduceEq,Int.cast_ofNat_Int,s_res0,↓s_skip,↓s_ops,↓s_seq,↓s_cond,↓s_ret,↓s_nil,↓s_op,↓s_opg,↓s_wanted',↓s_wantV,s_wantV,↓s_bindS,s_bindS,↓s_bindE,s_bindE,s_bindE_ret,s_norm,↓s_condV,s_condV,↓s_getp,↓s_getp0,↓s_get,↓s_con,↓s_os0,↓s_os1,↓s_list0,↓s_list1,↓s_mov,↓s_pick,↓s_pickE,s_pickE,↓s_bin,↓s_un,↓s_call,↓s_ext,s_same,b_eql,b_neq,b_gtr,u_not,s_end,s_res0,s_res1,s_tup1,↓iteN_true,↓iteN_false,iteN_true,iteN_false,Nat.zero_add,Nat.reduceEqDiff,decide_true,decide_false,Bool.not_true,Bool.not_false,List.getElem?_cons_zero,List.getElem?_cons_succ,beq_self_eq_true]
    exact ⟨_,rfl⟩
  · have stQ:=fun h i => fit_st fQ h i
    have puQ:=fun h i => fit_put fQ h i Z69 rfl
    have ldQ:=fun m => fit_ld fQ m
    obtain ⟨h13,eh13⟩:∃ h13,(h12.new (.cells Z69 .rw)).put h12.next (.cells Q .rw)=h13:=⟨_,rfl⟩
    have g13:h13.get h12.next=some (.cells Q .rw):=by rw [← eh13]; exact h_put_same _ _ _
    have gz12:(h12.new (.cells Z69 .rw)).get h12.next=some (.cells Z69 .rw):=h_new_same _ _
    rw [eh13] at r9
    generalize b.length=bl at *
    generalize (bkB x).length=B at *
    generalize hdV x.hd=D at *
    generalize ofI .u8 s=S0 at *
    generalize Z69=Z at *
    generalize Z68=Y at *
    simp (config:={maxSteps:=2000000}) (disch:=first | omega | (simp only [List.length_cons,List.length_nil,List.length_append,List.length_drop]; omega)) only [ca',ehb,g0,g1,lP,p0,al,gr,dm,r2,r3,st68,pu68,ld68,eh4,g4s,lS,r5,r6,stS,puS,eh7,g76,g73,g7,g7s,nq68,nq32,r8,r9',st9,pu9,ld9,eh10,g109,g10,r11,d2,stQ,puQ,ldQ,eh13,g13,r9,s9,s9',b_seq,↓ns_b2s,Bool.not_true,↓s_box,↓s_len,x_lenS,↓x_fieldAddr,x_fieldV,Nat.zero_add,Nat.add_zero,Nat.add_zero,↓h_new_get,h_next_new,↓s_load,m_load,↓m_st,m_stE,↓s_alloc,x_lenS,↓s_len,Int.reduceLT,Nat.reduceAdd,s_res0,↓s_skip,↓s_ops,↓s_seq,↓s_cond,↓s_ret,↓s_nil,↓s_op,↓s_opg,↓s_wanted',↓s_wantV,s_wantV,↓s_bindS,s_bindS,↓s_bindE,s_bindE,s_norm,↓s_condV,s_condV,↓s_getp,↓s_getp0,↓s_get,↓s_con,↓s_os0,↓s_os1,↓s_list0,↓s_list1,↓s_mov,↓s_pick,↓s_pickE,s_pickE,↓s_bin,↓s_un,↓s_call,↓s_ext,s_same,b_eql,b_neq,b_gtr,u_not,s_end,s_res0,s_res1,s_tup1,↓iteN_true,↓iteN_false,iteN_true,iteN_false,Nat.zero_add,Nat.reduceEqDiff,decide_true,decide_false,Bool.not_true,List.getElem?_cons_zero,List.getElem?_cons_succ,beq_self_eq_true]
    exact ⟨_,rfl⟩
end Go.Eng
