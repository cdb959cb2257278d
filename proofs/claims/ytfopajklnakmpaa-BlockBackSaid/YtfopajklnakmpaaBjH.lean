/- What functions of the program come to: own work. -/
import Derived.Test.YtfopajklnakmpaaBjE
namespace Go.Eng
open Go
variable {E:Nat→Option Fn} {X:Orc}
set_option linter.unusedSimpArgs false
set_option linter.unusedVariables false
/-! headers -/
structure HdQ where
  ver:Nat
  prev:List Nat
  root:List Nat
  time:Nat
  bits:Nat
  nonce:Nat
structure HdQ.ok (x:HdQ):Prop where
  v1:x.ver < 4294967296
  lp:x.prev.length=32
  bp:byt x.prev=true
  lr:x.root.length=32
  br:byt x.root=true
  t1:x.time < 4294967296
  b1:x.bits < 4294967296
  n1:x.nonce < 4294967296
def hdV (x:HdQ):List V:=[.int .u32 (x.ver:Int)]++ofI .u8 x.prev++ofI .u8 x.root++[.int .u32 (x.time:Int),.int .u32 (x.bits:Int),.int .u32 (x.nonce:Int)]
def hdB (x:HdQ):List Nat:=leN 4 x.ver++(x.prev++x.root)++leN 4 x.time++leN 4 x.bits++leN 4 x.nonce
theorem hdV_len (x:HdQ) (ok:x.ok):(hdV x).length=68:=by
  unfold hdV
  have:=ok.lp
  have:=ok.lr
  simp only [List.length_append,ofI_len,List.length_cons,List.length_nil]; omega
theorem hdB_len (x:HdQ) (ok:x.ok):(hdB x).length=80:=by
  unfold hdB
  have:=ok.lp
  have:=ok.lr
  simp only [List.length_append,leN_len]; omega
theorem hdB_byt (x:HdQ) (ok:x.ok):byt (hdB x)=true:=by
  unfold hdB
  exact byt_app (byt_app (byt_app (byt_app (leN_byt _ _) (byt_app ok.bp ok.br)) (leN_byt _ _)) (leN_byt _ _)) (leN_byt _ _)
theorem hdV_fit (x:HdQ) (ok:x.ok):Fit 68 (hdV x):=by
  refine ⟨hdV_len x ok,?_⟩
  unfold hdV
  rw [List.all_append,List.all_append,List.all_append,plain_ofI,plain_ofI]; rfl
theorem hdV_at (x:HdQ) (ok:x.ok):(hdV x)[0]?=some (.int .u32 (x.ver:Int))∧(hdV x)[65]?=some (.int .u32 (x.time:Int))∧(hdV x)[66]?=some (.int .u32 (x.bits:Int))∧(hdV x)[67]?=some (.int .u32 (x.nonce:Int)):=by
  have l1:([V.int .u32 (x.ver:Int)]++ofI .u8 x.prev++ofI .u8 x.root).length=65:=by
    have:=ok.lp
    have:=ok.lr
    simp only [List.length_append,ofI_len,List.length_cons,List.length_nil]; omega
  unfold hdV
  refine ⟨rfl,?_,?_,?_⟩ <;> rw [List.getElem?_append_right (by omega),l1] <;> rfl
theorem hdV_prev (x:HdQ) (ok:x.ok):((hdV x).drop 1).take 32=ofI .u8 x.prev:=by
  unfold hdV
  rw [List.append_assoc,List.append_assoc,List.drop_left' (by rfl),List.take_left' (by rw [ofI_len,ok.lp])]
theorem hdV_root (x:HdQ) (ok:x.ok):((hdV x).drop 33).take 32=ofI .u8 x.root:=by
  unfold hdV
  have l1:([V.int .u32 (x.ver:Int)]++ofI .u8 x.prev).length=33:=by
    have:=ok.lp
    simp only [List.length_append,ofI_len,List.length_cons,List.length_nil]; omega
  rw [List.append_assoc ([V.int .u32 (x.ver:Int)]++ofI .u8 x.prev),List.drop_left' l1,List.take_left' (by rw [ofI_len,ok.lr])]
/-- many parts at once -/
theorem PenS.rawp (e:EnPen E) (xr:∀ a h,X (.fn k_octet_Pen_Raw) a h=none) (M:Nat) {S:Nat→Prop} {h hr:H} {pn:Nat} {w:List Nat} (p:PenS S pn w h) (kr:Kp h hr) (ps:List Pt) (hM:ps.length < M) (hl:ps.length < 9223372036854775807) (c:Option Nat) (md:Md) (lt:h.next < hr.next) (g:hr.get h.next=some (.cells (ps.map slOf) md)) (hw:w.length+(flV ps).length≤100000000) (src:∀ q ∈ ps,SrcS S h q.1 q.2.2.1 q.2.2.2) :
    ∃ h',callX E X (M+1) (.fn k_octet_Pen_Raw) [.ptr (some (pn,0)),.slice (some (h.next,0)) ps.length c 1] hr=some (.int .i64 0,h')∧PsR S pn (w++flV ps) h h':=by
  obtain ⟨⟨a,pe,ge⟩,ne,ltS⟩:=p
  have pe':=pe.kp kr
  have l1:=pe.lt
  obtain ⟨h',a',r,p',f⟩:=rawv_go e.rw_ xr M pn h.next ps c hM hl w a hw md hr pe' lt (by omega) (fun e => by have:=pe.alt e; omega) g (fun q hq => by
    have:=(src q hq).part (a:=a) (pn:=pn) (c:=q.2.1) ge ne
    exact ⟨this.1.mono kr,this.2⟩)
  obtain ⟨q1,q2,q3⟩:=PenS.step ge ne (fun j hj => by have:=ltS j hj; omega) p' f
  exact ⟨h',r,q1,by have:=kr.1; omega,fun j hj => by rw [q3 j hj,kr.2 _ (ltS j hj)]⟩
structure EnBh (E:Nat→Option Fn):Prop where
  ep:EnPen E
  eh:E k_block_EncodeHeader=some f_block_EncodeHeader
structure NoBh (X:Orc):Prop where
  te:NoTe X
  eh:∀ a h,X (.fn k_block_EncodeHeader) a h=none
theorem enchead_go (e:EnBh E) (x:NoBh X) (al:E k_octet_Pen_All=some f_octet_Pen_All) (M:Nat) (hM:100 < M) (d:HdQ) (ok:d.ok) (h:H) :
    ∃ h' a2 c2 e2,callX E X (M+7) (.fn k_block_EncodeHeader) [.agg (hdV d)] h=some (.slice a2 80 c2 e2,h')∧Nw h h' (hdB d) a2 c2 e2:=by
  rw [x_cfn e.eh _ _ (Nat.le_of_ble_eq_true rfl) (x.eh _ _)]
  have ca':∀ l:List V,(V.agg l).cells=l:=fun _ => rfl
  obtain ⟨hb,ehb⟩:∃ hb,h.new (.cells (hdV d) .rw)=hb:=⟨_,rfl⟩
  have kb:Kp h hb:=by rw [← ehb]; exact Kp.new _ _
  have nb:hb.next=h.next+1:=by rw [← ehb]; rfl
  have g0:hb.get h.next=some (.cells (hdV d) .rw):=by rw [← ehb]; exact h_new_same _ _
  obtain ⟨h1,eh1⟩:∃ h1,hb.new (.cells [.slice none 0 (some 0) 0] .rw)=h1:=⟨_,rfl⟩
  have k1:Kp hb h1:=by rw [← eh1]; exact Kp.new _ _
  have n1:h1.next=hb.next+1:=by rw [← eh1]; rfl
  have g1:h1.get h.next=some (.cells (hdV d) .rw):=by rw [k1.2 _ (by omega),g0]
  have p1:PenS (fun j => j < hb.next) hb.next [] h1:=⟨⟨none,PenH.new h1 hb.next (by omega) (by rw [← eh1]; exact h_new_same _ _),fun q o e => by cases e⟩,fun h => Nat.lt_irrefl _ h,fun j hj => by have:j < hb.next:=hj; omega⟩
  obtain ⟨i0,i65,i66,i67⟩:=hdV_at d ok
  have lV:=hdV_len d ok
  have lp:=ok.lp
  have lr:=ok.lr
  obtain ⟨h2,r2,p2,n2,f2⟩:=PenS.fixed e.ep.fi x.te.fi (M+2) (by omega) p1 4 (.inl rfl) d.ver ok.v1 (by simp)
  rw [List.nil_append] at p2
  have g2:h2.get h.next=some (.cells (hdV d) .rw):=by rw [f2 _ (by omega),g1]
  obtain ⟨hr,ehr⟩:∃ hr,(bump 1 h2).put h2.next (.cells [.slice (some (h.next,1)) 32 (some 32) 1,.slice (some (h.next,33)) 32 (some 32) 1] .rw)=hr:=⟨_,rfl⟩
  have nr:hr.next=h2.next+1:=by rw [← ehr]; rfl
  have kr:Kp h2 hr:=⟨by omega,fun j hj => by rw [← ehr,h_put_ne _ _ (by omega),s_bump_get]⟩
  have gr:hr.get h2.next=some (.cells ([(some (h.next,1),some 32,1,d.prev),(some (h.next,33),some 32,1,d.root)].map slOf) .rw):=by
    rw [← ehr,h_put_same]; unfold slOf; simp only [List.map_cons,List.map_nil,lp,lr]
  have fl:flV [(some (h.next,1),some 32,1,d.prev),(some (h.next,33),some 32,1,d.root)]=d.prev++d.root:=by unfold flV; simp
  obtain ⟨h3,r3,p3,n3,f3⟩:=PenS.rawp e.ep x.te.rw_ (M+5) p2 kr [(some (h.next,1),some 32,1,d.prev),(some (h.next,33),some 32,1,d.root)] (by show 2 < _; omega) (by show 2 < _; omega) (some 2) .rw (by omega) gr (by rw [fl,leN_len,List.length_append]; omega) (fun q hq => by
    rcases List.mem_cons.1 hq with rfl | hq
    · exact .inr ⟨h.next,1,hdV d,.rw,rfl,rfl,by show h.next < hb.next; omega,by omega,g2,by simp only [lp,lV]; omega,by simp only [lp]; exact hdV_prev d ok⟩
    · rcases List.mem_singleton.1 hq with rfl
      exact .inr ⟨h.next,33,hdV d,.rw,rfl,rfl,by show h.next < hb.next; omega,by omega,g2,by simp only [lr,lV]; omega,by simp only [lr]; exact hdV_root d ok⟩)
  rw [fl] at p3
  have g3:h3.get h.next=some (.cells (hdV d) .rw):=by rw [f3 _ (by omega),g2]
  obtain ⟨h4,r4,p4,n4,f4⟩:=PenS.fixed e.ep.fi x.te.fi (M+2) (by omega) p3 4 (.inl rfl) d.time ok.t1 (by simp only [List.length_append,leN_len]; omega)
  have g4:h4.get h.next=some (.cells (hdV d) .rw):=by rw [f4 _ (by omega),g3]
  obtain ⟨h5,r5,p5,n5,f5⟩:=PenS.fixed e.ep.fi x.te.fi (M+2) (by omega) p4 4 (.inl rfl) d.bits ok.b1 (by simp only [List.length_append,leN_len]; omega)
  have g5:h5.get h.next=some (.cells (hdV d) .rw):=by rw [f5 _ (by omega),g4]
  obtain ⟨h6,r6,p6,n6,f6⟩:=PenS.fixed e.ep.fi x.te.fi (M+2) (by omega) p5 4 (.inl rfl) d.nonce ok.n1 (by simp only [List.length_append,leN_len]; omega)
  have ew:leN 4 d.ver++(d.prev++d.root)++leN 4 d.time++leN 4 d.bits++leN 4 d.nonce=hdB d:=rfl
  rw [ew] at p6
  have lB:=hdB_len d ok
  obtain ⟨⟨a6,pe6,_⟩,_,_⟩:=p6
  obtain ⟨a7,c7,e7,h7,r7,nw7⟩:=allv_go al x.te.al (M+5) hb.next (hdB d) (by omega) a6 h6 pe6
  rw [lB] at r7
  have k7:=nw7.kp
  have kn7:=k7.1
  refine ⟨h7,a7,c7,e7,?_,⟨⟨by omega,fun j hj => by rw [k7.2 _ (by omega),f6 _ (by omega),f5 _ (by omega),f4 _ (by omega),f3 _ (by omega),f2 _ (by omega),k1.2 _ (by omega),kb.2 _ hj]⟩,nw7.wb,fun q o e => by have:=nw7.ge q o e; omega⟩⟩
  have u1:wr .u64 (d.ver:Int)=(d.ver:Int):=u64n _ (by have:=ok.v1; omega)
  have u2:wr .u64 (d.time:Int)=(d.time:Int):=u64n _ (by have:=ok.t1; omega)
  have u3:wr .u64 (d.bits:Int)=(d.bits:Int):=u64n _ (by have:=ok.b1; omega)
  have u4:wr .u64 (d.nonce:Int)=(d.nonce:Int):=u64n _ (by have:=ok.n1; omega)
  have sl1:∀ (h:H) i,slcB (some (.cells (hdV d) .rw)) 32 1 i 1 none none h=some (.slice (some (i,1)) 32 (some 32) 1,h):=fun h i => slcB_nn (hdV d) .rw 32 i 1 h (by omega)
  have sl2:∀ (h:H) i,slcB (some (.cells (hdV d) .rw)) 32 1 i 33 none none h=some (.slice (some (i,33)) 32 (some 32) 1,h):=fun h i => slcB_nn (hdV d) .rw 32 i 33 h (by omega)
  replace r2:callX E X (M+6) (.fn k_octet_Pen_Fixed) [.ptr (some (hb.next,0)),.int .i64 4,.int .u64 (d.ver:Int)] h1=_:=r2
  replace r4:callX E X (M+6) (.fn k_octet_Pen_Fixed) [.ptr (some (hb.next,0)),.int .i64 4,.int .u64 (d.time:Int)] h3=_:=r4
  replace r5:callX E X (M+6) (.fn k_octet_Pen_Fixed) [.ptr (some (hb.next,0)),.int .i64 4,.int .u64 (d.bits:Int)] h4=_:=r5
  replace r6:callX E X (M+6) (.fn k_octet_Pen_Fixed) [.ptr (some (hb.next,0)),.int .i64 4,.int .u64 (d.nonce:Int)] h5=_:=r6
  replace r7:callX E X (M+6) (.fn k_octet_Pen_All) [.ptr (some (hb.next,0))] h6=_:=r7
  replace r3:callX E X (M+6) (.fn k_octet_Pen_Raw) [.ptr (some (hb.next,0)),.slice (some (h2.next,0)) 2 (some 2) 1] hr=_:=r3
  generalize hdV d=D at *
  simp (config:={maxSteps:=2000000}) (disch:=first | omega | (simp only [List.length_cons,List.length_nil,List.length_append,List.length_drop]; omega)) only [ca',ehb,g1,g2,eh1,i0,u1,r2,↓x_slcA,x_slcAE,x_M0,sl1,sl2,ehr,r3,g3,i65,u2,r4,g4,i66,u3,r5,g5,i67,u4,r6,r7,↓s_mkfn,↓s_dBuildS,s_dbE,↓s_box,↓x_conv,x_convV,↓x_conv,x_convV,↓x_fieldAddr,x_fieldV,Nat.zero_add,Nat.add_zero,↓s_evD,↓s_dnil,↓s_dL,↓s_dR,↓s_dB,↓s_bindD,s_bindD,s_finD,s_addP0,s_addP1,s_addB,s_lookP,↓s_bump_get,Nat.add_zero,↓s_load,m_load,↓m_load1,m_load1,w_zero,w_succ,↓s_alloc,↓x_P0,↓x_P1,x_fill0,x_fills,List.length_cons,List.length_nil,List.cons_append,List.drop_succ_cons,List.drop_zero,List.drop_nil,List.nil_append,s_res0,↓s_ops,↓s_dops,↓s_seq,↓s_ret,↓s_nil,↓s_op,↓s_bindS,s_bindS,↓s_bindE,s_bindE,s_norm,↓s_getp,↓s_get,↓s_con,↓s_os0,↓s_os1,↓s_list0,↓s_list1,↓s_mov,↓s_call,↓s_callv,↓s_callV,s_same,s_end,s_res0,s_res1,s_tup1,↓iteN_true,↓iteN_false,iteN_true,iteN_false,Nat.zero_add,List.nil_append,List.append_nil,Nat.reduceEqDiff,decide_true,decide_false]
  try rfl
end Go.Eng
namespace Go.Eng
open Go
variable {E:Nat→Option Fn} {X:Orc}
set_option linter.unusedSimpArgs false
set_option linter.unusedVariables false
theorem hdB_inj (x y:HdQ) (ox:x.ok) (oy:y.ok) (h:hdB x=hdB y):x=y:=by
  unfold hdB at h
  have l4:∀ n,(leN 4 n).length=4:=fun n => leN_len _ _
  obtain ⟨h,h6⟩:=List.append_inj' h (by rw [l4,l4])
  obtain ⟨h,h5⟩:=List.append_inj' h (by rw [l4,l4])
  obtain ⟨h,h4⟩:=List.append_inj' h (by rw [l4,l4])
  obtain ⟨h1,h⟩:=List.append_inj h (by rw [l4,l4])
  obtain ⟨h2,h3⟩:=List.append_inj h (by rw [ox.lp,oy.lp])
  have n4:∀ a b,a < 4294967296→b < 4294967296→leN 4 a=leN 4 b→a=b:=fun a b ha hb e => by
    rw [← numV_leN 4 a (by simpa using ha),← numV_leN 4 b (by simpa using hb),e]
  obtain ⟨xv,xp,xr,xt,xb,xn⟩:=x
  obtain ⟨yv,yp,yr,yt,yb,yn⟩:=y
  simp only at h1 h2 h3 h4 h5 h6
  have q1:xv=yv:=n4 _ _ ox.v1 oy.v1 h1
  have q4:xt=yt:=n4 _ _ ox.t1 oy.t1 h4
  have q5:xb=yb:=n4 _ _ ox.b1 oy.b1 h5
  have q6:xn=yn:=n4 _ _ ox.n1 oy.n1 h6
  rw [h2,h3,q1,q4,q5,q6]
structure EnBr (E:Nat→Option Fn):Prop where
  ey:EnEye E
  lo:E k_octet_Look=some f_octet_Look
  wo:E k_block_word=some f_block_word
  ha:E k_block_hash=some f_block_hash
  dh:E k_block_DecodeHeader=some f_block_DecodeHeader
structure NoBr (X:Orc):Prop where
  ey:NoEye X
  lo:∀ a h,X (.fn k_octet_Look) a h=none
  wo:∀ a h,X (.fn k_block_word) a h=none
  ha:∀ a h,X (.fn k_block_hash) a h=none
  dh:∀ a h,X (.fn k_block_DecodeHeader) a h=none
theorem bword_go (e:EnBr E) (x:NoBr X) (N p:Nat) (l:List Nat) (bl:byt l=true) (hl:l.length≤100000000) (at_:Nat) (hle:at_+4≤l.length) (a:Option (Nat × Nat)) (h:H) (y:EyeH p l at_ a h) :
    ∃ h',callX E X (N+13) (.fn k_block_word) [.ptr (some (p,0))] h=some (.int .u32 (numV ((l.drop at_).take 4):Nat),h')∧Kq p h h'∧EyeH p l (at_+4) a h'∧numV ((l.drop at_).take 4) < 4294967296:=by
  rw [x_cfn e.wo _ _ (Nat.le_of_ble_eq_true rfl) (x.wo _ _)]
  obtain ⟨h1,r1,k1,y1⟩:=eyfix_go e.ey x.ey N p 4 l bl hl at_ a h y
  have ef:eyFix 4 l at_=(numV ((l.drop at_).take 4),0,at_+4):=by
    unfold eyFix
    rw [if_pos (show sizedI 4=true from rfl),show (4:Int).toNat=4 from rfl,if_pos hle]
  have lt:numV ((l.drop at_).take 4) < 4294967296:=by
    have:(eyFix 4 l at_).1 < 256 ^ 4:=eyFix_lt 4 (.inl rfl) l bl at_
    rw [ef] at this; simpa using this
  rw [ef] at r1 y1
  simp only at r1 y1
  have w:wr .u32 (numV ((l.drop at_).take 4):Int)=(numV ((l.drop at_).take 4):Int):=wr_u32 (by omega)
  refine ⟨h1,?_,k1,y1,lt⟩
  generalize numV ((l.drop at_).take 4)=v at *
  simp (config:={maxSteps:=2000000}) (disch:=first | omega | (simp only [List.length_cons,List.length_nil,List.length_append,List.length_drop]; omega)) only [r1,w,↓x_conv,x_convV,↓x_conv,x_convV,Int.cast_ofNat_Int,s_res0,↓s_ops,↓s_seq,↓s_ret,↓s_nil,↓s_op,↓s_bindS,s_bindS,↓s_bindE,s_bindE,s_norm,↓s_getp,↓s_get,↓s_con,↓s_os0,↓s_os1,↓s_list0,↓s_list1,↓s_mov,↓s_call,↓s_ext,s_same,s_end,s_res0,s_res1,s_tup1,↓iteN_true,↓iteN_false,iteN_true,iteN_false,Nat.reduceEqDiff,decide_true,decide_false,List.getElem?_cons_zero,List.getElem?_cons_succ]
  try rfl
theorem bhash_go (e:EnBr E) (x:NoBr X) (N p:Nat) (l:List Nat) (hl:l.length≤100000000) (at_:Nat) (hle:at_+32≤l.length) (a:Option (Nat × Nat)) (h:H) (y:EyeH p l at_ a h) :
    ∃ h',callX E X (N+4) (.fn k_block_hash) [.ptr (some (p,0))] h=some (.agg (ofI .u8 ((l.drop at_).take 32)),h')∧Kq p h h'∧EyeH p l (at_+32) a h':=by
  rw [x_cfn e.ha _ _ (Nat.le_of_ble_eq_true rfl) (x.ha _ _)]
  rw [← z32e]
  obtain ⟨Z,eZ⟩:∃ Z,ofI .u8 (List.replicate 32 0)=Z:=⟨_,rfl⟩
  rw [eZ]
  have lte:=y.lt
  obtain ⟨h2,eh2⟩:∃ h2,(h.new (.cells Z .rw)).new (.cells Z .rw)=h2:=⟨_,rfl⟩
  have k2:Kp h h2:=by rw [← eh2]; (repeat (first | exact Kp.refl _ | refine Kp.put ?_ _ (by first | omega | (simp only [h_next_put,h_next_new,h_next_del]; omega)) | refine Kp.del ?_ (by first | omega | (simp only [h_next_put,h_next_new,h_next_del]; omega)) | refine Kp.trans ?_ (Kp.new _ _)))
  have n2:h2.next=h.next+2:=by rw [← eh2]; rfl
  have g21:h2.get h.next=some (.cells Z .rw):=by rw [← eh2]; (simp (disch:=omega) only [h_new_get,h_next_new,Nat.add_eq_left,decide_true,decide_false,iteN_true,iteN_false,reduceCtorEq,]; try rfl)
  have g22:h2.get (h.next+1)=some (.cells Z .rw):=by rw [← eh2]; (simp (disch:=omega) only [h_new_get,h_next_new,decide_true,iteN_true,]; try rfl)
  obtain ⟨h3,b,cb,eb,c3,nq,y3⟩:=eyraw_go e.ey x.ey N p 32 l hl at_ a h2 (y.kp k2)
  have er:eyRaw 32 l at_=((l.drop at_).take 32,0,at_+32):=by
    unfold eyRaw
    rw [if_neg (by omega),show (32:Int).toNat=32 from rfl,if_pos hle]
  rw [er] at c3 nq y3
  simp only at c3 nq y3
  obtain ⟨w,ew⟩:∃ w,(l.drop at_).take 32=w:=⟨_,rfl⟩
  have lw:w.length=32:=by rw [← ew,List.length_take,List.length_drop]; omega
  rw [ew] at c3 nq ⊢
  have kn:=nq.kq.1
  have g31:h3.get h.next=some (.cells Z .rw):=by rw [nq.kq.2 _ (by omega) (by omega),g21]
  have g32:h3.get (h.next+1)=some (.cells Z .rw):=by rw [nq.kq.2 _ (by omega) (by omega),g22]
  have sc:=nq.wb.src.cellz cb
  have cp:=copy_bytes h3 (h.next+1) 0 32 (some 32) w Z .rw rfl g32 (fun h => by rw [h] at lw; cases lw) (by omega) (by rw [← eZ,ofI_len,List.length_replicate]; omega)
  rw [lw,Nat.min_self,List.take_of_length_le (by rw [lw]; omega),← eZ,wrAll _ _ _ (by rw [List.length_replicate,lw])] at cp
  have sl':∀ i (h:H),slcB (some (.cells Z .rw)) 32 1 i 0 none none h=some (.slice (some (i,0)) 32 (some 32) 1,h):=fun i h => slcB_nn Z .rw 32 i 0 h (by rw [← eZ,ofI_len,List.length_replicate]; omega)
  have ld:∀ m,loadE (some (.cells (ofI .u8 w) m)) (some 32) 0=some (.agg (ofI .u8 w)):=fun m => by rw [m_loadN,x_readAll _ 32 (by rw [ofI_len,lw])]
  have st:∀ h i,storeV h 32 (.ptr (some (i,0))) (.agg (ofI .u8 w))=storeE (h.get i) h i 0 (ofI .u8 w):=fun h i => st32 h i 0 _ lw
  have pu:∀ h i,storeE (some (.cells Z .rw)) h i 0 (ofI .u8 w)=some (h.put i (.cells (ofI .u8 w) .rw)):=fun h i => by
    rw [m_storeE _ _ _ _ _ (by rw [← eZ,ofI_len,ofI_len,lw,List.length_replicate]; omega),← eZ,wrAll _ _ _ (by rw [List.length_replicate,lw])]
  rw [lw] at sc c3
  obtain ⟨h5,eh5⟩:∃ h5,h3.put (h.next+1) (.cells (ofI .u8 w) .rw)=h5:=⟨_,rfl⟩
  rw [eh5] at cp
  have g51:h5.get h.next=some (.cells Z .rw):=by rw [← eh5,h_put_ne _ _ (by omega),g31]
  have g52:h5.get (h.next+1)=some (.cells (ofI .u8 w) .rw):=by rw [← eh5]; exact h_put_same _ _ _
  have n5:h5.next=h3.next:=by rw [← eh5]; rfl
  refine ⟨h5.put h.next (.cells (ofI .u8 w) .rw),?_,?_,?_⟩
  · generalize ofI .u8 w=W at *
    simp (config:={maxSteps:=2000000}) (disch:=first | omega | (simp only [List.length_cons,List.length_nil,List.length_append,List.length_drop]; omega)) only [eh2,c3,↓x_slcA,x_slcAE,x_M0,g32,sl',↓x_copy,sc,cp,g52,g51,ld,st,pu,↓h_put_get,h_next_new,↓s_load,m_load,↓m_st,m_stE,↓s_alloc,Int.cast_ofNat_Int,s_resc,s_consR,s_res0,↓s_ops,↓s_seq,↓s_ret,↓s_nil,↓s_op,↓s_bindS,s_bindS,↓s_bindE,s_bindE,s_norm,↓s_getp,↓s_getp0,↓s_get,↓s_con,↓s_os0,↓s_os1,↓s_list0,↓s_list1,↓s_mov,↓s_call,↓s_ext,s_same,s_end,s_res0,s_tup1,↓iteN_true,↓iteN_false,iteN_true,iteN_false,Nat.reduceEqDiff,decide_true,decide_false,List.getElem?_cons_zero,List.getElem?_cons_succ]
    try rfl
  · refine ⟨by show h.next≤h5.next; omega,fun j hj hp => ?_⟩
    rw [h_put_ne _ _ (by omega),← eh5,h_put_ne _ _ (by omega),nq.kq.2 _ (by omega) hp,k2.2 _ hj]
  · refine y3.mono (by show h3.next≤h5.next; omega) ?_ ?_
    · rw [h_put_ne _ _ (by omega),← eh5,h_put_ne _ _ (by omega)]
    · intro q hq eq
      have:=y.alt eq
      rw [h_put_ne _ _ (by omega),← eh5,h_put_ne _ _ (by omega)]
def Z68:List V:=[.int .u32 0,.int .u8 0,.int .u8 0,.int .u8 0,.int .u8 0,.int .u8 0,.int .u8 0,.int .u8 0,.int .u8 0,.int .u8 0,.int .u8 0,.int .u8 0,.int .u8 0,.int .u8 0,.int .u8 0,.int .u8 0,.int .u8 0,.int .u8 0,.int .u8 0,.int .u8 0,.int .u8 0,.int .u8 0,.int .u8 0,.int .u8 0,.int .u8 0,.int .u8 0,.int .u8 0,.int .u8 0,.int .u8 0,.int .u8 0,.int .u8 0,.int .u8 0,.int .u8 0,.int .u8 0,.int .u8 0,.int .u8 0,.int .u8 0,.int .u8 0,.int .u8 0,.int .u8 0,.int .u8 0,.int .u8 0,.int .u8 0,.int .u8 0,.int .u8 0,.int .u8 0,.int .u8 0,.int .u8 0,.int .u8 0,.int .u8 0,.int .u8 0,.int .u8 0,.int .u8 0,.int .u8 0,.int .u8 0,.int .u8 0,.int .u8 0,.int .u8 0,.int .u8 0,.int .u8 0,.int .u8 0,.int .u8 0,.int .u8 0,.int .u8 0,.int .u8 0,.int .u32 0,.int .u32 0,.int .u32 0]
theorem fill_next (pre post:List V) (n:Nat) (v:V) (r:List (Nat × Nat × V)) (k:Nat) (hk:pre.length=k) (hv:v.cells.length=n) (hp:n≤post.length):fillV (pre++post) ((k,n,v) :: r)=fillV ((pre++v.cells)++post.drop n) r:=by
  rw [x_fill1 _ _ _ _ _ (by rw [hv,Nat.beq_refl,List.length_append]; simp; omega),writeN_eq _ _ _ (by rw [List.length_append]; omega),List.take_left' hk,hv,List.drop_append,hk,List.drop_eq_nil_of_le (by omega),List.nil_append]
  congr 3
  omega
theorem fill68 (x:HdQ) (ok:x.ok):fillV Z68 [(0,1,.int .u32 (x.ver:Int)),(1,32,.agg (ofI .u8 x.prev)),(33,32,.agg (ofI .u8 x.root)),(65,1,.int .u32 (x.time:Int)),(66,1,.int .u32 (x.bits:Int)),(67,1,.int .u32 (x.nonce:Int))]=some (hdV x):=by
  have lz:Z68.length=68:=rfl
  have lp:=ok.lp
  have lr:=ok.lr
  have c1:∀ n:Nat,(V.int .u32 (n:Int)).cells=[.int .u32 (n:Int)]:=fun _ => rfl
  have c2:∀ l,(V.agg l).cells=l:=fun _ => rfl
  have h0:=fill_next [] Z68 1 (.int .u32 (x.ver:Int)) [(1,32,.agg (ofI .u8 x.prev)),(33,32,.agg (ofI .u8 x.root)),(65,1,.int .u32 (x.time:Int)),(66,1,.int .u32 (x.bits:Int)),(67,1,.int .u32 (x.nonce:Int))] 0 rfl rfl (by omega)
  rw [List.nil_append,List.nil_append,c1] at h0
  rw [h0,fill_next _ _ 32 _ _ 1 rfl (by rw [c2,ofI_len,lp]) (by rw [List.length_drop]; omega),c2,List.drop_drop,
    fill_next _ _ 32 _ _ 33 (by simp [ofI_len,lp]) (by rw [c2,ofI_len,lr]) (by rw [List.length_drop]; omega),c2,List.drop_drop,
    fill_next _ _ 1 _ _ 65 (by simp [ofI_len,lp,lr]) rfl (by rw [List.length_drop]; omega),c1,List.drop_drop,
    fill_next _ _ 1 _ _ 66 (by simp [ofI_len,lp,lr]) rfl (by rw [List.length_drop]; omega),c1,List.drop_drop,
    fill_next _ _ 1 _ _ 67 (by simp [ofI_len,lp,lr]) rfl (by rw [List.length_drop]; omega),c1,List.drop_drop,x_fill0,List.drop_eq_nil_of_le (by omega),List.append_nil]
  unfold hdV
  simp only [List.append_assoc,List.cons_append,List.nil_append]
def hdZ:HdQ:=⟨0,List.replicate 32 0,List.replicate 32 0,0,0,0⟩
theorem hdZ_V:hdV hdZ=Z68:=rfl
theorem hdZ_ok:hdZ.ok:=⟨by decide,by decide,by decide,by decide,by decide,by decide,by decide,by decide⟩
theorem dechead_go (e:EnBr E) (x:NoBr X) (K:Nat) (hK:100 < K) (l:List Nat) (bl:byt l=true) (hl:l.length≤100000000) (a0:Option (Nat × Nat)) (c0:Option Nat) (e0:Nat) (h:H) (src:SrcH h a0 e0 l) :
    ∃ h',Kp h h'∧((l.length=80∧∃ d:HdQ,d.ok∧hdB d=l∧callX E X (K+20) (.fn k_block_DecodeHeader) [.slice a0 l.length c0 e0] h=some (.tup [.agg (hdV d),.int .i64 0],h'))∨(l.length≠80∧callX E X (K+20) (.fn k_block_DecodeHeader) [.slice a0 l.length c0 e0] h=some (.tup [.agg Z68,.int .i64 70],h'))):=by
  rw [x_cfn e.dh _ _ (Nat.le_of_ble_eq_true rfl) (x.dh _ _)]
  rw [show ([.int .u32 0,.int .u8 0,.int .u8 0,.int .u8 0,.int .u8 0,.int .u8 0,.int .u8 0,.int .u8 0,.int .u8 0,.int .u8 0,.int .u8 0,.int .u8 0,.int .u8 0,.int .u8 0,.int .u8 0,.int .u8 0,.int .u8 0,.int .u8 0,.int .u8 0,.int .u8 0,.int .u8 0,.int .u8 0,.int .u8 0,.int .u8 0,.int .u8 0,.int .u8 0,.int .u8 0,.int .u8 0,.int .u8 0,.int .u8 0,.int .u8 0,.int .u8 0,.int .u8 0,.int .u8 0,.int .u8 0,.int .u8 0,.int .u8 0,.int .u8 0,.int .u8 0,.int .u8 0,.int .u8 0,.int .u8 0,.int .u8 0,.int .u8 0,.int .u8 0,.int .u8 0,.int .u8 0,.int .u8 0,.int .u8 0,.int .u8 0,.int .u8 0,.int .u8 0,.int .u8 0,.int .u8 0,.int .u8 0,.int .u8 0,.int .u8 0,.int .u8 0,.int .u8 0,.int .u8 0,.int .u8 0,.int .u8 0,.int .u8 0,.int .u8 0,.int .u8 0,.int .u32 0,.int .u32 0,.int .u32 0]:List V)=Z68 from rfl]
  obtain ⟨hA,ehA⟩:∃ hA,h.new (.cells Z68 .rw)=hA:=⟨_,rfl⟩
  have kA:Kp h hA:=by rw [← ehA]; exact Kp.new _ _
  have nA:hA.next=h.next+1:=by rw [← ehA]; rfl
  have gA:hA.get h.next=some (.cells Z68 .rw):=by rw [← ehA]; exact h_new_same _ _
  have lz:Z68.length=68:=rfl
  have fitZ:Fit 68 Z68:=by rw [← hdZ_V]; exact hdV_fit hdZ hdZ_ok
  have stZ:=fun h i => fit_st fitZ h i
  have puZ:=fun h i => fit_put fitZ h i Z68 lz
  have ldZ:=fun m => fit_ld fitZ m
  have fz:fillV Z68 []=some Z68:=rfl
  by_cases hn:l.length=80
  rotate_left
  · have d1:decide ((l.length:Int)=80)=false:=decide_eq_false (by omega)
    refine ⟨hA.put h.next (.cells Z68 .rw),⟨by show h.next≤hA.next; omega,fun j hj => by rw [h_put_ne _ _ (by omega),kA.2 _ hj]⟩,.inr ⟨hn,?_⟩⟩
    generalize Z68=Z at *
    generalize l.length=n at *
    simp (config:={maxSteps:=2000000}) (disch:=first | omega | (simp only [List.length_cons,List.length_nil,List.length_append,List.length_drop]; omega)) only [ehA,gA,d1,fz,stZ,puZ,ldZ,Bool.not_false,↓x_build,x_aggO,↓s_len,x_lenS,↓h_put_get,m_load,↓m_st,m_stE,↓s_alloc,x_lenS,↓s_len,↓x_P0,s_resc,s_consR,s_res0,↓s_ops,↓s_seq,↓s_cond,↓s_ret,↓s_nil,↓s_op,↓s_bindS,s_bindS,↓s_bindE,s_bindE,s_bindE_ret,s_norm,↓s_condV,s_condV,↓s_getp,↓s_getp0,↓s_get,↓s_con,↓s_list0,↓s_list1,↓s_mov,↓s_bin,s_same,b_neq,s_end,s_res0,s_res1,s_tup2,↓iteN_true,↓iteN_false,iteN_true,iteN_false,Nat.reduceEqDiff,decide_true,decide_false,Bool.not_false]
    try rfl
  have d1:decide ((l.length:Int)=80)=true:=decide_eq_true (by omega)
  obtain ⟨h1,p,ay,c1,k1,lep,y1,gay⟩:=look_go e.lo x.lo (K+18) l hl a0 c0 e0 hA (src.mono kA)
  replace c1:callX E X (K+19) (.fn k_octet_Look) _ hA=_:=c1
  obtain ⟨h2,c2,k2,y2,w1⟩:=bword_go e x (K+6) p l bl hl 0 (by omega) ay h1 y1
  obtain ⟨h3,c3,k3,y3⟩:=bhash_go e x (K+15) p l hl (0+4) (by omega) ay h2 y2
  obtain ⟨h4,c4,k4,y4⟩:=bhash_go e x (K+15) p l hl (0+4+32) (by omega) ay h3 y3
  obtain ⟨h5,c5,k5,y5,w5⟩:=bword_go e x (K+6) p l bl hl (0+4+32+32) (by omega) ay h4 y4
  obtain ⟨h6,c6,k6,y6,w6⟩:=bword_go e x (K+6) p l bl hl (0+4+32+32+4) (by omega) ay h5 y5
  obtain ⟨h7,c7,k7,y7,w7⟩:=bword_go e x (K+6) p l bl hl (0+4+32+32+4+4) (by omega) ay h6 y6
  replace c2:callX E X (K+19) (.fn k_block_word) _ h1=_:=c2
  replace c3:callX E X (K+19) (.fn k_block_hash) _ h2=_:=c3
  replace c4:callX E X (K+19) (.fn k_block_hash) _ h3=_:=c4
  replace c5:callX E X (K+19) (.fn k_block_word) _ h4=_:=c5
  replace c6:callX E X (K+19) (.fn k_block_word) _ h5=_:=c6
  replace c7:callX E X (K+19) (.fn k_block_word) _ h6=_:=c7
  obtain ⟨d,ed⟩:∃ d:HdQ,(⟨numV ((l.drop 0).take 4),(l.drop (0+4)).take 32,(l.drop (0+4+32)).take 32,numV ((l.drop (0+4+32+32)).take 4),numV ((l.drop (0+4+32+32+4)).take 4),numV ((l.drop (0+4+32+32+4+4)).take 4)⟩:HdQ)=d:=⟨_,rfl⟩
  have ok:d.ok:=by
    rw [← ed]
    exact ⟨w1,by simp only [List.length_take,List.length_drop]; omega,byt_take (byt_drop bl _) _,by simp only [List.length_take,List.length_drop]; omega,byt_take (byt_drop bl _) _,w5,w6,w7⟩
  have n4:∀ k,k+4≤80→leN 4 (numV ((l.drop k).take 4))=(l.drop k).take 4:=fun k hk => leN_numV' _ (byt_take (byt_drop bl _) _) 4 (by simp only [List.length_take,List.length_drop]; omega)
  have eB:hdB d=l:=by
    rw [← ed]
    unfold hdB
    simp only
    rw [n4 _ (by omega),n4 _ (by omega),n4 _ (by omega),n4 _ (by omega)]
    have cut:∀ k m,(l.drop k).take m++l.drop (k+m)=l.drop k:=fun k m => by rw [← List.drop_drop,List.take_append_drop]
    have e80:(l.drop (0+4+32+32+4+4)).take 4=l.drop (0+4+32+32+4+4):=List.take_of_length_le (by simp only [List.length_drop]; omega)
    rw [e80]
    simp only [List.append_assoc]
    rw [cut,cut,cut,cut,cut]
    exact List.drop_zero
  have kn1:=k1.1
  have kn2:=k2.1
  have kn3:=k3.1
  have kn4:=k4.1
  have kn5:=k5.1
  have kn6:=k6.1
  have kn7:=k7.1
  have ltp:=y1.lt
  have g7:h7.get h.next=some (.cells Z68 .rw):=by
    rw [k7.2 _ (by omega) (by omega),k6.2 _ (by omega) (by omega),k5.2 _ (by omega) (by omega),k4.2 _ (by omega) (by omega),k3.2 _ (by omega) (by omega),k2.2 _ (by omega) (by omega),k1.2 _ (by omega),gA]
  have fi:=hdV_fit d ok
  have st:=fun h i => fit_st fi h i
  have pu:=fun h i => fit_put fi h i Z68 lz
  have ld:=fun m => fit_ld fi m
  have ff:=fill68 d ok
  rw [show numV ((l.drop 0).take 4)=d.ver by rw [← ed]] at c2
  rw [show (l.drop (0+4)).take 32=d.prev by rw [← ed]] at c3
  rw [show (l.drop (0+4+32)).take 32=d.root by rw [← ed]] at c4
  rw [show numV ((l.drop (0+4+32+32)).take 4)=d.time by rw [← ed]] at c5
  rw [show numV ((l.drop (0+4+32+32+4)).take 4)=d.bits by rw [← ed]] at c6
  rw [show numV ((l.drop (0+4+32+32+4+4)).take 4)=d.nonce by rw [← ed]] at c7
  refine ⟨h7.put h.next (.cells (hdV d) .rw),⟨by show h.next≤h7.next; omega,fun j hj => ?_⟩,.inl ⟨hn,d,ok,eB,?_⟩⟩
  · rw [h_put_ne _ _ (by omega),k7.2 _ (by omega) (by omega),k6.2 _ (by omega) (by omega),k5.2 _ (by omega) (by omega),k4.2 _ (by omega) (by omega),k3.2 _ (by omega) (by omega),k2.2 _ (by omega) (by omega),k1.2 _ (by omega),kA.2 _ hj]
  · clear ed eB w1 w5 w6 w7 y1 y2 y3 y4 y5 y6 y7 n4
    generalize hdV d=D at *
    generalize ofI .u8 d.prev=PV at *
    generalize ofI .u8 d.root=RV_ at *
    generalize d.ver=v1 at *
    generalize d.time=v2 at *
    generalize d.bits=v3 at *
    generalize d.nonce=v4 at *
    generalize Z68=Z at *
    generalize l.length=n at *
    simp (config:={maxSteps:=2000000}) (disch:=first | omega | (simp only [List.length_cons,List.length_nil,List.length_append,List.length_drop]; omega)) only [ehA,d1,c1,c2,c3,c4,c5,c6,c7,ff,g7,st,pu,ld,Bool.not_true,↓x_build,x_aggO,↓s_len,x_lenS,↓h_put_get,m_load,↓m_st,m_stE,↓s_alloc,x_lenS,↓s_len,↓x_P0,↓x_P1,s_resc,s_consR,s_res0,↓s_skip,↓s_ops,↓s_seq,↓s_cond,↓s_ret,↓s_nil,↓s_op,↓s_bindS,s_bindS,↓s_bindE,s_bindE,s_norm,↓s_condV,s_condV,↓s_getp,↓s_getp0,↓s_get,↓s_con,↓s_os0,↓s_os1,↓s_list0,↓s_list1,↓s_mov,↓s_bin,↓s_call,s_same,b_neq,s_end,s_res0,s_res1,s_tup2,↓iteN_true,↓iteN_false,iteN_true,iteN_false,Nat.reduceEqDiff,decide_true,decide_false,Bool.not_true]
    try rfl
end Go.Eng
namespace Go.Eng
open Go
variable {E:Nat→Option Fn} {X:Orc}
set_option linter.unusedSimpArgs false
set_option linter.unusedVariables false
/-! blocks -/
structure BkQ where
  hd:HdQ
  txs:List TxQ
structure BkQ.ok (x:BkQ):Prop where
  h:x.hd.ok
  t:∀ t ∈ x.txs,t.ok
def bkV (x:BkQ) (a:Option (Nat × Nat)) (c:Option Nat) (e:Nat):List V:=hdV x.hd++[.slice a x.txs.length c e]
def bkB (x:BkQ):List Nat:=hdB x.hd++sizV x.txs.length++(x.txs.map txB).flatten
def BkC (S:Nat→Prop) (h:H) (x:BkQ) (p:List V):Prop:=∃ a c e,p=bkV x a c e∧RowG S 4 TxC h x.txs a e
theorem BkC.mono {S S':Nat→Prop} {h h':H} {x:BkQ} {p:List V} (r:BkC S h x p) (hn:h.next≤h'.next) (k:∀ j,S j→j < h.next→h'.get j=h.get j) (w:∀ j,S j→j < h.next→S' j):BkC S' h' x p:=by
  obtain ⟨a,c,e,rfl,row⟩:=r
  exact ⟨a,c,e,rfl,row.mono2 itTx hn k w⟩
theorem BkC.kp {h h':H} {x:BkQ} {p:List V} (r:BkC (fun j => j < h.next) h x p) (k:Kp h h'):BkC (fun j => j < h'.next) h' x p :=
  r.mono k.1 (fun j hj _ => k.2 j hj) (fun j hj _ => by have:=k.1; have:j < h.next:=hj; show j < h'.next; omega)
theorem bkV_len (x:BkQ) (ok:x.hd.ok) (a:Option (Nat × Nat)) (c:Option Nat) (e:Nat):(bkV x a c e).length=69:=by
  unfold bkV; rw [List.length_append,hdV_len x.hd ok]; rfl
theorem bkV_fit (x:BkQ) (ok:x.hd.ok) (a:Option (Nat × Nat)) (c:Option Nat) (e:Nat):Fit 69 (bkV x a c e):=by
  refine ⟨bkV_len x ok a c e,?_⟩
  unfold bkV; rw [List.all_append,(hdV_fit x.hd ok).2]; rfl
theorem bkV_68 (x:BkQ) (ok:x.hd.ok) (a:Option (Nat × Nat)) (c:Option Nat) (e:Nat):(bkV x a c e)[68]?=some (.slice a x.txs.length c e):=by
  unfold bkV; rw [List.getElem?_append_right (by rw [hdV_len x.hd ok]; omega),hdV_len x.hd ok]; rfl
theorem bkV_ld (x:BkQ) (ok:x.hd.ok) (a:Option (Nat × Nat)) (c:Option Nat) (e:Nat) (m:Md):loadE (some (.cells (bkV x a c e) m)) (some 68) 0=some (.agg (hdV x.hd)):=by
  rw [m_loadN,readN_of _ _ _ (by rw [bkV_len x ok]; omega),List.drop_zero]
  unfold bkV
  rw [List.take_left' (hdV_len x.hd ok)]
/-! is it more than the statements go through -/
structure GbI (v1:V) (i:Nat) (h0:H) (T:Tr V) (h:H):Prop where
  t1:evO T (.t 1)=v1
  t3:evO T (.t 3)=.int .i64 (i:Int)
  kp:Kp h0 h
def gbOk (x:BkQ):Prop:=x.txs.length≤30∧∀ t ∈ x.txs,gtOk t
theorem gb_round (e6:E k_purserref06_Great=some f_purserref06_Great) (x6:∀ a h,X (.fn k_purserref06_Great) a h=none) (M m:Nat) (hM:100 < M) (txs:List TxQ) (lt:txs.length≤30) (sm:∀ t ∈ txs,t.ins.length < 9223372036854775807∧t.outs.length < 9223372036854775807) (P:List V) (pb:Nat) (a:Option (Nat × Nat)) (c:Option Nat) (ez:Nat) (h0:H) (gb:h0.get pb=some (.cells P .rw)) (lpb:pb < h0.next) (p68:P[68]?=some (.slice a txs.length c ez)) (row:RowG (fun j => j < h0.next) 4 TxC h0 txs a ez) (i:Nat) (t:TxQ) (ht:txs[i]?=some t) (T:Tr V) (h:H) (I:GbI (.ptr (some (pb,0))) i h0 T h) :
    ∃ T' h',Kp h0 h'∧((gtOk t∧evC (callX E X (M+1)) 22 m none L_purserref07_Great_0 ⟨T,[],h⟩=some (.normal,⟨T',[],h'⟩)∧GbI (.ptr (some (pb,0))) (i+1) h0 T' h')∨(¬ gtOk t∧evC (callX E X (M+1)) 22 m none L_purserref07_Great_0 ⟨T,[],h⟩=some (.ret,⟨T',[],h'⟩)∧evO T' (.t 2)=.int .i64 1)):=by
  obtain ⟨t1,t3,kp⟩:=I
  have hi:=(List.getElem?_eq_some_iff.1 ht).1
  obtain ⟨q,off,vs,md,Q,rfl,rfl,hq,gq,tc,ld⟩:=row_at row i t ht
  have g:=gb
  have gb':h.get pb=some (.cells P .rw):=by rw [kp.2 _ lpb,gb]
  have gq':h.get q=some (.cells vs md):=by rw [kp.2 _ hq,gq]
  have sm':=sm t (List.mem_of_getElem? ht)
  obtain ⟨h1,r,c1,k1,hr⟩:=gr6_go e6 x6 M hM t sm'.1 sm'.2 Q h (tc.kp kp)
  have c0:decide ((i:Int) < (txs.length:Int))=true:=decide_eq_true (by omega)
  have wi:wr .i64 ((i:Int)+1)=((i+1:Nat):Int):=by rw [wr_i64 (by omega)]; omega
  have ix:idx (i:Int) txs.length=some i:=idxn hi
  have y1:decide ((0:Int) < 1)=true:=rfl
  have y0:decide ((0:Int) < 0)=false:=rfl
  generalize txs.length=n at *
  rcases hr with ⟨ok,rfl⟩ | ⟨no,rfl⟩
  · refine ⟨_,h1,kp.trans k1,.inl ⟨ok,by
      simp (config:={maxSteps:=2000000}) (disch:=first | omega | (simp only [List.length_cons,List.length_nil,List.length_append,List.length_drop]; omega)) only [L_purserref07_Great_0,t1,t3,gb',p68,c0,ix,gq',ld,c1,wi,↓s_len,x_lenS,↓x_fieldAddr,x_fieldV,Nat.zero_add,↓s_load,m_load,↓m_load1,m_load1,↓x_idxS,x_idxSE,x_addrE,x_lenS,↓s_len,Int.reduceLT,↓s_skip,↓s_ops,↓s_seq,↓s_cond,↓s_block,↓s_nil,↓s_op,↓s_bindS,s_bindS,↓s_bindE,s_bindE,s_norm,↓s_condV,s_condV,s_block_normal,↓s_getp,↓s_con,↓s_os0,↓s_os1,↓s_mov,↓s_bin,↓s_call,s_same,b_lss,b_gtr,b_add,↓iteN_true,↓iteN_false,iteN_true,iteN_false,Nat.zero_add,Nat.reduceEqDiff,decide_true,decide_false]
      exact rfl,⟨(by (simp only [s_getp,Nat.reduceEqDiff,decide_false,iteN_false,t1]; try rfl)),(by (simp only [s_getp,decide_true,iteN_true]; try rfl)),kp.trans k1⟩⟩⟩
  · refine ⟨_,h1,kp.trans k1,.inr ⟨no,by
      simp (config:={maxSteps:=2000000}) (disch:=first | omega | (simp only [List.length_cons,List.length_nil,List.length_append,List.length_drop]; omega)) only [L_purserref07_Great_0,t1,t3,gb',p68,c0,ix,gq',ld,c1,↓s_len,x_lenS,↓x_fieldAddr,x_fieldV,Nat.zero_add,↓s_load,m_load,↓m_load1,m_load1,↓x_idxS,x_idxSE,x_addrE,x_lenS,↓s_len,Int.reduceLT,↓s_skip,↓s_ops,↓s_seq,↓s_cond,↓s_block,↓s_ret,↓s_nil,↓s_op,↓s_bindS,s_bindS,↓s_bindE,s_bindE,s_bindE_ret,s_norm,↓s_condV,s_condV,s_block_ret,↓s_getp,↓s_con,↓s_os0,↓s_os1,↓s_mov,↓s_bin,↓s_call,s_same,b_lss,b_gtr,↓iteN_true,↓iteN_false,iteN_true,iteN_false,Nat.zero_add,Nat.reduceEqDiff,decide_true,decide_false]
      exact rfl,(by (simp only [s_getp,decide_true,iteN_true]; try rfl))⟩⟩
theorem first_bad {α:Type} (p:α→Prop) (dec:∀ a,p a∨¬ p a) (l:List α):(∀ o ∈ l,p o)∨∃ (j:Nat) (o:α),l[j]?=some o∧¬ p o∧∀ (i:Nat) (o':α),i < j→l[i]?=some o'→p o':=by
  induction l with
  | nil => exact .inl (fun o ho => by cases ho)
  | cons a r ih =>
    rcases dec a with ha | ha
    · rcases ih with ih | ⟨j,o,h1,h2,h3⟩
      · exact .inl (fun o ho => by rcases List.mem_cons.1 ho with rfl | ho; exact ha; exact ih o ho)
      · refine .inr ⟨j+1,o,by simpa using h1,h2,fun i o' hi ho => ?_⟩
        cases i with
        | zero => simp at ho; subst ho; exact ha
        | succ i => simp at ho; exact h3 i o' (by omega) ho
    · exact .inr ⟨0,a,rfl,ha,fun i o' hi => by omega⟩
theorem great7b_go (e7:E k_purserref07_Great=some f_purserref07_Great) (x7:∀ a h,X (.fn k_purserref07_Great) a h=none) (e6:E k_purserref06_Great=some f_purserref06_Great) (x6:∀ a h,X (.fn k_purserref06_Great) a h=none) (M:Nat) (hM:100 < M) (x:BkQ) (hok:x.hd.ok) (ln:x.txs.length < 9223372036854775807) (sm:∀ t ∈ x.txs,t.ins.length < 9223372036854775807∧t.outs.length < 9223372036854775807) (P:List V) (h:H) (bc:BkC (fun j => j < h.next) h x P) :
    ∃ (h':H) (r:Int),callX E X (M+2) (.fn k_purserref07_Great) [.agg P] h=some (.int .i64 r,h')∧Kp h h'∧((gbOk x∧r=0)∨(¬ gbOk x∧r=1)):=by
  rw [x_cfn e7 _ _ (Nat.le_of_ble_eq_true rfl) (x7 _ _)]
  have ca':∀ l:List V,(V.agg l).cells=l:=fun _ => rfl
  obtain ⟨hb,ehb⟩:∃ hb,h.new (.cells P .rw)=hb:=⟨_,rfl⟩
  have kb:Kp h hb:=by rw [← ehb]; exact Kp.new _ _
  have nb:hb.next=h.next+1:=by rw [← ehb]; rfl
  have g0:hb.get h.next=some (.cells P .rw):=by rw [← ehb]; exact h_new_same _ _
  obtain ⟨a,c,ez,eP,row⟩:=bc.kp kb
  have p68:P[68]?=some (.slice a x.txs.length c ez):=by rw [eP]; exact bkV_68 x hok a c ez
  by_cases h30:30 < x.txs.length
  · have d:decide ((30:Int) < (x.txs.length:Int))=true:=decide_eq_true (by omega)
    refine ⟨hb,1,?_,kb,.inr ⟨fun h => by have:=h.1; omega,rfl⟩⟩
    generalize x.txs.length=n at *
    simp (config:={maxSteps:=2000000}) (disch:=first | omega | (simp only [List.length_cons,List.length_nil,List.length_append,List.length_drop]; omega)) only [ca',ehb,g0,p68,d,↓s_box,↓s_len,x_lenS,↓x_fieldAddr,x_fieldV,Nat.zero_add,↓s_load,m_load,↓m_load1,m_load1,x_lenS,↓s_len,s_res0,↓s_ops,↓s_seq,↓s_cond,↓s_ret,↓s_nil,↓s_op,↓s_bindS,s_bindS,↓s_bindE,s_bindE,s_bindE_ret,s_norm,↓s_condV,s_condV,↓s_getp,↓s_get,↓s_con,↓s_list0,↓s_list1,↓s_mov,↓s_bin,s_same,b_gtr,s_end,s_res0,s_res1,s_tup1,↓iteN_true,↓iteN_false,iteN_true,iteN_false,Nat.zero_add,Nat.reduceEqDiff,decide_true,decide_false]
    try rfl
  have d:decide ((30:Int) < (x.txs.length:Int))=false:=decide_eq_false (by omega)
  have fin:∀ T,GbI (.ptr (some (h.next,0))) 0 hb T hb→∃ (h':H) (r:Int),fnEnd [.tmp 2] (bindE (blockE 0 (loopN (evC (callX E X (M+1)) 22 (M+1) none L_purserref07_Great_0) (M+1) ⟨T,[],hb⟩)) (evC (callX E X (M+1)) 22 (M+1) none R_purserref07_Great_0))=some (.int .i64 r,h')∧Kp h h'∧((gbOk x∧r=0)∨(¬ gbOk x∧r=1)):=by
    intro T I
    have rnd:=fun i T h' t ht I => gb_round e6 x6 M (M+1) hM x.txs (by omega) sm P h.next a c ez hb g0 (by omega) p68 row i t ht T h' I
    rcases first_bad gtOk (fun a => Classical.em _) x.txs with hall | ⟨j,t,j1,j2,j3⟩
    · obtain ⟨T',h',rr,kp⟩:=loop_go (f:=evC (callX E X (M+1)) 22 (M+1) none L_purserref07_Great_0) (fun i T h' => GbI (.ptr (some (h.next,0))) i hb T h') x.txs.length (.exit 0) (by intro h; cases h) (fun T h' => Kp hb h') (fun i T h' hi' I => by
        obtain ⟨T',h'',_,hr⟩:=rnd i T h' _ (List.getElem?_eq_getElem hi') I
        rcases hr with ⟨_,q1,q2⟩ | ⟨no,_⟩
        · exact ⟨T',h'',q1,q2⟩
        · exact absurd (hall _ (List.getElem_mem hi')) no) (fun T h' I => by
        obtain ⟨t1,t3,kp⟩:=I
        have gb':h'.get h.next=some (.cells P .rw):=by rw [kp.2 _ (by omega),g0]
        have c0:decide ((x.txs.length:Int) < (x.txs.length:Int))=false:=decide_eq_false (by omega)
        generalize x.txs.length=n at *
        exact ⟨_,h',by
          simp (config:={maxSteps:=2000000}) (disch:=first | omega | (simp only [List.length_cons,List.length_nil,List.length_append,List.length_drop]; omega)) only [L_purserref07_Great_0,t1,t3,gb',p68,c0,↓s_len,x_lenS,↓x_fieldAddr,x_fieldV,Nat.zero_add,↓s_load,m_load,↓m_load1,m_load1,x_lenS,↓s_len,↓s_ops,↓s_seq,↓s_cond,↓s_exit,↓s_nil,↓s_op,↓s_bindS,s_bindS,↓s_bindE,s_bindE,s_bindE_exit,s_norm,↓s_condV,s_condV,↓s_getp,↓s_mov,↓s_bin,s_same,b_lss,↓iteN_true,↓iteN_false,iteN_true,iteN_false,Nat.zero_add,Nat.reduceEqDiff,decide_true,decide_false]
          exact rfl,kp⟩) x.txs.length 0 (by omega) (M+1) (by omega) T hb I
      rw [rr]
      refine ⟨h',0,?_,kb.trans kp,.inl ⟨⟨by omega,hall⟩,rfl⟩⟩
      simp (config:={maxSteps:=2000000}) (disch:=first | omega | (simp only [List.length_cons,List.length_nil,List.length_append,List.length_drop]; omega)) only [R_purserref07_Great_0,s_res0,↓s_ops,↓s_seq,↓s_ret,↓s_nil,↓s_op,↓s_bindS,s_bindS,↓s_bindE,s_bindE,s_norm,s_block_exit,↓s_getp,↓s_con,↓s_mov,s_end,s_res0,s_res1,s_tup1,↓iteN_true,iteN_true,decide_true,if_true]
      try rfl
    · have hj:=(List.getElem?_eq_some_iff.1 j1).1
      obtain ⟨T',h',rr,t2,kp⟩:=loop_go (f:=evC (callX E X (M+1)) 22 (M+1) none L_purserref07_Great_0) (fun i T h' => GbI (.ptr (some (h.next,0))) i hb T h') j .ret (by intro h; cases h) (fun T h' => evO T (.t 2)=.int .i64 1∧Kp hb h') (fun i T h' hi' I => by
        obtain ⟨T',h'',_,hr⟩:=rnd i T h' _ (List.getElem?_eq_getElem (by omega)) I
        rcases hr with ⟨_,q1,q2⟩ | ⟨no,_⟩
        · exact ⟨T',h'',q1,q2⟩
        · exact absurd (j3 i _ hi' (List.getElem?_eq_getElem (by omega))) no) (fun T h' I => by
        obtain ⟨T',h'',kp,hr⟩:=rnd j T h' t j1 I
        rcases hr with ⟨ok,_⟩ | ⟨_,q1,q2⟩
        · exact absurd ok j2
        · exact ⟨T',h'',q1,q2,kp⟩) j 0 (by omega) (M+1) (by omega) T hb I
      rw [rr]
      refine ⟨h',1,?_,kb.trans kp,.inr ⟨fun k => j2 (k.2 t (List.mem_of_getElem? j1)),rfl⟩⟩
      simp (config:={maxSteps:=2000000}) (disch:=first | omega | (simp only [List.length_cons,List.length_nil,List.length_append,List.length_drop]; omega)) only [t2,s_res0,s_bindE_ret,s_block_ret,s_end,s_res0,s_res1,s_tup1]
      try rfl
  obtain ⟨R,eR⟩:∃ R,R_purserref07_Great_0=R:=⟨_,rfl⟩
  obtain ⟨Lo,eL⟩:∃ R,L_purserref07_Great_0=R:=⟨_,rfl⟩
  rw [eR,eL] at fin ⊢
  have fin':=fun T q1 q3 => fin T ⟨q1,q3,Kp.refl _⟩
  clear fin
  generalize x.txs.length=n at *
  simp (config:={maxSteps:=2000000}) (disch:=first | omega | (simp only [List.length_cons,List.length_nil,List.length_append,List.length_drop]; omega)) only [ca',ehb,g0,p68,d,↓s_box,↓s_len,x_lenS,↓x_fieldAddr,x_fieldV,Nat.zero_add,↓l_loop,↓l_succ,↓s_load,m_load,↓m_load1,m_load1,x_lenS,↓s_len,↓s_skip,↓s_ops,↓s_seq,↓s_cond,↓s_block,↓s_nil,↓s_op,↓s_bindS,s_bindS,↓s_bindE,s_bindE,s_norm,↓s_condV,s_condV,↓s_getp,↓s_get,↓s_con,↓s_list0,↓s_list1,↓s_mov,↓s_bin,s_same,b_gtr,↓iteN_true,↓iteN_false,iteN_true,iteN_false,Nat.zero_add,Nat.reduceEqDiff,decide_true,decide_false]
  exact fin' _ (by (simp only [s_getp,Nat.reduceEqDiff,decide_false,decide_true,iteN_false,iteN_true]; try rfl)) (by (simp only [s_getp,decide_true,iteN_true]; try rfl))
/-! Encode -/
structure EnBe (E:Nat→Option Fn):Prop where
  bh:EnBh E
  te:EnTe E
  tc:EnTc E
  be:E k_block_Encode=some f_block_Encode
structure NoBe (X:Orc):Prop where
  bh:NoBh X
  te:NoTe X
  tc:NoTc X
  be:∀ a h,X (.fn k_block_Encode) a h=none
structure BeI (v20:V) (n pn:Nat) (S:Nat→Prop) (a:Option (Nat × Nat)) (e:Nat) (w0:List Nat) (txs:List TxQ) (h0:H) (i:Nat) (T:Tr V) (h:H):Prop where
  il:i≤txs.length
  t4:evO T (.t 4)=.ptr (some (pn,0))
  t20:evO T (.t 20)=v20
  t21:evO T (.t 21)=.int .i64 (n:Int)
  t22:evO T (.t 22)=.int .i64 (i:Int)
  p:PenS S pn (w0++((txs.take i).map txB).flatten) h
  row:RowG S 4 TxC h txs a e
  nx:h0.next≤h.next
  fr:∀ j,S j→h.get j=h0.get j
theorem flatB_le (l:List TxQ) (ok:∀ t ∈ l,t.ok∧gtOk t):(l.map txB).flatten.length≤300000 * l.length:=by
  induction l with
  | nil => exact Nat.zero_le _
  | cons a r ih =>
    have h1:=txB_le a (ok a (List.mem_cons_self ..)).1 (ok a (List.mem_cons_self ..)).2
    have h2:=ih (fun o ho => ok o (List.mem_cons_of_mem _ ho))
    rw [List.map_cons,List.flatten_cons,List.length_append,List.length_cons,Nat.mul_succ]; omega
theorem flat_at (txs:List TxQ) (i:Nat) (t:TxQ) (ht:txs[i]?=some t):((txs.take i).map txB).flatten.length+(txB t).length≤(txs.map txB).flatten.length:=by
  have e:=List.take_append_drop (i+1) txs
  have es:((txs.take (i+1)).map txB).flatten=((txs.take i).map txB).flatten++txB t:=by
    rw [List.take_add_one,ht,List.map_append,List.flatten_append]; simp
  have e2:(txs.map txB).flatten=(((txs.take i).map txB).flatten++txB t)++((txs.drop (i+1)).map txB).flatten:=by
    rw [← es,← List.flatten_append,← List.map_append,e]
  rw [e2,List.length_append,List.length_append]; omega
theorem txB_pos (t:TxQ):0 < (txB t).length:=by
  unfold txB; simp only [List.length_append,leN_len]; omega
theorem Wb.srcQ {h:H} {w:List Nat} {a:Option (Nat × Nat)} {c:Option Nat} {e q:Nat} (s:Wb h w a c e) (S:Nat→Prop) (eq:a=some (q,0)):SrcS (fun j => S j∨j=q) h a e w:=by
  rcases s with ⟨h1,_⟩ | ⟨_,q',md,e1,_,e3,g,hm,hq⟩
  · exact .inl h1
  · rw [eq] at e1; cases e1
    exact .inr ⟨q,0,_,md,eq,e3,.inr rfl,hq,g,by rw [ofI_len]; omega,by rw [List.drop_zero]; exact List.take_of_length_le (by rw [ofI_len]; exact Nat.le_refl _)⟩
theorem be_step (e:EnBe E) (x:NoBe X) (M m:Nat) (hM:100 < M) (txs:List TxQ) (hl:txs.length≤50000) (hfl:(txs.map txB).flatten.length≤9900000) (ok:∀ t ∈ txs,t.ok∧gtOk t) (pn:Nat) (S:Nat→Prop) (a:Option (Nat × Nat)) (c:Option Nat) (ez:Nat) (w0:List Nat) (hw0:w0.length≤1000) (h0:H) (i:Nat) (t:TxQ) (ht:txs[i]?=some t) (T:Tr V) (h:H) (I:BeI (.slice a txs.length c ez) txs.length pn S a ez w0 txs h0 i T h) :
    ∃ T' h',((ckOk t∧evC (callX E X (M+7)) 38 m none L_block_Encode_0 ⟨T,[],h⟩=some (.normal,⟨T',[],h'⟩)∧BeI (.slice a txs.length c ez) txs.length pn S a ez w0 txs h0 (i+1) T' h')∨(¬ ckOk t∧evC (callX E X (M+7)) 38 m none L_block_Encode_0 ⟨T,[],h⟩=some (.ret,⟨T',[],h'⟩)∧evO T' (.t 2)=.slice none 0 (some 0) 0∧evO T' (.t 3)=.int .i64 70∧h0.next≤h'.next∧∀ j,S j→h'.get j=h0.get j)):=by
  obtain ⟨_,t4,t20,t21,t22,p,row,nx,fr⟩:=I
  have hi:=(List.getElem?_eq_some_iff.1 ht).1
  obtain ⟨q,off,vs,md,Q,rfl,rfl,hS,gq,tc,ld⟩:=row_at row i t ht
  have hq:=p.lt q hS
  have ok':=ok t (List.mem_of_getElem? ht)
  obtain ⟨h1,eh1⟩:∃ h1,(h.new (.cells Z4 .rw)).put h.next (.cells Q .rw)=h1:=⟨_,rfl⟩
  have k1:Kp h h1:=by rw [← eh1]; (repeat (first | exact Kp.refl _ | refine Kp.put ?_ _ (by first | omega | (simp only [h_next_put,h_next_new,h_next_del]; omega)) | refine Kp.del ?_ (by first | omega | (simp only [h_next_put,h_next_new,h_next_del]; omega)) | refine Kp.trans ?_ (Kp.new _ _)))
  have n1:h1.next=h.next+1:=by rw [← eh1]; rfl
  have g1:h1.get h.next=some (.cells Q .rw):=by rw [← eh1]; exact h_put_same _ _ _
  have gz:(h.new (.cells Z4 .rw)).get h.next=some (.cells Z4 .rw):=h_new_same _ _
  have fi:=tc.fit
  have st:=fun h i => fit_st fi h i
  have pu:=fun h i => fit_put fi h i Z4 rfl
  have ldQ:=fun m => fit_ld fi m
  have tc1:TxC (fun j => j < h1.next) h1 t Q:=itTx.mono tc k1.1 (fun j _ hj => k1.2 _ hj) (fun j _ hj => by show j < h1.next; omega)
  have c0:decide ((i:Int) < (txs.length:Int))=true:=decide_eq_true (by omega)
  have wi:wr .i64 ((i:Int)+1)=((i+1:Nat):Int):=by rw [wr_i64 (by omega)]; omega
  have ix:idx (i:Int) txs.length=some i:=idxn hi
  have i1:i+1≤txs.length:=hi
  have z0:decide ((0:Int)=0)=true:=rfl
  have z6:decide ((60:Int)=0)=false:=rfl
  rcases enc_go e.te x.te e.tc x.tc M hM t ok'.1 ok'.2 Q h1 tc1 with ⟨ck,h2,a2,c2,e2,r2,nw2⟩ | ⟨no,h2,r2,k2⟩
  · have k2:=nw2.kp
    have k12:=k1.trans k2
    have kn2:=k2.1
    have pB:=txB_pos t
    obtain ⟨q2,eq2⟩:∃ q2,a2=some (q2,0):=by
      rcases nw2.wb with ⟨hz,_⟩ | ⟨_,q2,_,hz,_⟩
      · rw [hz] at pB; exact absurd pB (Nat.lt_irrefl _)
      · exact ⟨q2,hz⟩
    have gq2:=nw2.ge q2 0 eq2
    have lq2:q2 < h2.next:=by
      rcases nw2.wb with ⟨hz,_⟩ | ⟨_,q3,_,hz,_,_,_,_,lt⟩
      · rw [hz] at pB; exact absurd pB (Nat.lt_irrefl _)
      · rw [eq2] at hz; cases hz; exact lt
    have p2:=p.also k12 q2 (by omega) lq2
    have src:SrcS (fun j => S j∨j=q2) h2 a2 e2 (txB t):=nw2.wb.srcQ S eq2
    have lw:(w0++((txs.take i).map txB).flatten).length+(txB t).length≤10000000:=by
      have h1:=flat_at txs i t ht
      rw [List.length_append]; omega
    obtain ⟨h3,r3,p3,n3,f3⟩:=PenS.raw1 e.bh.ep x.te.rw_ (M+6) (by omega) p2 (txB t) (by omega) a2 c2 e2 src
    replace r3:callX E X (M+7) (.fn k_octet_Pen_Raw) _ _=_:=r3
    have ff:∀ j,S j→h3.get j=h.get j:=fun j hj => by
      have:=p.lt j hj
      rw [f3 _ (.inl hj),k12.2 _ this]
    have row3:RowG S 4 TxC h3 txs (some (q,off)) 4:=row.mono2 itTx (by omega) (fun j hj _ => ff j hj) (fun _ h _ => h)
    have es:((txs.take (i+1)).map txB).flatten=((txs.take i).map txB).flatten++txB t:=by
      rw [List.take_add_one,ht,List.map_append,List.flatten_append]; simp
    obtain ⟨n,en⟩:∃ n,txs.length=n:=⟨_,rfl⟩
    rw [en] at t20 t21 c0 ix
    obtain ⟨T',r,u4,u20,u21,u22⟩:∃ T',evC (callX E X (M+7)) 38 m none L_block_Encode_0 ⟨T,[],h⟩=some (.normal,⟨T',[],h3⟩)∧evO T' (.t 4)=.ptr (some (pn,0))∧evO T' (.t 20)=.slice (some (q,off)) n c 4∧evO T' (.t 21)=.int .i64 (n:Int)∧evO T' (.t 22)=.int .i64 ((i+1:Nat):Int):=by
      unfold Z4 at *
      generalize (txB t).length=L at *
      exact ⟨_,by
        simp (config:={maxSteps:=2000000}) (disch:=first | omega | (simp only [List.length_cons,List.length_nil,List.length_append,List.length_drop]; omega)) only [L_block_Encode_0,t4,t20,t21,t22,c0,ix,gq,ld,st,pu,eh1,g1,ldQ,r2,r3,wi,Bool.not_true,Nat.zero_add,↓h_new_get,↓s_load,m_load,↓m_st,m_stE,w_zero,↓s_alloc,↓x_idxS,x_idxSE,x_addrE,↓x_buildS,x_buildE,↓x_P0,↓x_P1,x_fill0,x_fills,List.length_cons,List.length_nil,List.drop_succ_cons,List.drop_nil,↓s_skip,↓s_ops,↓s_seq,↓s_cond,↓s_block,↓s_nil,↓s_op,↓s_bindS,s_bindS,↓s_bindE,s_bindE,s_norm,↓s_condV,s_condV,s_block_normal,↓s_getp,↓s_getp0,↓s_con,↓s_os0,↓s_os1,↓s_mov,↓s_bin,↓s_call,↓s_ext,s_same,b_neq,b_lss,b_add,↓iteN_true,↓iteN_false,iteN_true,iteN_false,Nat.zero_add,List.append_nil,Nat.reduceEqDiff,decide_true,decide_false,Bool.not_true,List.getElem?_cons_zero,List.getElem?_cons_succ]
        exact rfl,(by (simp only [s_getp,s_getp0,Nat.reduceEqDiff,decide_false,iteN_false,t4]; try rfl)),(by (simp only [s_getp,s_getp0,Nat.reduceEqDiff,decide_false,iteN_false,t20]; try rfl)),(by (simp only [s_getp,s_getp0,Nat.reduceEqDiff,decide_false,iteN_false,t21]; try rfl)),(by (simp only [s_getp,decide_true,iteN_true]; try rfl))⟩
    refine ⟨T',h3,.inl ⟨ck,r,i1,u4,by rw [en]; exact u20,by rw [en]; exact u21,u22,?_,row3,by omega,fun j hj => by rw [ff j hj,fr j hj]⟩⟩
    rw [es,← List.append_assoc]
    exact p3.less (fun _ h => .inl h)
  · have k12:=k1.trans k2
    obtain ⟨n,en⟩:∃ n,txs.length=n:=⟨_,rfl⟩
    rw [en] at t20 t21 c0 ix
    obtain ⟨T',r,u2,u3⟩:∃ T',evC (callX E X (M+7)) 38 m none L_block_Encode_0 ⟨T,[],h⟩=some (.ret,⟨T',[],h2⟩)∧evO T' (.t 2)=.slice none 0 (some 0) 0∧evO T' (.t 3)=.int .i64 70:=by
      unfold Z4 at *
      exact ⟨_,by
        simp (config:={maxSteps:=2000000}) (disch:=first | omega | (simp only [List.length_cons,List.length_nil,List.length_append,List.length_drop]; omega)) only [L_block_Encode_0,t20,t21,t22,c0,ix,gq,ld,st,pu,eh1,g1,ldQ,r2,Bool.not_false,↓h_new_get,↓s_load,m_load,↓m_st,m_stE,↓s_alloc,↓x_idxS,x_idxSE,x_addrE,Int.reduceEq,↓s_skip,↓s_ops,↓s_seq,↓s_cond,↓s_block,↓s_ret,↓s_nil,↓s_op,↓s_bindS,s_bindS,↓s_bindE,s_bindE,s_bindE_ret,s_norm,↓s_condV,s_condV,s_block_ret,↓s_getp,↓s_getp0,↓s_con,↓s_os0,↓s_os1,↓s_mov,↓s_bin,↓s_call,↓s_ext,s_same,b_neq,b_lss,↓iteN_true,↓iteN_false,iteN_true,iteN_false,Nat.reduceEqDiff,decide_true,decide_false,Bool.not_false,List.getElem?_cons_zero,List.getElem?_cons_succ]
        exact rfl,(by (simp only [s_getp,Nat.reduceEqDiff,decide_false,decide_true,iteN_false,iteN_true]; try rfl)),(by (simp only [s_getp,decide_true,iteN_true]; try rfl))⟩
    have kn2:=k2.1
    exact ⟨T',h2,.inr ⟨no,r,u2,u3,by omega,fun j hj => by rw [k12.2 _ (p.lt j hj),fr j hj]⟩⟩
def ckB (x:BkQ):Prop:=∀ t ∈ x.txs,ckOk t
structure gbL (x:BkQ):Prop where
  n:x.txs.length≤50000
  fl:(x.txs.map txB).flatten.length≤9900000
  g:∀ t ∈ x.txs,gtOk t
theorem gbOk.toL {x:BkQ} (g:gbOk x) (ok:x.ok):gbL x:=by
  have h1:=flatB_le x.txs (fun t ht => ⟨ok.t t ht,g.2 t ht⟩)
  have:300000 * x.txs.length≤300000 * 30:=Nat.mul_le_mul_left _ g.1
  exact ⟨by have:=g.1; omega,by omega,g.2⟩
theorem benc_go (e:EnBe E) (x:NoBe X) (al:E k_octet_Pen_All=some f_octet_Pen_All) (M:Nat) (hM:60000 < M) (y:BkQ) (ok:y.ok) (g:gbL y) (P:List V) (h:H) (bc:BkC (fun j => j < h.next) h y P) :
    (ckB y∧∃ h' a2 c2 e2,callX E X (M+8) (.fn k_block_Encode) [.agg P] h=some (.tup [.slice a2 (bkB y).length c2 e2,.int .i64 0],h')∧Nw h h' (bkB y) a2 c2 e2) ∨
    (¬ ckB y∧∃ h',callX E X (M+8) (.fn k_block_Encode) [.agg P] h=some (.tup [.slice none 0 (some 0) 0,.int .i64 70],h')∧Kp h h'):=by
  rw [x_cfn e.be _ _ (Nat.le_of_ble_eq_true rfl) (x.be _ _)]
  have ca':∀ l:List V,(V.agg l).cells=l:=fun _ => rfl
  obtain ⟨hb,ehb⟩:∃ hb,h.new (.cells P .rw)=hb:=⟨_,rfl⟩
  have kb:Kp h hb:=by rw [← ehb]; exact Kp.new _ _
  have nb:hb.next=h.next+1:=by rw [← ehb]; rfl
  have g0:hb.get h.next=some (.cells P .rw):=by rw [← ehb]; exact h_new_same _ _
  obtain ⟨a,c,ez,eP,row⟩:=bc.kp kb
  have p68:P[68]?=some (.slice a y.txs.length c ez):=by rw [eP]; exact bkV_68 y ok.h a c ez
  have p0:∀ m,loadE (some (.cells P m)) (some 68) 0=some (.agg (hdV y.hd)):=fun m => by rw [eP]; exact bkV_ld y ok.h a c ez m
  obtain ⟨h1,eh1⟩:∃ h1,hb.new (.cells [.slice none 0 (some 0) 0] .rw)=h1:=⟨_,rfl⟩
  have k1:Kp hb h1:=by rw [← eh1]; exact Kp.new _ _
  have n1:h1.next=hb.next+1:=by rw [← eh1]; rfl
  have g1:h1.get h.next=some (.cells P .rw):=by rw [k1.2 _ (by omega),g0]
  have p1:PenS (fun j => j < hb.next) hb.next [] h1:=⟨⟨none,PenH.new h1 hb.next (by omega) (by rw [← eh1]; exact h_new_same _ _),fun q o e => by cases e⟩,fun h => Nat.lt_irrefl _ h,fun j hj => by have:j < hb.next:=hj; omega⟩
  obtain ⟨h2,a2,c2,e2,r2,nw2⟩:=enchead_go e.bh x.bh al M (by omega) y.hd ok.h h1
  have k2:=nw2.kp
  have kn2:=k2.1
  have lB:=hdB_len y.hd ok.h
  obtain ⟨q2,eq2⟩:∃ q2,a2=some (q2,0):=by
    rcases nw2.wb with ⟨hz,_⟩ | ⟨_,q2,_,hz,_⟩
    · rw [hz] at lB; cases lB
    · exact ⟨q2,hz⟩
  have gq2:=nw2.ge q2 0 eq2
  have lq2:q2 < h2.next:=by
    rcases nw2.wb with ⟨hz,_⟩ | ⟨_,q3,_,hz,_,_,_,_,lt⟩
    · rw [hz] at lB; cases lB
    · rw [eq2] at hz; cases hz; exact lt
  have p2:=p1.also k2 q2 (by omega) lq2
  have src:SrcS (fun j => j < hb.next∨j=q2) h2 a2 e2 (hdB y.hd):=nw2.wb.srcQ _ eq2
  obtain ⟨h3,r3,p3',n3,f3⟩:=PenS.raw1 e.bh.ep x.te.rw_ (M+6) (by omega) p2 (hdB y.hd) (by simp [lB]) a2 c2 e2 src
  rw [lB] at r3
  have p3:PenS (fun j => j < hb.next) hb.next (hdB y.hd) h3:=by
    have:=p3'.less (S':=fun j => j < hb.next) (fun _ h => .inl h)
    rw [List.nil_append] at this; exact this
  have g2:h2.get h.next=some (.cells P .rw):=by rw [k2.2 _ (by omega),g1]
  have g3:h3.get h.next=some (.cells P .rw):=by rw [f3 _ (.inl (by omega)),g2]
  obtain ⟨h4,r4,p4,n4,f4⟩:=PenS.size e.bh.ep.si x.te.si (M+2) (by omega) p3 y.txs.length (by have:=g.n; omega) (by omega)
  have g4:h4.get h.next=some (.cells P .rw):=by rw [f4 _ (by omega),g3]
  have fS:∀ j,j < hb.next→h4.get j=hb.get j:=fun j hj => by rw [f4 _ hj,f3 _ (.inl hj),k2.2 _ (by omega),k1.2 _ hj]
  have row4:RowG (fun j => j < hb.next) 4 TxC h4 y.txs a ez:=row.mono2 itTx (by omega) (fun j hj _ => fS j hj) (fun _ h _ => h)
  have z:=sizV_le y.txs.length
  have lw:(hdB y.hd++sizV y.txs.length).length≤1000:=by rw [List.length_append,lB]; omega
  have okT:∀ t ∈ y.txs,t.ok∧gtOk t:=fun t ht => ⟨ok.t t ht,g.g t ht⟩
  have un:wr .u64 (y.txs.length:Int)=(y.txs.length:Int):=u64n _ (by have:=g.n; omega)
  replace r2:callX E X (M+7) (.fn k_block_EncodeHeader) _ h1=_:=r2
  replace r3:callX E X (M+7) (.fn k_octet_Pen_Raw) _ _=_:=r3
  replace r4:callX E X (M+7) (.fn k_octet_Pen_Size) _ _=_:=r4
  obtain ⟨W,eW⟩:∃ W,hdB y.hd++sizV y.txs.length=W:=⟨_,rfl⟩
  rw [eW] at p4 lw
  have frame:∀ h9:H,hb.next≤h9.next→(∀ j,j < hb.next→h9.get j=h4.get j)→Kp h h9:=fun h9 hn hf => ⟨by omega,fun j hj => by rw [hf _ (by omega),fS _ (by omega),kb.2 _ hj]⟩
  have fin:∀ T,BeI (.slice a y.txs.length c ez) y.txs.length hb.next (fun j => j < hb.next) a ez W y.txs h4 0 T h4 →
      (ckB y∧∃ h' a2 c2 e2,fnEnd [.tmp 2,.tmp 3] (bindE (blockE 0 (loopN (evC (callX E X (M+7)) 38 (M+7) none L_block_Encode_0) (M+7) ⟨T,[],h4⟩)) (evC (callX E X (M+7)) 38 (M+7) none R_block_Encode_0))=some (.tup [.slice a2 (bkB y).length c2 e2,.int .i64 0],h')∧Nw h h' (bkB y) a2 c2 e2) ∨
      (¬ ckB y∧∃ h',fnEnd [.tmp 2,.tmp 3] (bindE (blockE 0 (loopN (evC (callX E X (M+7)) 38 (M+7) none L_block_Encode_0) (M+7) ⟨T,[],h4⟩)) (evC (callX E X (M+7)) 38 (M+7) none R_block_Encode_0))=some (.tup [.slice none 0 (some 0) 0,.int .i64 70],h')∧Kp h h'):=by
    intro T I
    have l30:=g.n
    have rnd:=fun i t ht T h' I => be_step e x M (M+7) (by omega) y.txs g.n g.fl okT hb.next (fun j => j < hb.next) a c ez W lw h4 i t ht T h' I
    rcases first_bad ckOk (fun a => Classical.em _) y.txs with hall | ⟨j,t,j1,j2,j3⟩
    · left
      refine ⟨hall,?_⟩
      obtain ⟨T',h5,rr,J⟩:=loop_go (f:=evC (callX E X (M+7)) 38 (M+7) none L_block_Encode_0) (BeI (.slice a y.txs.length c ez) y.txs.length hb.next (fun j => j < hb.next) a ez W y.txs h4) y.txs.length (.exit 0) (by intro h; cases h) (BeI (.slice a y.txs.length c ez) y.txs.length hb.next (fun j => j < hb.next) a ez W y.txs h4 y.txs.length) (fun i T h' hi' I => by
        obtain ⟨T',h'',hr⟩:=rnd i _ (List.getElem?_eq_getElem hi') T h' I
        rcases hr with ⟨_,q1,q2⟩ | ⟨no,_⟩
        · exact ⟨T',h'',q1,q2⟩
        · exact absurd (hall _ (List.getElem_mem hi')) no) (fun T h' I => by
        obtain ⟨il,t4,t20,t21,t22,p,row,nx,fr⟩:=I
        have c0:decide ((y.txs.length:Int) < (y.txs.length:Int))=false:=decide_eq_false (by omega)
        obtain ⟨n,en⟩:∃ n,y.txs.length=n:=⟨_,rfl⟩
        rw [en] at t20 t21 t22 c0
        exact ⟨_,h',by
          simp (config:={maxSteps:=2000000}) (disch:=first | omega | (simp only [List.length_cons,List.length_nil,List.length_append,List.length_drop]; omega)) only [L_block_Encode_0,t21,t22,c0,↓s_ops,↓s_seq,↓s_cond,↓s_exit,↓s_nil,↓s_op,↓s_bindS,s_bindS,↓s_bindE,s_bindE,s_bindE_exit,s_norm,↓s_condV,s_condV,↓s_getp,↓s_bin,s_same,b_lss,↓iteN_true,↓iteN_false,iteN_true,iteN_false,decide_true]
          exact rfl,⟨il,(by (simp only [s_getp,Nat.reduceEqDiff,decide_false,iteN_false,t4]; try rfl)),by rw [en]; exact (by (simp only [s_getp,Nat.reduceEqDiff,decide_false,iteN_false,t20]; try rfl)),by rw [en]; exact (by (simp only [s_getp,Nat.reduceEqDiff,decide_false,iteN_false,t21]; try rfl)),by rw [en]; exact (by (simp only [s_getp,Nat.reduceEqDiff,decide_false,iteN_false,t22]; try rfl)),p,row,nx,fr⟩⟩) y.txs.length 0 (by omega) (M+7) (by omega) T h4 I
      rw [rr]
      obtain ⟨_,t4,_,_,_,p5,_,nx5,f5⟩:=J
      rw [List.take_length] at p5
      have eB:W++(y.txs.map txB).flatten=bkB y:=by rw [← eW]; rfl
      have lB2:(bkB y).length≤20000000:=by
        rw [← eB,List.length_append]
        have:=g.fl
        omega
      rw [eB] at p5
      obtain ⟨⟨a5,pe5,_⟩,_,_⟩:=p5
      obtain ⟨a9,c9,e9,h9,r9,nw9⟩:=allv_go al x.te.al (M+6) hb.next (bkB y) (by omega) a5 h5 pe5
      have k9:=nw9.kp
      have kn9:=k9.1
      refine ⟨h9,a9,c9,e9,?_,⟨frame h9 (by omega) (fun j hj => by rw [k9.2 _ (by omega),f5 _ hj]),nw9.wb,fun q o e => by have:=nw9.ge q o e; omega⟩⟩
      replace r9:callX E X (M+7) (.fn k_octet_Pen_All) [.ptr (some (hb.next,0))] h5=_:=r9
      generalize (bkB y).length=L at *
      simp (config:={maxSteps:=2000000}) (disch:=first | omega | (simp only [List.length_cons,List.length_nil,List.length_append,List.length_drop]; omega)) only [R_block_Encode_0,t4,r9,s_res0,↓s_ops,↓s_seq,↓s_ret,↓s_nil,↓s_op,↓s_bindS,s_bindS,↓s_bindE,s_bindE,s_norm,s_block_exit,↓s_getp,↓s_con,↓s_os0,↓s_os1,↓s_mov,↓s_call,s_end,s_res0,s_res1,s_tup2,↓iteN_true,↓iteN_false,iteN_true,iteN_false,Nat.reduceEqDiff,decide_true,decide_false,if_true]
      try rfl
    · right
      refine ⟨fun h => j2 (h t (List.mem_of_getElem? j1)),?_⟩
      have hj:=(List.getElem?_eq_some_iff.1 j1).1
      obtain ⟨T',h5,rr,t2,t3,nx5,f5⟩:=loop_go (f:=evC (callX E X (M+7)) 38 (M+7) none L_block_Encode_0) (BeI (.slice a y.txs.length c ez) y.txs.length hb.next (fun j => j < hb.next) a ez W y.txs h4) j .ret (by intro h; cases h) (fun T h' => evO T (.t 2)=.slice none 0 (some 0) 0∧evO T (.t 3)=.int .i64 70∧h4.next≤h'.next∧∀ j,j < hb.next→h'.get j=h4.get j) (fun i T h' hi' I => by
        obtain ⟨T',h'',hr⟩:=rnd i _ (List.getElem?_eq_getElem (by omega)) T h' I
        rcases hr with ⟨_,q1,q2⟩ | ⟨no,_⟩
        · exact ⟨T',h'',q1,q2⟩
        · exact absurd (j3 i _ hi' (List.getElem?_eq_getElem (by omega))) no) (fun T h' I => by
        obtain ⟨T',h'',hr⟩:=rnd j t j1 T h' I
        rcases hr with ⟨ok,_⟩ | ⟨_,q1,q2,q3,q4,q5⟩
        · exact absurd ok j2
        · exact ⟨T',h'',q1,q2,q3,q4,q5⟩) j 0 (by omega) (M+7) (by omega) T h4 I
      rw [rr]
      refine ⟨h5,?_,frame h5 (by omega) f5⟩
      simp (config:={maxSteps:=2000000}) (disch:=first | omega | (simp only [List.length_cons,List.length_nil,List.length_append,List.length_drop]; omega)) only [t2,t3,s_res0,s_bindE_ret,s_block_ret,s_end,s_res0,s_res1,s_tup2]
      try rfl
  obtain ⟨R,eR⟩:∃ R,R_block_Encode_0=R:=⟨_,rfl⟩
  obtain ⟨Lo,eL⟩:∃ R,L_block_Encode_0=R:=⟨_,rfl⟩
  rw [eR,eL] at fin ⊢
  have fin':=fun T q4 q20 q21 q22 => fin T ⟨Nat.zero_le _,q4,q20,q21,q22,by simpa using p4,row4,Nat.le_refl _,fun _ _ => rfl⟩
  clear fin
  generalize hdV y.hd=D at *
  generalize (bkB y).length=LB at *
  obtain ⟨n,en⟩:∃ n,y.txs.length=n:=⟨_,rfl⟩
  rw [en] at p68 r4 un fin'
  simp (config:={maxSteps:=2000000}) (disch:=first | omega | (simp only [List.length_cons,List.length_nil,List.length_append,List.length_drop]; omega)) only [ca',ehb,g1,p0,eh1,r2,r3,g3,p68,un,r4,g4,↓s_box,↓s_len,x_lenS,↓x_conv,x_convV,↓x_conv,x_convV,↓x_fieldAddr,x_fieldV,Nat.zero_add,Nat.add_zero,↓l_loop,↓l_succ,↓s_load,m_load,↓m_load1,m_load1,w_zero,↓s_alloc,x_lenS,↓s_len,↓x_buildS,x_buildE,↓x_P0,↓x_P1,x_fill0,x_fills,List.length_cons,List.length_nil,List.drop_succ_cons,List.drop_nil,↓s_ops,↓s_seq,↓s_block,↓s_nil,↓s_op,↓s_bindS,s_bindS,↓s_bindE,s_bindE,s_norm,↓s_getp,↓s_get,↓s_con,↓s_os0,↓s_os1,↓s_list0,↓s_list1,↓s_mov,↓s_call,s_same,↓iteN_true,↓iteN_false,iteN_true,iteN_false,Nat.zero_add,List.append_nil,Nat.reduceEqDiff,decide_true,decide_false]
  exact fin' _ (by (simp only [s_getp,Nat.reduceEqDiff,decide_false,decide_true,iteN_false,iteN_true]; try rfl)) (by (simp only [s_getp,Nat.reduceEqDiff,decide_false,decide_true,iteN_false,iteN_true]; try rfl)) (by (simp only [s_getp,Nat.reduceEqDiff,decide_false,decide_true,iteN_false,iteN_true]; try rfl)) (by (simp only [s_getp,decide_true,iteN_true]; try rfl))
end Go.Eng
namespace Go.Eng
open Go
variable {E:Nat→Option Fn} {X:Orc}
set_option linter.unusedSimpArgs false
set_option linter.unusedVariables false
/-! Decode's walk over its transactions -/
theorem bkV_st (hd:HdQ) (hok:hd.ok) (dn dn':List TxQ) (a a':Option (Nat × Nat)) (c c':Option Nat) (e e':Nat) (h:H) (i:Nat):storeE (some (.cells (bkV ⟨hd,dn⟩ a c e) .rw)) h i 68 [.slice a' dn'.length c' e']=some (h.put i (.cells (bkV ⟨hd,dn'⟩ a' c' e') .rw)):=by
  have l:=bkV_len ⟨hd,dn⟩ hok a c e
  rw [m_storeE _ _ _ _ _ (by rw [l]; simp),writeN_eq _ _ _ (by rw [l]; omega),List.drop_eq_nil_of_le (by rw [l]; simp),List.append_nil]
  unfold bkV
  rw [List.take_left' (hdV_len hd hok)]
def posV (a0:Option (Nat × Nat)) (ll k:Nat):V:=.slice (upA a0 k) (ll - k) none 1
theorem upA_upA (a:Option (Nat × Nat)) (m n:Nat):upA (upA a m) n=upA a (m+n):=by
  cases a with
  | none => rfl
  | some x => obtain ⟨i,o⟩:=x; show some (i,o+m+n)=some (i,o+(m+n)); rw [Nat.add_assoc]
theorem posV_slc (a0:Option (Nat × Nat)) (ll k n:Nat) (h:k+n≤ll):slcV 1 (some (.int .i64 (n:Int))) none none (posV a0 ll k)=some (posV a0 ll (k+n)):=by
  unfold posV
  rw [slcS_lo _ _ _ _ _ _ (by omega) rfl,upA_upA,subC_none]
  congr 2
  omega
theorem posV_pl (a0:Option (Nat × Nat)) (ll k:Nat) (h:H) (i o:Nat):storeV h 1 (.ptr (some (i,o))) (posV a0 ll k)=storeE (h.get i) h i o [posV a0 ll k]:=m_storeS h i o _ _ _ _
/-- a transaction that is told to Decode -/
theorem dy_go (xy:∀ l a h,X (.yld l) a h=none) (M L p6 p7 p10 D lo:Nat) (T0:Tr V) (t6:evO T0 (.t 6)=.ptr (some (p6,0))) (t7:evO T0 (.t 7)=.ptr (some (p7,0))) (t10:evO T0 (.t 10)=.ptr (some (p10,0))) (h6:p6 < lo) (h7:p7 < lo) (h10:p10 < lo) (hL:L < lo) (z67:p6≠p7) (z610:p6≠p10) (z710:p7≠p10) (zL6:L≠p6) (zL7:L≠p7) (zL10:L≠p10)
    (hd:HdQ) (hok:hd.ok) (h:H) (hlo:lo≤h.next) (dn:List TxQ) (hdn:dn.length≤100000000) (a:Option (Nat × Nat)) (c:Option Nat) (ez:Nat) (many:Nat) (a0:Option (Nat × Nat)) (ll k:Nat)
    (g10:h.get p10=some (.cells (bkV ⟨hd,dn⟩ a c ez) .rw)) (g7:h.get p7=some (.cells [.int .u64 (many:Int)] .rw)) (g6:h.get p6=some (.cells [posV a0 ll k] .rw)) (gL:h.get L=some (.loop 0 none 75 T0 [45,46] A_block_Decode_0 B_block_Decode_0 D)) (row:RowF (fun j => lo≤j) lo 4 TxC h dn a c ez)
    (t:TxQ) (P:List V) (tc:TxC (fun j => lo≤j∧a≠some (j,0)) h t P) (n:Nat) (hn:k+n≤ll) :
    ∃ h',h.next≤h'.next∧h'.get p7=some (.cells [.int .u64 (many:Int)] .rw)∧(∀ i,i < lo→i≠p6→i≠p10→i≠L→h'.get i=h.get i) ∧
      ((dn.length=many∧callX E X (M+1) (.yld L) [.agg P,.int .i64 (n:Int)] h=some (.bool false,h')∧h'.get p10=some (.cells (bkV ⟨hd,dn⟩ a c ez) .rw)∧h'.get p6=some (.cells [posV a0 ll k] .rw)∧RowF (fun j => lo≤j) lo 4 TxC h' dn a c ez∧h'.get L=some (.loop 2 (some (.exit 0)) 75 T0 [45,46] A_block_Decode_0 B_block_Decode_0 D)) ∨
       (dn.length≠many∧∃ a' c' e',callX E X (M+1) (.yld L) [.agg P,.int .i64 (n:Int)] h=some (.bool true,h')∧h'.get p10=some (.cells (bkV ⟨hd,dn++[t]⟩ a' c' e') .rw)∧h'.get p6=some (.cells [posV a0 ll (k+n)] .rw)∧RowF (fun j => lo≤j) lo 4 TxC h' (dn++[t]) a' c' e'∧h'.get L=some (.loop 0 none 75 T0 [45,46] A_block_Decode_0 B_block_Decode_0 D))):=by
  have yx:callX E X (M+1) (.yld L) [.agg P,.int .i64 (n:Int)] h=cYld (callX E X M) M L [.agg P,.int .i64 (n:Int)] h:=x_yld (xy _ _ _)
  rw [yx]
  have fP:=tc.fit
  have st:=fun h i => fit_st fP h i
  have pu:=fun h i => fit_put fP h i Z4 rfl
  have ldP:=fun m => fit_ld fP m
  obtain ⟨hA,eA⟩:∃ hA,(h.new (.cells Z4 .rw)).put h.next (.cells P .rw)=hA:=⟨_,rfl⟩
  have gz:(h.new (.cells Z4 .rw)).get h.next=some (.cells Z4 .rw):=h_new_same _ _
  have nA:hA.next=h.next+1:=by rw [← eA]; rfl
  have kA:Kp h hA:=by rw [← eA]; (repeat (first | exact Kp.refl _ | refine Kp.put ?_ _ (by first | omega | (simp only [h_next_put,h_next_new,h_next_del]; omega)) | refine Kp.del ?_ (by first | omega | (simp only [h_next_put,h_next_new,h_next_del]; omega)) | refine Kp.trans ?_ (Kp.new _ _)))
  have gA:hA.get h.next=some (.cells P .rw):=by rw [← eA]; exact h_put_same _ _ _
  have gAL:hA.get L=some (.loop 0 none 75 T0 [45,46] A_block_Decode_0 B_block_Decode_0 D):=by rw [kA.2 _ (by omega),gL]
  obtain ⟨hB,eB⟩:∃ hB,hA.put L (.loop 1 none 75 T0 [45,46] A_block_Decode_0 B_block_Decode_0 D)=hB:=⟨_,rfl⟩
  have nB:hB.next=h.next+1:=by rw [← eB]; exact nA
  have fB:∀ i,i < h.next→i≠L→hB.get i=h.get i:=fun i hi hne => by rw [← eB,h_put_ne _ _ (Ne.symm hne),kA.2 _ hi]
  have gB:hB.get h.next=some (.cells P .rw):=by rw [← eB,h_put_ne _ _ (by omega),gA]
  have gBL:hB.get L=some (.loop 1 none 75 T0 [45,46] A_block_Decode_0 B_block_Decode_0 D):=by rw [← eB]; exact h_put_same _ _ _
  have gB10:hB.get p10=some (.cells (bkV ⟨hd,dn⟩ a c ez) .rw):=by rw [fB _ (by omega) (Ne.symm zL10),g10]
  have gB7:hB.get p7=some (.cells [.int .u64 (many:Int)] .rw):=by rw [fB _ (by omega) (Ne.symm zL7),g7]
  have gB6:hB.get p6=some (.cells [posV a0 ll k] .rw):=by rw [fB _ (by omega) (Ne.symm zL6),g6]
  have d68:=bkV_68 ⟨hd,dn⟩ hok a c ez
  have wl:wr .u64 (dn.length:Int)=(dn.length:Int):=u64n _ (by omega)
  have zA:(h.next=L)=False:=by simp; omega
  have rowB:RowF (fun j => lo≤j) lo 4 TxC hB dn a c ez:=row.mono itTx (by omega) (fun i hk hi => fB i hi (by have:lo≤i:=hk; omega)) (fun q o eq => by have:=row.lt eq; exact fB _ (by omega) (by omega))
  by_cases hm:dn.length=many
  · obtain ⟨hE,eE⟩:∃ hE,hB.put L (.loop 2 (some (.exit 0)) 75 T0 [45,46] A_block_Decode_0 B_block_Decode_0 D)=hE:=⟨_,rfl⟩
    have nE:hE.next=h.next+1:=by rw [← eE]; exact nB
    have fE:∀ i,i≠L→hE.get i=hB.get i:=fun i hi => by rw [← eE,h_put_ne _ _ (Ne.symm hi)]
    refine ⟨hE,by omega,by rw [fE _ (Ne.symm zL7),gB7],fun i hi _ _ nL => by rw [fE _ nL,fB _ (by omega) nL],.inl ⟨hm,?_,by rw [fE _ (Ne.symm zL10),gB10],by rw [fE _ (Ne.symm zL6),gB6],rowB.mono itTx (by omega) (fun i hk _ => fE i (by have:lo≤i:=hk; omega)) (fun q o eq => by have:=row.lt eq; exact fE _ (by omega)),by rw [← eE]; exact h_put_same _ _ _⟩⟩
    have c0:decide ((many:Int)=(many:Int))=true:=decide_eq_true rfl
    rw [hm] at d68 wl
    unfold Z4 at *
    generalize bkV ⟨hd,dn⟩ a c ez=DV at *
    simp (config:={maxSteps:=2000000}) (disch:=first | omega | (simp only [List.length_cons,List.length_nil,List.length_append,List.length_drop]; omega)) only [gL,t7,t10,st,pu,eA,gAL,eB,gB7,gB10,gBL,d68,wl,eE,y_cyld,y_ready,y_set2,y_mid,y_busy,y_end,y_done,y_je,Option.isNone_some,↓u_A_block_Decode_0,↓u_B_block_Decode_0,↓x_conv,x_convV,↓s_len,x_lenS,↓x_conv,x_convV,↓x_fieldAddr,x_fieldV,Nat.zero_add,↓h_new_get,↓s_load,m_load,↓m_load1,m_load1,↓m_st,m_stE,↓s_alloc,x_lenS,↓s_len,↓s_ops,↓s_seq,↓s_cond,↓s_block,↓s_exit,↓s_nil,↓s_op,↓s_bindS,s_bindS,↓s_bindE,s_bindE,s_bindE_exit,s_norm,↓s_condV,s_condV,s_block_exit,↓s_getp,↓s_getp0,↓s_get,↓s_mov,↓s_bin,s_same,b_eql,↓iteN_true,↓iteN_false,iteN_true,iteN_false,Nat.zero_add,Nat.reduceEqDiff,decide_true,decide_false,List.getElem?_cons_zero,if_false]
    try rfl
  · obtain ⟨hC,eC⟩:∃ hC,hB.new (.cells P .rw)=hC:=⟨_,rfl⟩
    have kC:Kp hB hC:=by rw [← eC]; exact Kp.new _ _
    have nC:hC.next=h.next+2:=by rw [← eC,h_next_new,nB]
    have rowC:RowF (fun j => lo≤j) lo 4 TxC hC dn a c ez:=rowB.mono itTx (by omega) (fun i hk hi => kC.2 _ hi) (fun q o eq => by have:=row.lt eq; exact kC.2 _ (by omega))
    have tcC:TxC (fun j => lo≤j∧a≠some (j,0)) hC t P:=itTx.mono tc (by omega) (fun j hj hj2 => by rw [kC.2 _ (by omega),fB _ hj2 (by have:=hj.1; omega)]) (fun j hj _ => hj)
    obtain ⟨hD,ap,rowD,nD,fD⟩:=rowF_app itTx (by omega) 64 (by omega) (fun j => lo≤j) lo hC (by omega) dn hdn a c ez rowC t P tcC
    have scC:=src_1 hB fP (by omega)
    rw [eC] at scC
    have na:∀ i,i < lo→a≠some (i,0):=fun i hi e => by have:=(row.lt e).1; omega
    have gD10:hD.get p10=some (.cells (bkV ⟨hd,dn⟩ a c ez) .rw):=by rw [fD _ (by omega) (na _ h10),kC.2 _ (by omega),gB10]
    have gD7:hD.get p7=some (.cells [.int .u64 (many:Int)] .rw):=by rw [fD _ (by omega) (na _ h7),kC.2 _ (by omega),gB7]
    have gD6:hD.get p6=some (.cells [posV a0 ll k] .rw):=by rw [fD _ (by omega) (na _ h6),kC.2 _ (by omega),gB6]
    have gDL:hD.get L=some (.loop 1 none 75 T0 [45,46] A_block_Decode_0 B_block_Decode_0 D):=by rw [fD _ (by omega) (na _ hL),kC.2 _ (by omega),gBL]
    have gC10:hC.get p10=some (.cells (bkV ⟨hd,dn⟩ a c ez) .rw):=by rw [kC.2 _ (by omega),gB10]
    have s68:=fun h i => bkV_st hd hok dn (dn++[t]) a (some (hC.next,0)) c none ez 4 h i
    rw [show (dn++[t]).length=dn.length+1 by simp] at s68
    have ff:=fit_fill fP Z4 rfl
    have sl:=posV_slc a0 ll k n hn
    have stp:=posV_pl a0 ll (k+n)
    obtain ⟨D',eD'⟩:∃ D',bkV ⟨hd,dn++[t]⟩ (some (hC.next,0)) none 4=D':=⟨_,rfl⟩
    rw [eD'] at s68
    obtain ⟨hF,eF⟩:∃ hF,hD.put p10 (.cells D' .rw)=hF:=⟨_,rfl⟩
    have gF6:hF.get p6=some (.cells [posV a0 ll k] .rw):=by rw [← eF,h_put_ne _ _ (Ne.symm z610),gD6]
    obtain ⟨hG,eG⟩:∃ hG,hF.put p6 (.cells [posV a0 ll (k+n)] .rw)=hG:=⟨_,rfl⟩
    have gGL:hG.get L=some (.loop 1 none 75 T0 [45,46] A_block_Decode_0 B_block_Decode_0 D):=by rw [← eG,h_put_ne _ _ (Ne.symm zL6),← eF,h_put_ne _ _ (Ne.symm zL10),gDL]
    obtain ⟨hE,eE⟩:∃ hE,hG.put L (.loop 0 none 75 T0 [45,46] A_block_Decode_0 B_block_Decode_0 D)=hE:=⟨_,rfl⟩
    have nE:hE.next=hD.next:=by rw [← eE,← eG,← eF]; rfl
    have fE:∀ i,i≠L→i≠p6→i≠p10→hE.get i=hD.get i:=fun i i1 i2 i3 => by rw [← eE,h_put_ne _ _ (Ne.symm i1),← eG,h_put_ne _ _ (Ne.symm i2),← eF,h_put_ne _ _ (Ne.symm i3)]
    refine ⟨hE,by omega,by rw [fE _ (Ne.symm zL7) (Ne.symm z67) z710,gD7],fun i hi i6 i10 iL => by rw [fE _ iL i6 i10,fD _ (by omega) (na _ hi),kC.2 _ (by omega),fB _ (by omega) iL],.inr ⟨hm,some (hC.next,0),none,4,?_,?_,?_,?_,by rw [← eE]; exact h_put_same _ _ _⟩⟩
    · have c0:decide ((dn.length:Int)=(many:Int))=false:=decide_eq_false (by omega)
      unfold Z4 at *
      generalize bkV ⟨hd,dn⟩ a c ez=DV at *
      generalize dn.length=dl at *
      generalize posV a0 ll (k+n)=PV2 at *
      generalize posV a0 ll k=PV1 at *
      simp (config:={maxSteps:=2000000}) (disch:=first | omega | (simp only [List.length_cons,List.length_nil,List.length_append,List.length_drop]; omega)) only [gL,t6,t7,t10,st,pu,ldP,eA,gAL,eB,gB,gB7,gB10,d68,wl,c0,ff,eC,scC,ap,gD10,m_storeS,s68,eF,gF6,sl,stp,eG,gGL,eE,y_cyld,y_ready,y_set2,y_mid,y_busy,y_end,y_done,y_jn,Option.isNone_none,↓u_A_block_Decode_0,↓u_B_block_Decode_0,↓s_append,↓x_slcS,x_M0,x_M1,↓x_conv,x_convV,↓s_len,x_lenS,↓x_conv,x_convV,↓x_fieldAddr,x_fieldV,Nat.zero_add,↓h_new_get,↓s_load,m_load,↓m_load1,m_load1,↓m_st,m_stE,m_storeE,w_zero,↓s_alloc,x_lenS,↓s_len,↓x_buildS,x_buildE,↓x_P0,↓x_P1,List.length_cons,List.length_nil,List.drop_succ_cons,List.drop_nil,↓s_skip,↓s_ops,↓s_seq,↓s_cond,↓s_block,↓s_nil,↓s_op,↓s_bindS,s_bindS,↓s_bindE,s_bindE,s_norm,↓s_condV,s_condV,s_block_normal,↓s_getp,↓s_getp0,↓s_get,↓s_mov,↓s_bin,s_same,b_eql,↓iteN_true,↓iteN_false,iteN_true,iteN_false,Nat.zero_add,List.append_nil,Nat.reduceEqDiff,decide_true,decide_false,List.getElem?_cons_zero]
      try rfl
    · rw [eD',← eE,h_put_ne _ _ zL10,← eG,h_put_ne _ _ z610,← eF]; exact h_put_same _ _ _
    · rw [← eE,h_put_ne _ _ zL6,← eG]; exact h_put_same _ _ _
    · exact rowD.mono itTx (by omega) (fun i hk _ => fE i (by have:lo≤i:=hk; omega) (by have:lo≤i:=hk; omega) (by have:lo≤i:=hk; omega)) (fun q o eq => by have:=rowD.lt eq; exact fE _ (by omega) (by omega) (by omega))
end Go.Eng
namespace Go.Eng
open Go
variable {E:Nat→Option Fn} {X:Orc}
set_option linter.unusedSimpArgs false
set_option linter.unusedVariables false
/-- what Decode's walk leaves: transactions,and a place; none: it goes on longer -/
def wkV (l:List Nat) (many:Nat):Nat→List TxQ→Nat→Option (List TxQ × Nat)
  | 0,_,_ => none
  | f+1,dn,k => match (rxT (l.drop k)).2.2 with
    | true => some (dn,k)
    | false => if dn.length=many then some (dn,k) else wkV l many f (dn++[(rxT (l.drop k)).1]) (k+(rxT (l.drop k)).2.1)
structure BdI (hB:H) (L p6 p7 p10 pa lo D:Nat) (T0:Tr V) (hd:HdQ) (many:Nat) (a0:Option (Nat × Nat)) (ll:Nat) (dn:List TxQ) (k:Nat) (h:H):Prop where
  st:∃ a c e,h.get p10=some (.cells (bkV ⟨hd,dn⟩ a c e) .rw)∧RowF (fun j => lo≤j) lo 4 TxC h dn a c e
  g6:h.get p6=some (.cells [posV a0 ll k] .rw)
  g7:h.get p7=some (.cells [.int .u64 (many:Int)] .rw)
  ga:h.get pa=some (.cells [posV a0 ll k] .rw)
  gL:h.get L=some (.loop 0 none 75 T0 [45,46] A_block_Decode_0 B_block_Decode_0 D)
  nx:lo≤h.next
  fr:∀ i,i < lo→i≠p6→i≠p10→i≠pa→i≠L→h.get i=hB.get i
structure BdE (hB:H) (L p6 p7 p10 pa lo D:Nat) (T0:Tr V) (hd:HdQ) (many:Nat) (a0:Option (Nat × Nat)) (ll:Nat) (dn:List TxQ) (k:Nat) (h:H):Prop where
  st:∃ a c e,h.get p10=some (.cells (bkV ⟨hd,dn⟩ a c e) .rw)∧RowF (fun j => lo≤j) lo 4 TxC h dn a c e
  g6:h.get p6=some (.cells [posV a0 ll k] .rw)
  g7:h.get p7=some (.cells [.int .u64 (many:Int)] .rw)
  gL:h.get L=some (.loop 0 none 75 T0 [45,46] A_block_Decode_0 B_block_Decode_0 D)∨h.get L=some (.loop 2 (some (.exit 0)) 75 T0 [45,46] A_block_Decode_0 B_block_Decode_0 D)
  nx:lo≤h.next
  fr:∀ i,i < lo→i≠p6→i≠p10→i≠pa→i≠L→h.get i=hB.get i
theorem bd_walk (e:EnRr E) (x:NoRr X) (xy:∀ l a h,X (.yld l) a h=none) (K:Nat) (hK:100 < K) (hB:H) (L p6 p7 p10 pa lo D:Nat) (T0:Tr V) (t6:evO T0 (.t 6)=.ptr (some (p6,0))) (t7:evO T0 (.t 7)=.ptr (some (p7,0))) (t10:evO T0 (.t 10)=.ptr (some (p10,0))) (h6:p6 < lo) (h7:p7 < lo) (h10:p10 < lo) (hL:L < lo) (ha:pa < lo) (z67:p6≠p7) (z610:p6≠p10) (z710:p7≠p10) (zL6:L≠p6) (zL7:L≠p7) (zL10:L≠p10) (za6:pa≠p6) (za7:pa≠p7) (za10:pa≠p10) (zaL:pa≠L)
    (hd:HdQ) (hok:hd.ok) (many:Nat) (s:List Nat) (bs:byt s=true) (hs:s.length≤100000000) (a0:Option (Nat × Nat)) (src:∀ h:H,lo≤h.next→(∀ i,i < lo→i≠p6→i≠p10→i≠pa→i≠L→h.get i=hB.get i)→SrcH h a0 1 s) :
    ∀ (f g:Nat) (dn:List TxQ) (k:Nat) (dn':List TxQ) (k':Nat) (T:Tr V) (h:H),wkV s many f dn k=some (dn',k')→f < g→k≤s.length→dn.length≤k→evO T (.t 0)=.yld L→evO T (.t 1)=.ptr (some (pa,0))→BdI hB L p6 p7 p10 pa lo D T0 hd many a0 s.length dn k h →
    ∃ T' h',loopN (evC (callX E X (K+22)) 24 (K+22) none L_block_txs_1_0) g ⟨T,[],h⟩=some (.ret,⟨T',[],h'⟩)∧BdE hB L p6 p7 p10 pa lo D T0 hd many a0 s.length dn' k' h'∧dn'.length≤k'∧k'≤s.length:=by
  intro f
  induction f with
  | zero => intro g dn k dn' k' T h hw; cases hw
  | succ f ih =>
    intro g dn k dn' k' T h hw hg hk hdn t0 t1 I
    obtain ⟨g,rfl⟩:∃ n,g=n+1:=⟨g - 1,by omega⟩
    obtain ⟨⟨a,c,ez,g10,row⟩,g6,g7,ga,gL,nx,fr⟩:=I
    have sr:=(src h nx fr).drop k
    obtain ⟨h1,P,r1,k1,tc,le,fP⟩:=txfirst_go e x K hK (s.drop k) (byt_drop bs k) (by rw [List.length_drop]; omega) (upA a0 k) none 1 (fun _ => ⟨rfl,rfl⟩) h sr
    rw [List.length_drop] at r1 le
    replace r1:callX E X (K+22) (.fn k_tx_First) [posV a0 s.length k] h=some (rdRes (s.drop k) P,h1):=r1
    have kn1:=k1.1
    have stZ:=fun h i => fit_st fitZ4 h i
    have puZ:=fun h i => fit_put fitZ4 h i Z4 rfl
    have st:=fun h i => fit_st fP h i
    have pu:=fun h i => fit_put fP h i Z4 rfl
    have ldP:=fun m => fit_ld fP m
    have gz:(h1.new (.cells Z4 .rw)).get h1.next=some (.cells Z4 .rw):=h_new_same _ _
    unfold wkV at hw
    cases hf:(rxT (s.drop k)).2.2 with
    | true =>
      rw [hf] at hw
      cases hw
      rw [rdRes_f _ _ hf] at r1
      obtain ⟨h2,eh2⟩:∃ h2,(h1.new (.cells Z4 .rw)).put h1.next (.cells Z4 .rw)=h2:=⟨_,rfl⟩
      have k2:Kp h h2:=k1.trans (by rw [← eh2]; (repeat (first | exact Kp.refl _ | refine Kp.put ?_ _ (by first | omega | (simp only [h_next_put,h_next_new,h_next_del]; omega)) | refine Kp.del ?_ (by first | omega | (simp only [h_next_put,h_next_new,h_next_del]; omega)) | refine Kp.trans ?_ (Kp.new _ _))))
      have kn2:=k2.1
      have z6:decide ((60:Int)=0)=false:=rfl
      obtain ⟨T',eT⟩:∃ T',evC (callX E X (K+22)) 24 (K+22) none L_block_txs_1_0 ⟨T,[],h⟩=some (.ret,⟨T',[],h2⟩):=by
        unfold Z4 at *
        exact ⟨_,by
          simp (config:={maxSteps:=2000000}) (disch:=first | omega | (simp only [List.length_cons,List.length_nil,List.length_append,List.length_drop]; omega)) only [L_block_txs_1_0,t1,ga,r1,stZ,puZ,eh2,Bool.not_false,↓h_new_get,↓s_load,m_load,↓m_load1,m_load1,↓m_st,m_stE,↓s_alloc,Int.reduceEq,↓s_ops,↓s_seq,↓s_cond,↓s_block,↓s_ret,↓s_nil,↓s_op,↓s_opg,↓s_wanted',↓s_wantV,s_wantV,beq_false,↓s_bindS,s_bindS,↓s_bindE,s_bindE,s_bindE_ret,s_norm,↓s_condV,s_condV,s_block_ret,↓s_getp,↓s_getp0,↓s_con,↓s_os0,↓s_os1,↓s_mov,↓s_pick,↓s_pickE,s_pickE,↓s_bin,↓s_call,↓s_ext,s_same,b_neq,↓iteN_true,↓iteN_false,iteN_true,iteN_false,Nat.reduceEqDiff,decide_true,decide_false,Bool.not_true,Bool.not_false,List.getElem?_cons_zero,List.getElem?_cons_succ]
          exact rfl⟩
      refine ⟨T',h2,by rw [l_succ,eT]; rfl,⟨⟨a,c,ez,by rw [k2.2 _ (by omega),g10],row.mono itTx (by omega) (fun i _ hi => k2.2 _ hi) (fun q o eq => by have:=row.lt eq; exact k2.2 _ (by omega))⟩,by rw [k2.2 _ (by omega),g6],by rw [k2.2 _ (by omega),g7],.inl (by rw [k2.2 _ (by omega),gL]),by omega,fun i i1 i2 i3 i4 i5 => by rw [k2.2 _ (by omega),fr i i1 i2 i3 i4 i5]⟩,hdn,hk⟩
    | false =>
      rw [hf] at hw
      simp only at hw
      rw [rdRes_t _ _ hf] at r1
      obtain ⟨h2,eh2⟩:∃ h2,(h1.new (.cells Z4 .rw)).put h1.next (.cells P .rw)=h2:=⟨_,rfl⟩
      have k12:Kp h1 h2:=by rw [← eh2]; (repeat (first | exact Kp.refl _ | refine Kp.put ?_ _ (by first | omega | (simp only [h_next_put,h_next_new,h_next_del]; omega)) | refine Kp.del ?_ (by first | omega | (simp only [h_next_put,h_next_new,h_next_del]; omega)) | refine Kp.trans ?_ (Kp.new _ _)))
      have k2:Kp h h2:=k1.trans k12
      have kn2:=k2.1
      have kn12:=k12.1
      have g2:h2.get h1.next=some (.cells P .rw):=by rw [← eh2]; exact h_put_same _ _ _
      have z0:decide ((0:Int)=0)=true:=rfl
      obtain ⟨n,en⟩:∃ n,(rxT (s.drop k)).2.1=n:=⟨_,rfl⟩
      have n1:1≤n:=by
        have w2:=(t_at _ (byt_drop bs k) hf).2.1
        have:=congrArg Prod.fst w2
        have p:=txB_pos (rxT (s.drop k)).1
        simp only at this
        rw [en] at this
        omega
      rw [en] at r1 le hw
      have tc2:TxC (fun j => lo≤j∧a≠some (j,0)) h2 (rxT (s.drop k)).1 P:=itTx.mono tc kn12 (fun j _ hj => k12.2 _ hj) (fun j hj _ => ⟨by have:h.next≤j:=hj; omega,fun eq => by have:=row.lt eq; have:h.next≤j:=hj; omega⟩)
      have row2:=row.mono itTx (h':=h2) (by omega) (fun i _ hi => k2.2 _ hi) (fun q o eq => by have:=row.lt eq; exact k2.2 _ (by omega))
      obtain ⟨h3,n3,y7,yfr,hy⟩:=dy_go (E:=E) xy (K+21) L p6 p7 p10 D lo T0 t6 t7 t10 h6 h7 h10 hL z67 z610 z710 zL6 zL7 zL10 hd hok h2 (by omega) dn (by omega) a c ez many a0 s.length k (by rw [k2.2 _ (by omega),g10]) (by rw [k2.2 _ (by omega),g7]) (by rw [k2.2 _ (by omega),g6]) (by rw [k2.2 _ (by omega),gL]) row2 (rxT (s.drop k)).1 P tc2 n (by omega)
      have fr3:∀ i,i < lo→i≠p6→i≠p10→i≠L→h3.get i=h.get i:=fun i i1 i2 i3 i4 => by rw [yfr i i1 i2 i3 i4,k2.2 _ (by omega)]
      rcases hy with ⟨hm,yr,y10,y6,yrow,yL⟩ | ⟨hm,a',c',e',yr,y10,y6,yrow,yL⟩
      · rw [if_pos hm] at hw
        cases hw
        obtain ⟨T',eT⟩:∃ T',evC (callX E X (K+22)) 24 (K+22) none L_block_txs_1_0 ⟨T,[],h⟩=some (.ret,⟨T',[],h3⟩):=by
          unfold Z4 at *
          generalize posV a0 s.length k=PV at *
          exact ⟨_,by
            simp (config:={maxSteps:=2000000}) (disch:=first | omega | (simp only [List.length_cons,List.length_nil,List.length_append,List.length_drop]; omega)) only [L_block_txs_1_0,t0,t1,ga,r1,st,pu,eh2,g2,ldP,yr,s_callVy,Bool.not_true,Bool.not_false,↓h_new_get,↓s_load,m_load,↓m_load1,m_load1,↓m_st,m_stE,↓s_alloc,↓s_ops,↓s_seq,↓s_cond,↓s_block,↓s_ret,↓s_nil,↓s_op,↓s_opg,↓s_wanted',↓s_wantV,s_wantV,↓s_bindS,s_bindS,↓s_bindE,s_bindE,s_bindE_ret,s_norm,↓s_condV,s_condV,s_block_ret,↓s_getp,↓s_getp0,↓s_con,↓s_os0,↓s_os1,↓s_mov,↓s_pick,↓s_pickE,s_pickE,↓s_bin,↓s_un,↓s_call,↓s_callv,↓s_ext,s_same,b_neq,u_not,↓iteN_true,↓iteN_false,iteN_true,iteN_false,Nat.reduceEqDiff,decide_true,decide_false,Bool.not_true,Bool.not_false,List.getElem?_cons_zero,List.getElem?_cons_succ,beq_self_eq_true]
            exact rfl⟩
        exact ⟨T',h3,by rw [l_succ,eT]; rfl,⟨⟨a,c,ez,y10,yrow⟩,y6,y7,.inr yL,by omega,fun i i1 i2 i3 i4 i5 => by rw [fr3 i i1 i2 i3 i5,fr i i1 i2 i3 i4 i5]⟩,hdn,hk⟩
      · rw [if_neg hm] at hw
        have ga3:h3.get pa=some (.cells [posV a0 s.length k] .rw):=by rw [fr3 _ ha za6 za10 zaL,ga]
        have sl:=posV_slc a0 s.length k n (by omega)
        have stp:=posV_pl a0 s.length (k+n)
        obtain ⟨h4,eh4⟩:∃ h4,h3.put pa (.cells [posV a0 s.length (k+n)] .rw)=h4:=⟨_,rfl⟩
        have n4:h4.next=h3.next:=by rw [← eh4]; rfl
        have f4:∀ i,i≠pa→h4.get i=h3.get i:=fun i hi => by rw [← eh4,h_put_ne _ _ (Ne.symm hi)]
        obtain ⟨T1,eT,u0,u1⟩:∃ T',evC (callX E X (K+22)) 24 (K+22) none L_block_txs_1_0 ⟨T,[],h⟩=some (.normal,⟨T',[],h4⟩)∧evO T' (.t 0)=.yld L∧evO T' (.t 1)=.ptr (some (pa,0)):=by
          unfold Z4 at *
          generalize posV a0 s.length (k+n)=PV2 at *
          generalize posV a0 s.length k=PV at *
          exact ⟨_,by
            simp (config:={maxSteps:=2000000}) (disch:=first | omega | (simp only [List.length_cons,List.length_nil,List.length_append,List.length_drop]; omega)) only [L_block_txs_1_0,t0,t1,ga,r1,st,pu,eh2,g2,ldP,yr,s_callVy,ga3,sl,stp,eh4,↓x_slcS,x_M0,x_M1,Bool.not_true,Nat.zero_add,↓h_new_get,↓s_load,m_load,↓m_load1,m_load1,↓m_st,m_stE,m_storeE,w_zero,↓s_alloc,List.length_cons,List.length_nil,List.drop_succ_cons,List.drop_nil,↓s_skip,↓s_ops,↓s_seq,↓s_cond,↓s_block,↓s_nil,↓s_op,↓s_opg,↓s_wanted',↓s_wantV,s_wantV,↓s_bindS,s_bindS,↓s_bindE,s_bindE,s_norm,↓s_condV,s_condV,s_block_normal,↓s_getp,↓s_getp0,↓s_con,↓s_os0,↓s_os1,↓s_mov,↓s_pick,↓s_pickE,s_pickE,↓s_bin,↓s_un,↓s_call,↓s_callv,↓s_ext,s_same,b_neq,u_not,↓iteN_true,↓iteN_false,iteN_true,iteN_false,Nat.zero_add,List.append_nil,Nat.reduceEqDiff,decide_true,decide_false,Bool.not_true,List.getElem?_cons_zero,List.getElem?_cons_succ,beq_self_eq_true]
            exact rfl,(by (simp only [s_getp,s_getp0,Nat.reduceEqDiff,decide_false,iteN_false,t0]; try rfl)),(by (simp only [s_getp,s_getp0,Nat.reduceEqDiff,decide_false,iteN_false,t1]; try rfl))⟩
        have I4:BdI hB L p6 p7 p10 pa lo D T0 hd many a0 s.length (dn++[(rxT (s.drop k)).1]) (k+n) h4:=⟨⟨a',c',e',by rw [f4 _ (Ne.symm za10),y10],yrow.mono itTx (by omega) (fun i hk _ => f4 i (by have:lo≤i:=hk; omega)) (fun q o eq => by have:=yrow.lt eq; exact f4 _ (by omega))⟩,by rw [f4 _ (Ne.symm za6),y6],by rw [f4 _ (Ne.symm za7),y7],by rw [← eh4]; exact h_put_same _ _ _,by rw [f4 _ (Ne.symm zaL),yL],by omega,fun i i1 i2 i3 i4 i5 => by rw [f4 i i4,fr3 i i1 i2 i3 i5,fr i i1 i2 i3 i4 i5]⟩
        obtain ⟨T',h',r,q2,q3⟩:=ih g (dn++[(rxT (s.drop k)).1]) (k+n) dn' k' T1 h4 hw (by omega) (by omega) (by rw [List.length_append]; simp; omega) u0 u1 I4
        exact ⟨T',h',by rw [l_succ,eT,l_normal]; exact r,q2,q3⟩
structure EnBd (E:Nat→Option Fn):Prop where
  rr:EnRr E
  br:EnBr E
  tx:E k_block_txs=some f_block_txs
  t1:E k_block_txs_1=some f_block_txs_1
  sz:E k_block_size=some f_block_size
  cp:E k_octet_Compact=some f_octet_Compact
  bd:E k_block_Decode=some f_block_Decode
structure NoBd (X:Orc):Prop where
  y:∀ l a h,X (.yld l) a h=none
  rr:NoRr X
  br:NoBr X
  tx:∀ a h,X (.fn k_block_txs) a h=none
  t1:∀ a h,X (.fn k_block_txs_1) a h=none
  sz:∀ a h,X (.fn k_block_size) a h=none
  cp:∀ a h,X (.fn k_octet_Compact) a h=none
  bd:∀ a h,X (.fn k_block_Decode) a h=none
theorem txs_go (e:EnBd E) (x:NoBd X) (N:Nat) (v:V) (hv:v.cells=[v]) (h:H):callX E X (N+1) (.fn k_block_txs) [v] h=some (.fn k_block_txs_1 [] [.ptr (some (h.next,0))],h.new (.cells [v] .rw)):=by
  rw [x_cfn e.tx _ _ (Nat.le_of_ble_eq_true rfl) (x.tx _ _)]
  simp (config:={maxSteps:=2000000}) (disch:=first | omega | (simp only [List.length_cons,List.length_nil,List.length_append,List.length_drop]; omega)) only [hv,↓s_box,↓s_mkfn,s_res0,↓s_ops,↓s_seq,↓s_ret,↓s_nil,↓s_op,↓s_bindS,s_bindS,↓s_bindE,s_bindE,s_norm,↓s_getp,↓s_get,↓s_con,↓s_os0,↓s_os1,↓s_list0,↓s_list1,↓s_mov,s_end,s_res0,s_res1,s_tup1,↓iteN_true,↓iteN_false,iteN_true,iteN_false,Nat.reduceEqDiff,decide_true,decide_false]
  try rfl
theorem txs1_go (e:EnBd E) (x:NoBd X) (K:Nat) (hK:100 < K) (hB:H) (L p6 p7 p10 pa lo D:Nat) (T0:Tr V) (t6:evO T0 (.t 6)=.ptr (some (p6,0))) (t7:evO T0 (.t 7)=.ptr (some (p7,0))) (t10:evO T0 (.t 10)=.ptr (some (p10,0))) (h6:p6 < lo) (h7:p7 < lo) (h10:p10 < lo) (hL:L < lo) (ha:pa < lo) (z67:p6≠p7) (z610:p6≠p10) (z710:p7≠p10) (zL6:L≠p6) (zL7:L≠p7) (zL10:L≠p10) (za6:pa≠p6) (za7:pa≠p7) (za10:pa≠p10) (zaL:pa≠L)
    (hd:HdQ) (hok:hd.ok) (many:Nat) (s:List Nat) (bs:byt s=true) (hs:s.length≤100000000) (a0:Option (Nat × Nat)) (src:∀ h:H,lo≤h.next→(∀ i,i < lo→i≠p6→i≠p10→i≠pa→i≠L→h.get i=hB.get i)→SrcH h a0 1 s) (f:Nat) (hf:f < K) (k:Nat) (hk:k≤s.length) (dn':List TxQ) (k':Nat) (hw:wkV s many f [] k=some (dn',k')) (I:BdI hB L p6 p7 p10 pa lo D T0 hd many a0 s.length [] k hB) :
    ∃ h',callX E X (K+23) (.fn k_block_txs_1) [.yld L,.ptr (some (pa,0))] hB=some (.tup [],h')∧BdE hB L p6 p7 p10 pa lo D T0 hd many a0 s.length dn' k' h'∧dn'.length≤k'∧k'≤s.length:=by
  have fin:∀ T,evO T (.t 0)=.yld L→evO T (.t 1)=.ptr (some (pa,0))→∃ h',fnEnd [] (blockE 0 (loopN (evC (callX E X (K+22)) 24 (K+22) none L_block_txs_1_0) (K+22) ⟨T,[],hB⟩))=some (.tup [],h')∧BdE hB L p6 p7 p10 pa lo D T0 hd many a0 s.length dn' k' h'∧dn'.length≤k'∧k'≤s.length:=by
    intro T t0 t1
    obtain ⟨T',h',r,q⟩:=bd_walk e.rr x.rr x.y K hK hB L p6 p7 p10 pa lo D T0 t6 t7 t10 h6 h7 h10 hL ha z67 z610 z710 zL6 zL7 zL10 za6 za7 za10 zaL hd hok many s bs hs a0 src f (K+22) [] k dn' k' T hB hw (by omega) hk (Nat.zero_le _) t0 t1 I
    refine ⟨h',?_,q⟩
    rw [r]; rfl
  obtain ⟨Lo,eL⟩:∃ R,L_block_txs_1_0=R:=⟨_,rfl⟩
  rw [x_cfn e.t1 _ _ (Nat.le_of_ble_eq_true rfl) (x.t1 _ _)]
  rw [eL] at fin ⊢
  simp (config:={maxSteps:=2000000}) (disch:=first | omega | (simp only [List.length_cons,List.length_nil,List.length_append,List.length_drop]; omega)) only [Nat.zero_add,↓l_loop,↓l_succ,↓s_block,↓s_list0,↓s_list1,Nat.zero_add]
  exact fin _ rfl rfl
end Go.Eng
