/- What functions of the program come to: own work. -/
import Derived.Test.YtfopajklnakmpaaBxE
namespace Go.Eng
open Go
variable {E : Nat → Option Fn} {X : Orc}
set_option linter.unusedSimpArgs false
set_option linter.unusedVariables false
/-! headers -/
structure HdQ where
  ver : Nat
  prev : List Nat
  root : List Nat
  time : Nat
  bits : Nat
  nonce : Nat
structure HdQ.ok (x : HdQ) : Prop where
  v1 : x.ver < 4294967296
  lp : x.prev.length = 32
  bp : byt x.prev = true
  lr : x.root.length = 32
  br : byt x.root = true
  t1 : x.time < 4294967296
  b1 : x.bits < 4294967296
  n1 : x.nonce < 4294967296
def hdV (x : HdQ) : List V := [.int .u32 (x.ver : Int)] ++ ofI .u8 x.prev ++ ofI .u8 x.root ++ [.int .u32 (x.time : Int),.int .u32 (x.bits : Int),.int .u32 (x.nonce : Int)]
def hdB (x : HdQ) : List Nat := leN 4 x.ver ++ (x.prev ++ x.root) ++ leN 4 x.time ++ leN 4 x.bits ++ leN 4 x.nonce
theorem hdV_len (x : HdQ) (ok : x.ok) : (hdV x).length = 68 := by
  unfold hdV
  have := ok.lp
  have := ok.lr
  simp only [List.length_append,ofI_len,List.length_cons,List.length_nil]; omega
theorem hdB_len (x : HdQ) (ok : x.ok) : (hdB x).length = 80 := by
  unfold hdB
  have := ok.lp
  have := ok.lr
  simp only [List.length_append,leN_len]; omega
theorem hdB_byt (x : HdQ) (ok : x.ok) : byt (hdB x) = true := by
  unfold hdB
  exact byt_app (byt_app (byt_app (byt_app (leN_byt _ _) (byt_app ok.bp ok.br)) (leN_byt _ _)) (leN_byt _ _)) (leN_byt _ _)
theorem hdV_fit (x : HdQ) (ok : x.ok) : Fit 68 (hdV x) := by
  refine ⟨hdV_len x ok,?_⟩
  unfold hdV
  rw [List.all_append,List.all_append,List.all_append,plain_ofI,plain_ofI]; rfl
theorem hdV_at (x : HdQ) (ok : x.ok) : (hdV x)[0]? = some (.int .u32 (x.ver : Int)) ∧ (hdV x)[65]? = some (.int .u32 (x.time : Int)) ∧ (hdV x)[66]? = some (.int .u32 (x.bits : Int)) ∧ (hdV x)[67]? = some (.int .u32 (x.nonce : Int)) := by
  have l1 : ([V.int .u32 (x.ver : Int)] ++ ofI .u8 x.prev ++ ofI .u8 x.root).length = 65 := by
    have := ok.lp
    have := ok.lr
    simp only [List.length_append,ofI_len,List.length_cons,List.length_nil]; omega
  unfold hdV
  refine ⟨rfl,?_,?_,?_⟩ <;> rw [List.getElem?_append_right (by omega),l1] <;> rfl
theorem hdV_prev (x : HdQ) (ok : x.ok) : ((hdV x).drop 1).take 32 = ofI .u8 x.prev := by
  unfold hdV
  rw [List.append_assoc,List.append_assoc,List.drop_left' (by rfl),List.take_left' (by rw [ofI_len,ok.lp])]
theorem hdV_root (x : HdQ) (ok : x.ok) : ((hdV x).drop 33).take 32 = ofI .u8 x.root := by
  unfold hdV
  have l1 : ([V.int .u32 (x.ver : Int)] ++ ofI .u8 x.prev).length = 33 := by
    have := ok.lp
    simp only [List.length_append,ofI_len,List.length_cons,List.length_nil]; omega
  rw [List.append_assoc ([V.int .u32 (x.ver : Int)] ++ ofI .u8 x.prev),List.drop_left' l1,List.take_left' (by rw [ofI_len,ok.lr])]
/-- many parts at once -/
theorem PenS.rawp (e : EnPen E) (xr : ∀ a h,X (.fn k_octet_Pen_Raw) a h = none) (M : Nat) {S : Nat → Prop} {h hr : H} {pn : Nat} {w : List Nat} (p : PenS S pn w h) (kr : Kp h hr) (ps : List Pt) (hM : ps.length < M) (hl : ps.length < 9223372036854775807) (c : Option Nat) (md : Md) (lt : h.next < hr.next) (g : hr.get h.next = some (.cells (ps.map slOf) md)) (hw : w.length + (flV ps).length ≤ 100000000) (src : ∀ q ∈ ps,SrcS S h q.1 q.2.2.1 q.2.2.2) :
    ∃ h',callX E X (M + 1) (.fn k_octet_Pen_Raw) [.ptr (some (pn,0)),.slice (some (h.next,0)) ps.length c 1] hr = some (.int .i64 0,h') ∧ PsR S pn (w ++ flV ps) h h' := by
  obtain ⟨⟨a,pe,ge⟩,ne,ltS⟩ := p
  have pe' := pe.kp kr
  have l1 := pe.lt
  obtain ⟨h',a',r,p',f⟩ := rawv_go e.rw_ xr M pn h.next ps c hM hl w a hw md hr pe' lt (by omega) (fun e => by have := pe.alt e; omega) g (fun q hq => by
    have := (src q hq).part (a := a) (pn := pn) (c := q.2.1) ge ne
    exact ⟨this.1.mono kr,this.2⟩)
  obtain ⟨q1,q2,q3⟩ := PenS.step ge ne (fun j hj => by have := ltS j hj; omega) p' f
  exact ⟨h',r,q1,by have := kr.1; omega,fun j hj => by rw [q3 j hj,kr.2 _ (ltS j hj)]⟩
structure EnBh (E : Nat → Option Fn) : Prop where
  ep : EnPen E
  eh : E k_block_EncodeHeader = some f_block_EncodeHeader
structure NoBh (X : Orc) : Prop where
  te : NoTe X
  eh : ∀ a h,X (.fn k_block_EncodeHeader) a h = none
theorem enchead_go (e : EnBh E) (x : NoBh X) (al : E k_octet_Pen_All = some f_octet_Pen_All) (M : Nat) (hM : 100 < M) (d : HdQ) (ok : d.ok) (h : H) :
    ∃ h' a2 c2 e2,callX E X (M + 7) (.fn k_block_EncodeHeader) [.agg (hdV d)] h = some (.slice a2 80 c2 e2,h') ∧ Nw h h' (hdB d) a2 c2 e2 := by
  rw [x_cfn e.eh _ _ (Nat.le_of_ble_eq_true rfl) (x.eh _ _)]
  have ca' : ∀ l : List V,(V.agg l).cells = l := fun _ => rfl
  obtain ⟨hb,ehb⟩ : ∃ hb,h.new (.cells (hdV d) .rw) = hb := ⟨_,rfl⟩
  have kb : Kp h hb := by rw [← ehb]; exact Kp.new _ _
  have nb : hb.next = h.next + 1 := by rw [← ehb]; rfl
  have g0 : hb.get h.next = some (.cells (hdV d) .rw) := by rw [← ehb]; exact h_new_same _ _
  obtain ⟨h1,eh1⟩ : ∃ h1,hb.new (.cells [.slice none 0 (some 0) 0] .rw) = h1 := ⟨_,rfl⟩
  have k1 : Kp hb h1 := by rw [← eh1]; exact Kp.new _ _
  have n1 : h1.next = hb.next + 1 := by rw [← eh1]; rfl
  have g1 : h1.get h.next = some (.cells (hdV d) .rw) := by rw [k1.2 _ (by omega),g0]
  have p1 : PenS (fun j => j < hb.next) hb.next [] h1 := ⟨⟨none,PenH.new h1 hb.next (by omega) (by rw [← eh1]; exact h_new_same _ _),fun q o e => by cases e⟩,fun h => Nat.lt_irrefl _ h,fun j hj => by have : j < hb.next := hj; omega⟩
  obtain ⟨i0,i65,i66,i67⟩ := hdV_at d ok
  have lV := hdV_len d ok
  have lp := ok.lp
  have lr := ok.lr
  obtain ⟨h2,r2,p2,n2,f2⟩ := PenS.fixed e.ep.fi x.te.fi (M + 2) (by omega) p1 4 (.inl rfl) d.ver ok.v1 (by simp)
  rw [List.nil_append] at p2
  have g2 : h2.get h.next = some (.cells (hdV d) .rw) := by rw [f2 _ (by omega),g1]
  obtain ⟨hr,ehr⟩ : ∃ hr,(bump 1 h2).put h2.next (.cells [.slice (some (h.next,1)) 32 (some 32) 1,.slice (some (h.next,33)) 32 (some 32) 1] .rw) = hr := ⟨_,rfl⟩
  have nr : hr.next = h2.next + 1 := by rw [← ehr]; rfl
  have kr : Kp h2 hr := ⟨by omega,fun j hj => by rw [← ehr,h_put_ne _ _ (by omega),s_bump_get]⟩
  have gr : hr.get h2.next = some (.cells ([(some (h.next,1),some 32,1,d.prev),(some (h.next,33),some 32,1,d.root)].map slOf) .rw) := by
    rw [← ehr,h_put_same]; unfold slOf; simp only [List.map_cons,List.map_nil,lp,lr]
  have fl : flV [(some (h.next,1),some 32,1,d.prev),(some (h.next,33),some 32,1,d.root)] = d.prev ++ d.root := by unfold flV; simp
  obtain ⟨h3,r3,p3,n3,f3⟩ := PenS.rawp e.ep x.te.rw_ (M + 5) p2 kr [(some (h.next,1),some 32,1,d.prev),(some (h.next,33),some 32,1,d.root)] (by show 2 < _; omega) (by show 2 < _; omega) (some 2) .rw (by omega) gr (by rw [fl,leN_len,List.length_append]; omega) (fun q hq => by
    rcases List.mem_cons.1 hq with rfl | hq
    · exact .inr ⟨h.next,1,hdV d,.rw,rfl,rfl,by show h.next < hb.next; omega,by omega,g2,by simp only [lp,lV]; omega,by simp only [lp]; exact hdV_prev d ok⟩
    · rcases List.mem_singleton.1 hq with rfl
      exact .inr ⟨h.next,33,hdV d,.rw,rfl,rfl,by show h.next < hb.next; omega,by omega,g2,by simp only [lr,lV]; omega,by simp only [lr]; exact hdV_root d ok⟩)
  rw [fl] at p3
  have g3 : h3.get h.next = some (.cells (hdV d) .rw) := by rw [f3 _ (by omega),g2]
  obtain ⟨h4,r4,p4,n4,f4⟩ := PenS.fixed e.ep.fi x.te.fi (M + 2) (by omega) p3 4 (.inl rfl) d.time ok.t1 (by simp only [List.length_append,leN_len]; omega)
  have g4 : h4.get h.next = some (.cells (hdV d) .rw) := by rw [f4 _ (by omega),g3]
  obtain ⟨h5,r5,p5,n5,f5⟩ := PenS.fixed e.ep.fi x.te.fi (M + 2) (by omega) p4 4 (.inl rfl) d.bits ok.b1 (by simp only [List.length_append,leN_len]; omega)
  have g5 : h5.get h.next = some (.cells (hdV d) .rw) := by rw [f5 _ (by omega),g4]
  obtain ⟨h6,r6,p6,n6,f6⟩ := PenS.fixed e.ep.fi x.te.fi (M + 2) (by omega) p5 4 (.inl rfl) d.nonce ok.n1 (by simp only [List.length_append,leN_len]; omega)
  have ew : leN 4 d.ver ++ (d.prev ++ d.root) ++ leN 4 d.time ++ leN 4 d.bits ++ leN 4 d.nonce = hdB d := rfl
  rw [ew] at p6
  have lB := hdB_len d ok
  obtain ⟨⟨a6,pe6,_⟩,_,_⟩ := p6
  obtain ⟨a7,c7,e7,h7,r7,nw7⟩ := allv_go al x.te.al (M + 5) hb.next (hdB d) (by omega) a6 h6 pe6
  rw [lB] at r7
  have k7 := nw7.kp
  have kn7 := k7.1
  refine ⟨h7,a7,c7,e7,?_,⟨⟨by omega,fun j hj => by rw [k7.2 _ (by omega),f6 _ (by omega),f5 _ (by omega),f4 _ (by omega),f3 _ (by omega),f2 _ (by omega),k1.2 _ (by omega),kb.2 _ hj]⟩,nw7.wb,fun q o e => by have := nw7.ge q o e; omega⟩⟩
  have u1 : wr .u64 (d.ver : Int) = (d.ver : Int) := u64n _ (by have := ok.v1; omega)
  have u2 : wr .u64 (d.time : Int) = (d.time : Int) := u64n _ (by have := ok.t1; omega)
  have u3 : wr .u64 (d.bits : Int) = (d.bits : Int) := u64n _ (by have := ok.b1; omega)
  have u4 : wr .u64 (d.nonce : Int) = (d.nonce : Int) := u64n _ (by have := ok.n1; omega)
  have sl1 : ∀ (h : H) i,slcB (some (.cells (hdV d) .rw)) 32 1 i 1 none none h = some (.slice (some (i,1)) 32 (some 32) 1,h) := fun h i => slcB_nn (hdV d) .rw 32 i 1 h (by omega)
  have sl2 : ∀ (h : H) i,slcB (some (.cells (hdV d) .rw)) 32 1 i 33 none none h = some (.slice (some (i,33)) 32 (some 32) 1,h) := fun h i => slcB_nn (hdV d) .rw 32 i 33 h (by omega)
  replace r2 : callX E X (M + 6) (.fn k_octet_Pen_Fixed) [.ptr (some (hb.next,0)),.int .i64 4,.int .u64 (d.ver : Int)] h1 = _ := r2
  replace r4 : callX E X (M + 6) (.fn k_octet_Pen_Fixed) [.ptr (some (hb.next,0)),.int .i64 4,.int .u64 (d.time : Int)] h3 = _ := r4
  replace r5 : callX E X (M + 6) (.fn k_octet_Pen_Fixed) [.ptr (some (hb.next,0)),.int .i64 4,.int .u64 (d.bits : Int)] h4 = _ := r5
  replace r6 : callX E X (M + 6) (.fn k_octet_Pen_Fixed) [.ptr (some (hb.next,0)),.int .i64 4,.int .u64 (d.nonce : Int)] h5 = _ := r6
  replace r7 : callX E X (M + 6) (.fn k_octet_Pen_All) [.ptr (some (hb.next,0))] h6 = _ := r7
  replace r3 : callX E X (M + 6) (.fn k_octet_Pen_Raw) [.ptr (some (hb.next,0)),.slice (some (h2.next,0)) 2 (some 2) 1] hr = _ := r3
  generalize hdV d = D at *
  simp (config := {maxSteps := 2000000}) (disch := first | omega | (simp only [List.length_cons,List.length_nil,List.length_append,List.length_drop]; omega)) only [ca',ehb,g1,g2,eh1,i0,u1,r2,↓x_slcA,x_slcAE,x_M0,sl1,sl2,ehr,r3,g3,i65,u2,r4,g4,i66,u3,r5,g5,i67,u4,r6,r7,↓s_mkfn,↓s_dBuildS,s_dbE,↓s_box,↓x_conv,x_convV,↓x_conv,x_convV,↓x_fieldAddr,x_fieldV,Nat.zero_add,Nat.add_zero,↓s_evD,↓s_dnil,↓s_dL,↓s_dR,↓s_dB,↓s_bindD,s_bindD,s_finD,s_addP0,s_addP1,s_addB,s_lookP,↓s_bump_get,Nat.add_zero,↓s_load,m_load,↓m_load1,m_load1,w_zero,w_succ,↓s_alloc,↓x_P0,↓x_P1,x_fill0,x_fills,List.length_cons,List.length_nil,List.cons_append,List.drop_succ_cons,List.drop_zero,List.drop_nil,List.nil_append,s_res0,↓s_ops,↓s_dops,↓s_seq,↓s_ret,↓s_nil,↓s_op,↓s_bindS,s_bindS,↓s_bindE,s_bindE,s_norm,↓s_getp,↓s_get,↓s_con,↓s_os0,↓s_os1,↓s_list0,↓s_list1,↓s_mov,↓s_call,↓s_callv,↓s_callV,s_same,s_end,s_res0,s_res1,s_tup1,↓iteN_true,↓iteN_false,iteN_true,iteN_false,Nat.zero_add,List.nil_append,List.append_nil,Nat.reduceEqDiff,decide_true,decide_false]
  try rfl
end Go.Eng
namespace Go.Eng
open Go
variable {E : Nat → Option Fn} {X : Orc}
set_option linter.unusedSimpArgs false
set_option linter.unusedVariables false
structure EnBr (E : Nat → Option Fn) : Prop where
  ey : EnEye E
  lo : E k_octet_Look = some f_octet_Look
  wo : E k_block_word = some f_block_word
  ha : E k_block_hash = some f_block_hash
  dh : E k_block_DecodeHeader = some f_block_DecodeHeader
structure NoBr (X : Orc) : Prop where
  ey : NoEye X
  lo : ∀ a h,X (.fn k_octet_Look) a h = none
  wo : ∀ a h,X (.fn k_block_word) a h = none
  ha : ∀ a h,X (.fn k_block_hash) a h = none
  dh : ∀ a h,X (.fn k_block_DecodeHeader) a h = none
theorem bword_go (e : EnBr E) (x : NoBr X) (N p : Nat) (l : List Nat) (bl : byt l = true) (hl : l.length ≤ 100000000) (at_ : Nat) (hle : at_ + 4 ≤ l.length) (a : Option (Nat × Nat)) (h : H) (y : EyeH p l at_ a h) :
    ∃ h',callX E X (N + 13) (.fn k_block_word) [.ptr (some (p,0))] h = some (.int .u32 (numV ((l.drop at_).take 4) : Nat),h') ∧ Kq p h h' ∧ EyeH p l (at_ + 4) a h' ∧ numV ((l.drop at_).take 4) < 4294967296 := by
  rw [x_cfn e.wo _ _ (Nat.le_of_ble_eq_true rfl) (x.wo _ _)]
  obtain ⟨h1,r1,k1,y1⟩ := eyfix_go e.ey x.ey N p 4 l bl hl at_ a h y
  have ef : eyFix 4 l at_ = (numV ((l.drop at_).take 4),0,at_ + 4) := by
    unfold eyFix
    rw [if_pos (show sizedI 4 = true from rfl),show (4 : Int).toNat = 4 from rfl,if_pos hle]
  have lt : numV ((l.drop at_).take 4) < 4294967296 := by
    have : (eyFix 4 l at_).1 < 256 ^ 4 := eyFix_lt 4 (.inl rfl) l bl at_
    rw [ef] at this; simpa using this
  rw [ef] at r1 y1
  simp only at r1 y1
  have w : wr .u32 (numV ((l.drop at_).take 4) : Int) = (numV ((l.drop at_).take 4) : Int) := wr_u32 (by omega)
  refine ⟨h1,?_,k1,y1,lt⟩
  generalize numV ((l.drop at_).take 4) = v at *
  simp (config := {maxSteps := 2000000}) (disch := first | omega | (simp only [List.length_cons,List.length_nil,List.length_append,List.length_drop]; omega)) only [r1,w,↓x_conv,x_convV,↓x_conv,x_convV,Int.cast_ofNat_Int,s_res0,↓s_ops,↓s_seq,↓s_ret,↓s_nil,↓s_op,↓s_bindS,s_bindS,↓s_bindE,s_bindE,s_norm,↓s_getp,↓s_get,↓s_con,↓s_os0,↓s_os1,↓s_list0,↓s_list1,↓s_mov,↓s_call,↓s_ext,s_same,s_end,s_res0,s_res1,s_tup1,↓iteN_true,↓iteN_false,iteN_true,iteN_false,Nat.reduceEqDiff,decide_true,decide_false,List.getElem?_cons_zero,List.getElem?_cons_succ]
  try rfl
theorem bhash_go (e : EnBr E) (x : NoBr X) (N p : Nat) (l : List Nat) (hl : l.length ≤ 100000000) (at_ : Nat) (hle : at_ + 32 ≤ l.length) (a : Option (Nat × Nat)) (h : H) (y : EyeH p l at_ a h) :
    ∃ h',callX E X (N + 4) (.fn k_block_hash) [.ptr (some (p,0))] h = some (.agg (ofI .u8 ((l.drop at_).take 32)),h') ∧ Kq p h h' ∧ EyeH p l (at_ + 32) a h' := by
  rw [x_cfn e.ha _ _ (Nat.le_of_ble_eq_true rfl) (x.ha _ _)]
  rw [← z32e]
  obtain ⟨Z,eZ⟩ : ∃ Z,ofI .u8 (List.replicate 32 0) = Z := ⟨_,rfl⟩
  rw [eZ]
  have lte := y.lt
  obtain ⟨h2,eh2⟩ : ∃ h2,(h.new (.cells Z .rw)).new (.cells Z .rw) = h2 := ⟨_,rfl⟩
  have k2 : Kp h h2 := by rw [← eh2]; (repeat (first | exact Kp.refl _ | refine Kp.put ?_ _ (by first | omega | (simp only [h_next_put,h_next_new,h_next_del]; omega)) | refine Kp.del ?_ (by first | omega | (simp only [h_next_put,h_next_new,h_next_del]; omega)) | refine Kp.trans ?_ (Kp.new _ _)))
  have n2 : h2.next = h.next + 2 := by rw [← eh2]; rfl
  have g21 : h2.get h.next = some (.cells Z .rw) := by rw [← eh2]; (simp (disch := omega) only [h_new_get,h_next_new,Nat.add_eq_left,decide_true,decide_false,iteN_true,iteN_false,reduceCtorEq,]; try rfl)
  have g22 : h2.get (h.next + 1) = some (.cells Z .rw) := by rw [← eh2]; (simp (disch := omega) only [h_new_get,h_next_new,decide_true,iteN_true,]; try rfl)
  obtain ⟨h3,b,cb,eb,c3,nq,y3⟩ := eyraw_go e.ey x.ey N p 32 l hl at_ a h2 (y.kp k2)
  have er : eyRaw 32 l at_ = ((l.drop at_).take 32,0,at_ + 32) := by
    unfold eyRaw
    rw [if_neg (by omega),show (32 : Int).toNat = 32 from rfl,if_pos hle]
  rw [er] at c3 nq y3
  simp only at c3 nq y3
  obtain ⟨w,ew⟩ : ∃ w,(l.drop at_).take 32 = w := ⟨_,rfl⟩
  have lw : w.length = 32 := by rw [← ew,List.length_take,List.length_drop]; omega
  rw [ew] at c3 nq ⊢
  have kn := nq.kq.1
  have g31 : h3.get h.next = some (.cells Z .rw) := by rw [nq.kq.2 _ (by omega) (by omega),g21]
  have g32 : h3.get (h.next + 1) = some (.cells Z .rw) := by rw [nq.kq.2 _ (by omega) (by omega),g22]
  have sc := nq.wb.src.cellz cb
  have cp := copy_bytes h3 (h.next + 1) 0 32 (some 32) w Z .rw rfl g32 (fun h => by rw [h] at lw; cases lw) (by omega) (by rw [← eZ,ofI_len,List.length_replicate]; omega)
  rw [lw,Nat.min_self,List.take_of_length_le (by rw [lw]; omega),← eZ,wrAll _ _ _ (by rw [List.length_replicate,lw])] at cp
  have sl' : ∀ i (h : H),slcB (some (.cells Z .rw)) 32 1 i 0 none none h = some (.slice (some (i,0)) 32 (some 32) 1,h) := fun i h => slcB_nn Z .rw 32 i 0 h (by rw [← eZ,ofI_len,List.length_replicate]; omega)
  have ld : ∀ m,loadE (some (.cells (ofI .u8 w) m)) (some 32) 0 = some (.agg (ofI .u8 w)) := fun m => by rw [m_loadN,x_readAll _ 32 (by rw [ofI_len,lw])]
  have st : ∀ h i,storeV h 32 (.ptr (some (i,0))) (.agg (ofI .u8 w)) = storeE (h.get i) h i 0 (ofI .u8 w) := fun h i => st32 h i 0 _ lw
  have pu : ∀ h i,storeE (some (.cells Z .rw)) h i 0 (ofI .u8 w) = some (h.put i (.cells (ofI .u8 w) .rw)) := fun h i => by
    rw [m_storeE _ _ _ _ _ (by rw [← eZ,ofI_len,ofI_len,lw,List.length_replicate]; omega),← eZ,wrAll _ _ _ (by rw [List.length_replicate,lw])]
  rw [lw] at sc c3
  obtain ⟨h5,eh5⟩ : ∃ h5,h3.put (h.next + 1) (.cells (ofI .u8 w) .rw) = h5 := ⟨_,rfl⟩
  rw [eh5] at cp
  have g51 : h5.get h.next = some (.cells Z .rw) := by rw [← eh5,h_put_ne _ _ (by omega),g31]
  have g52 : h5.get (h.next + 1) = some (.cells (ofI .u8 w) .rw) := by rw [← eh5]; exact h_put_same _ _ _
  have n5 : h5.next = h3.next := by rw [← eh5]; rfl
  refine ⟨h5.put h.next (.cells (ofI .u8 w) .rw),?_,?_,?_⟩
  · generalize ofI .u8 w = W at *
    simp (config := {maxSteps := 2000000}) (disch := first | omega | (simp only [List.length_cons,List.length_nil,List.length_append,List.length_drop]; omega)) only [eh2,c3,↓x_slcA,x_slcAE,x_M0,g32,sl',↓x_copy,sc,cp,g52,g51,ld,st,pu,↓h_put_get,h_next_new,↓s_load,m_load,↓m_st,m_stE,↓s_alloc,Int.cast_ofNat_Int,s_resc,s_consR,s_res0,↓s_ops,↓s_seq,↓s_ret,↓s_nil,↓s_op,↓s_bindS,s_bindS,↓s_bindE,s_bindE,s_norm,↓s_getp,↓s_getp0,↓s_get,↓s_con,↓s_os0,↓s_os1,↓s_list0,↓s_list1,↓s_mov,↓s_call,↓s_ext,s_same,s_end,s_res0,s_tup1,↓iteN_true,↓iteN_false,iteN_true,iteN_false,Nat.reduceEqDiff,decide_true,decide_false,List.getElem?_cons_zero,List.getElem?_cons_succ]
    try rfl
  · refine ⟨by show h.next ≤ h5.next; omega,fun j hj hp => ?_⟩
    rw [h_put_ne _ _ (by omega),← eh5,h_put_ne _ _ (by omega),nq.kq.2 _ (by omega) hp,k2.2 _ hj]
  · refine y3.mono (by show h3.next ≤ h5.next; omega) ?_ ?_
    · rw [h_put_ne _ _ (by omega),← eh5,h_put_ne _ _ (by omega)]
    · intro q hq eq
      have := y.alt eq
      rw [h_put_ne _ _ (by omega),← eh5,h_put_ne _ _ (by omega)]
def Z68 : List V := [.int .u32 0,.int .u8 0,.int .u8 0,.int .u8 0,.int .u8 0,.int .u8 0,.int .u8 0,.int .u8 0,.int .u8 0,.int .u8 0,.int .u8 0,.int .u8 0,.int .u8 0,.int .u8 0,.int .u8 0,.int .u8 0,.int .u8 0,.int .u8 0,.int .u8 0,.int .u8 0,.int .u8 0,.int .u8 0,.int .u8 0,.int .u8 0,.int .u8 0,.int .u8 0,.int .u8 0,.int .u8 0,.int .u8 0,.int .u8 0,.int .u8 0,.int .u8 0,.int .u8 0,.int .u8 0,.int .u8 0,.int .u8 0,.int .u8 0,.int .u8 0,.int .u8 0,.int .u8 0,.int .u8 0,.int .u8 0,.int .u8 0,.int .u8 0,.int .u8 0,.int .u8 0,.int .u8 0,.int .u8 0,.int .u8 0,.int .u8 0,.int .u8 0,.int .u8 0,.int .u8 0,.int .u8 0,.int .u8 0,.int .u8 0,.int .u8 0,.int .u8 0,.int .u8 0,.int .u8 0,.int .u8 0,.int .u8 0,.int .u8 0,.int .u8 0,.int .u8 0,.int .u32 0,.int .u32 0,.int .u32 0]
theorem fill_next (pre post : List V) (n : Nat) (v : V) (r : List (Nat × Nat × V)) (k : Nat) (hk : pre.length = k) (hv : v.cells.length = n) (hp : n ≤ post.length) : fillV (pre ++ post) ((k,n,v) :: r) = fillV ((pre ++ v.cells) ++ post.drop n) r := by
  rw [x_fill1 _ _ _ _ _ (by rw [hv,Nat.beq_refl,List.length_append]; simp; omega),writeN_eq _ _ _ (by rw [List.length_append]; omega),List.take_left' hk,hv,List.drop_append,hk,List.drop_eq_nil_of_le (by omega),List.nil_append]
  congr 3
  omega
theorem fill68 (x : HdQ) (ok : x.ok) : fillV Z68 [(0,1,.int .u32 (x.ver : Int)),(1,32,.agg (ofI .u8 x.prev)),(33,32,.agg (ofI .u8 x.root)),(65,1,.int .u32 (x.time : Int)),(66,1,.int .u32 (x.bits : Int)),(67,1,.int .u32 (x.nonce : Int))] = some (hdV x) := by
  have lz : Z68.length = 68 := rfl
  have lp := ok.lp
  have lr := ok.lr
  have c1 : ∀ n : Nat,(V.int .u32 (n : Int)).cells = [.int .u32 (n : Int)] := fun _ => rfl
  have c2 : ∀ l,(V.agg l).cells = l := fun _ => rfl
  have h0 := fill_next [] Z68 1 (.int .u32 (x.ver : Int)) [(1,32,.agg (ofI .u8 x.prev)),(33,32,.agg (ofI .u8 x.root)),(65,1,.int .u32 (x.time : Int)),(66,1,.int .u32 (x.bits : Int)),(67,1,.int .u32 (x.nonce : Int))] 0 rfl rfl (by omega)
  rw [List.nil_append,List.nil_append,c1] at h0
  rw [h0,fill_next _ _ 32 _ _ 1 rfl (by rw [c2,ofI_len,lp]) (by rw [List.length_drop]; omega),c2,List.drop_drop,
    fill_next _ _ 32 _ _ 33 (by simp [ofI_len,lp]) (by rw [c2,ofI_len,lr]) (by rw [List.length_drop]; omega),c2,List.drop_drop,
    fill_next _ _ 1 _ _ 65 (by simp [ofI_len,lp,lr]) rfl (by rw [List.length_drop]; omega),c1,List.drop_drop,
    fill_next _ _ 1 _ _ 66 (by simp [ofI_len,lp,lr]) rfl (by rw [List.length_drop]; omega),c1,List.drop_drop,
    fill_next _ _ 1 _ _ 67 (by simp [ofI_len,lp,lr]) rfl (by rw [List.length_drop]; omega),c1,List.drop_drop,x_fill0,List.drop_eq_nil_of_le (by omega),List.append_nil]
  unfold hdV
  simp only [List.append_assoc,List.cons_append,List.nil_append]
def hdZ : HdQ := ⟨0,List.replicate 32 0,List.replicate 32 0,0,0,0⟩
theorem hdZ_V : hdV hdZ = Z68 := rfl
theorem hdZ_ok : hdZ.ok := ⟨by decide,by decide,by decide,by decide,by decide,by decide,by decide,by decide⟩
theorem dechead_go (e : EnBr E) (x : NoBr X) (K : Nat) (hK : 100 < K) (l : List Nat) (bl : byt l = true) (hl : l.length ≤ 100000000) (a0 : Option (Nat × Nat)) (c0 : Option Nat) (e0 : Nat) (h : H) (src : SrcH h a0 e0 l) :
    ∃ h',Kp h h' ∧ ((l.length = 80 ∧ ∃ d : HdQ,d.ok ∧ hdB d = l ∧ callX E X (K + 20) (.fn k_block_DecodeHeader) [.slice a0 l.length c0 e0] h = some (.tup [.agg (hdV d),.int .i64 0],h')) ∨ (l.length ≠ 80 ∧ callX E X (K + 20) (.fn k_block_DecodeHeader) [.slice a0 l.length c0 e0] h = some (.tup [.agg Z68,.int .i64 70],h'))) := by
  rw [x_cfn e.dh _ _ (Nat.le_of_ble_eq_true rfl) (x.dh _ _)]
  rw [show ([.int .u32 0,.int .u8 0,.int .u8 0,.int .u8 0,.int .u8 0,.int .u8 0,.int .u8 0,.int .u8 0,.int .u8 0,.int .u8 0,.int .u8 0,.int .u8 0,.int .u8 0,.int .u8 0,.int .u8 0,.int .u8 0,.int .u8 0,.int .u8 0,.int .u8 0,.int .u8 0,.int .u8 0,.int .u8 0,.int .u8 0,.int .u8 0,.int .u8 0,.int .u8 0,.int .u8 0,.int .u8 0,.int .u8 0,.int .u8 0,.int .u8 0,.int .u8 0,.int .u8 0,.int .u8 0,.int .u8 0,.int .u8 0,.int .u8 0,.int .u8 0,.int .u8 0,.int .u8 0,.int .u8 0,.int .u8 0,.int .u8 0,.int .u8 0,.int .u8 0,.int .u8 0,.int .u8 0,.int .u8 0,.int .u8 0,.int .u8 0,.int .u8 0,.int .u8 0,.int .u8 0,.int .u8 0,.int .u8 0,.int .u8 0,.int .u8 0,.int .u8 0,.int .u8 0,.int .u8 0,.int .u8 0,.int .u8 0,.int .u8 0,.int .u8 0,.int .u8 0,.int .u32 0,.int .u32 0,.int .u32 0] : List V) = Z68 from rfl]
  obtain ⟨hA,ehA⟩ : ∃ hA,h.new (.cells Z68 .rw) = hA := ⟨_,rfl⟩
  have kA : Kp h hA := by rw [← ehA]; exact Kp.new _ _
  have nA : hA.next = h.next + 1 := by rw [← ehA]; rfl
  have gA : hA.get h.next = some (.cells Z68 .rw) := by rw [← ehA]; exact h_new_same _ _
  have lz : Z68.length = 68 := rfl
  have fitZ : Fit 68 Z68 := by rw [← hdZ_V]; exact hdV_fit hdZ hdZ_ok
  have stZ := fun h i => fit_st fitZ h i
  have puZ := fun h i => fit_put fitZ h i Z68 lz
  have ldZ := fun m => fit_ld fitZ m
  have fz : fillV Z68 [] = some Z68 := rfl
  by_cases hn : l.length = 80
  rotate_left
  · have d1 : decide ((l.length : Int) = 80) = false := decide_eq_false (by omega)
    refine ⟨hA.put h.next (.cells Z68 .rw),⟨by show h.next ≤ hA.next; omega,fun j hj => by rw [h_put_ne _ _ (by omega),kA.2 _ hj]⟩,.inr ⟨hn,?_⟩⟩
    generalize Z68 = Z at *
    generalize l.length = n at *
    simp (config := {maxSteps := 2000000}) (disch := first | omega | (simp only [List.length_cons,List.length_nil,List.length_append,List.length_drop]; omega)) only [ehA,gA,d1,fz,stZ,puZ,ldZ,Bool.not_false,↓x_build,x_aggO,↓s_len,x_lenS,↓h_put_get,m_load,↓m_st,m_stE,↓s_alloc,x_lenS,↓s_len,↓x_P0,s_resc,s_consR,s_res0,↓s_ops,↓s_seq,↓s_cond,↓s_ret,↓s_nil,↓s_op,↓s_bindS,s_bindS,↓s_bindE,s_bindE,s_bindE_ret,s_norm,↓s_condV,s_condV,↓s_getp,↓s_getp0,↓s_get,↓s_con,↓s_list0,↓s_list1,↓s_mov,↓s_bin,s_same,b_neq,s_end,s_res0,s_res1,s_tup2,↓iteN_true,↓iteN_false,iteN_true,iteN_false,Nat.reduceEqDiff,decide_true,decide_false,Bool.not_false]
    try rfl
  have d1 : decide ((l.length : Int) = 80) = true := decide_eq_true (by omega)
  obtain ⟨h1,p,ay,c1,k1,lep,y1,gay⟩ := look_go e.lo x.lo (K + 18) l hl a0 c0 e0 hA (src.mono kA)
  replace c1 : callX E X (K + 19) (.fn k_octet_Look) _ hA = _ := c1
  obtain ⟨h2,c2,k2,y2,w1⟩ := bword_go e x (K + 6) p l bl hl 0 (by omega) ay h1 y1
  obtain ⟨h3,c3,k3,y3⟩ := bhash_go e x (K + 15) p l hl (0 + 4) (by omega) ay h2 y2
  obtain ⟨h4,c4,k4,y4⟩ := bhash_go e x (K + 15) p l hl (0 + 4 + 32) (by omega) ay h3 y3
  obtain ⟨h5,c5,k5,y5,w5⟩ := bword_go e x (K + 6) p l bl hl (0 + 4 + 32 + 32) (by omega) ay h4 y4
  obtain ⟨h6,c6,k6,y6,w6⟩ := bword_go e x (K + 6) p l bl hl (0 + 4 + 32 + 32 + 4) (by omega) ay h5 y5
  obtain ⟨h7,c7,k7,y7,w7⟩ := bword_go e x (K + 6) p l bl hl (0 + 4 + 32 + 32 + 4 + 4) (by omega) ay h6 y6
  replace c2 : callX E X (K + 19) (.fn k_block_word) _ h1 = _ := c2
  replace c3 : callX E X (K + 19) (.fn k_block_hash) _ h2 = _ := c3
  replace c4 : callX E X (K + 19) (.fn k_block_hash) _ h3 = _ := c4
  replace c5 : callX E X (K + 19) (.fn k_block_word) _ h4 = _ := c5
  replace c6 : callX E X (K + 19) (.fn k_block_word) _ h5 = _ := c6
  replace c7 : callX E X (K + 19) (.fn k_block_word) _ h6 = _ := c7
  obtain ⟨d,ed⟩ : ∃ d : HdQ,(⟨numV ((l.drop 0).take 4),(l.drop (0 + 4)).take 32,(l.drop (0 + 4 + 32)).take 32,numV ((l.drop (0 + 4 + 32 + 32)).take 4),numV ((l.drop (0 + 4 + 32 + 32 + 4)).take 4),numV ((l.drop (0 + 4 + 32 + 32 + 4 + 4)).take 4)⟩ : HdQ) = d := ⟨_,rfl⟩
  have ok : d.ok := by
    rw [← ed]
    exact ⟨w1,by simp only [List.length_take,List.length_drop]; omega,byt_take (byt_drop bl _) _,by simp only [List.length_take,List.length_drop]; omega,byt_take (byt_drop bl _) _,w5,w6,w7⟩
  have n4 : ∀ k,k + 4 ≤ 80 → leN 4 (numV ((l.drop k).take 4)) = (l.drop k).take 4 := fun k hk => leN_numV' _ (byt_take (byt_drop bl _) _) 4 (by simp only [List.length_take,List.length_drop]; omega)
  have eB : hdB d = l := by
    rw [← ed]
    unfold hdB
    simp only
    rw [n4 _ (by omega),n4 _ (by omega),n4 _ (by omega),n4 _ (by omega)]
    have cut : ∀ k m,(l.drop k).take m ++ l.drop (k + m) = l.drop k := fun k m => by rw [← List.drop_drop,List.take_append_drop]
    have e80 : (l.drop (0 + 4 + 32 + 32 + 4 + 4)).take 4 = l.drop (0 + 4 + 32 + 32 + 4 + 4) := List.take_of_length_le (by simp only [List.length_drop]; omega)
    rw [e80]
    simp only [List.append_assoc]
    rw [cut,cut,cut,cut,cut]
    exact List.drop_zero
  have kn1 := k1.1
  have kn2 := k2.1
  have kn3 := k3.1
  have kn4 := k4.1
  have kn5 := k5.1
  have kn6 := k6.1
  have kn7 := k7.1
  have ltp := y1.lt
  have g7 : h7.get h.next = some (.cells Z68 .rw) := by
    rw [k7.2 _ (by omega) (by omega),k6.2 _ (by omega) (by omega),k5.2 _ (by omega) (by omega),k4.2 _ (by omega) (by omega),k3.2 _ (by omega) (by omega),k2.2 _ (by omega) (by omega),k1.2 _ (by omega),gA]
  have fi := hdV_fit d ok
  have st := fun h i => fit_st fi h i
  have pu := fun h i => fit_put fi h i Z68 lz
  have ld := fun m => fit_ld fi m
  have ff := fill68 d ok
  rw [show numV ((l.drop 0).take 4) = d.ver by rw [← ed]] at c2
  rw [show (l.drop (0 + 4)).take 32 = d.prev by rw [← ed]] at c3
  rw [show (l.drop (0 + 4 + 32)).take 32 = d.root by rw [← ed]] at c4
  rw [show numV ((l.drop (0 + 4 + 32 + 32)).take 4) = d.time by rw [← ed]] at c5
  rw [show numV ((l.drop (0 + 4 + 32 + 32 + 4)).take 4) = d.bits by rw [← ed]] at c6
  rw [show numV ((l.drop (0 + 4 + 32 + 32 + 4 + 4)).take 4) = d.nonce by rw [← ed]] at c7
  refine ⟨h7.put h.next (.cells (hdV d) .rw),⟨by show h.next ≤ h7.next; omega,fun j hj => ?_⟩,.inl ⟨hn,d,ok,eB,?_⟩⟩
  · rw [h_put_ne _ _ (by omega),k7.2 _ (by omega) (by omega),k6.2 _ (by omega) (by omega),k5.2 _ (by omega) (by omega),k4.2 _ (by omega) (by omega),k3.2 _ (by omega) (by omega),k2.2 _ (by omega) (by omega),k1.2 _ (by omega),kA.2 _ hj]
  · clear ed eB w1 w5 w6 w7 y1 y2 y3 y4 y5 y6 y7 n4
    generalize hdV d = D at *
    generalize ofI .u8 d.prev = PV at *
    generalize ofI .u8 d.root = RV_ at *
    generalize d.ver = v1 at *
    generalize d.time = v2 at *
    generalize d.bits = v3 at *
    generalize d.nonce = v4 at *
    generalize Z68 = Z at *
    generalize l.length = n at *
    simp (config := {maxSteps := 2000000}) (disch := first | omega | (simp only [List.length_cons,List.length_nil,List.length_append,List.length_drop]; omega)) only [ehA,d1,c1,c2,c3,c4,c5,c6,c7,ff,g7,st,pu,ld,Bool.not_true,↓x_build,x_aggO,↓s_len,x_lenS,↓h_put_get,m_load,↓m_st,m_stE,↓s_alloc,x_lenS,↓s_len,↓x_P0,↓x_P1,s_resc,s_consR,s_res0,↓s_skip,↓s_ops,↓s_seq,↓s_cond,↓s_ret,↓s_nil,↓s_op,↓s_bindS,s_bindS,↓s_bindE,s_bindE,s_norm,↓s_condV,s_condV,↓s_getp,↓s_getp0,↓s_get,↓s_con,↓s_os0,↓s_os1,↓s_list0,↓s_list1,↓s_mov,↓s_bin,↓s_call,s_same,b_neq,s_end,s_res0,s_res1,s_tup2,↓iteN_true,↓iteN_false,iteN_true,iteN_false,Nat.reduceEqDiff,decide_true,decide_false,Bool.not_true]
    try rfl
end Go.Eng
namespace Go.Eng
open Go
variable {E : Nat → Option Fn} {X : Orc}
set_option linter.unusedSimpArgs false
set_option linter.unusedVariables false
/-! blocks -/
structure BkQ where
  hd : HdQ
  txs : List TxQ
structure BkQ.ok (x : BkQ) : Prop where
  h : x.hd.ok
  t : ∀ t ∈ x.txs,t.ok
def bkV (x : BkQ) (a : Option (Nat × Nat)) (c : Option Nat) (e : Nat) : List V := hdV x.hd ++ [.slice a x.txs.length c e]
def BkC (S : Nat → Prop) (h : H) (x : BkQ) (p : List V) : Prop := ∃ a c e,p = bkV x a c e ∧ RowG S 4 TxC h x.txs a e
theorem BkC.mono {S S' : Nat → Prop} {h h' : H} {x : BkQ} {p : List V} (r : BkC S h x p) (hn : h.next ≤ h'.next) (k : ∀ j,S j → j < h.next → h'.get j = h.get j) (w : ∀ j,S j → j < h.next → S' j) : BkC S' h' x p := by
  obtain ⟨a,c,e,rfl,row⟩ := r
  exact ⟨a,c,e,rfl,row.mono2 itTx hn k w⟩
theorem BkC.kp {h h' : H} {x : BkQ} {p : List V} (r : BkC (fun j => j < h.next) h x p) (k : Kp h h') : BkC (fun j => j < h'.next) h' x p :=
  r.mono k.1 (fun j hj _ => k.2 j hj) (fun j hj _ => by have := k.1; have : j < h.next := hj; show j < h'.next; omega)
structure NoBe (X : Orc) : Prop where
  bh : NoBh X
  te : NoTe X
  tc : NoTc X
  be : ∀ a h,X (.fn k_block_Encode) a h = none
end Go.Eng
namespace Go.Eng
open Go
variable {E : Nat → Option Fn} {X : Orc}
set_option linter.unusedSimpArgs false
set_option linter.unusedVariables false
/-! Decode's walk over its transactions -/
end Go.Eng
namespace Go.Eng
open Go
variable {E : Nat → Option Fn} {X : Orc}
set_option linter.unusedSimpArgs false
set_option linter.unusedVariables false
structure NoBd (X : Orc) : Prop where
  y : ∀ l a h,X (.yld l) a h = none
  rr : NoRr X
  br : NoBr X
  tx : ∀ a h,X (.fn k_block_txs) a h = none
  t1 : ∀ a h,X (.fn k_block_txs_1) a h = none
  sz : ∀ a h,X (.fn k_block_size) a h = none
  cp : ∀ a h,X (.fn k_octet_Compact) a h = none
  bd : ∀ a h,X (.fn k_block_Decode) a h = none
end Go.Eng
