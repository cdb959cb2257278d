import Derived.Test.YtfopajklnakmpaaBfC
namespace Go.Eng
open Go
variable {E:Nat→Option Fn} {X:Orc}
set_option linter.unusedSimpArgs false
set_option linter.unusedVariables false
def Fit (sz:Nat) (P:List V):Prop:=P.length=sz∧P.all plainV=true
theorem z4u {sz:Nat} {P:List V} (f:Fit sz P) (h:H) (i:Nat):storeV h sz (.ptr (some (i,0))) (.agg P)=storeE (h.get i) h i 0 P:=z3b h sz i 0 _ (by rw [f.1,f.2,Nat.beq_refl]; rfl)
theorem z3w {sz:Nat} {P:List V} (f:Fit sz P) (h:H) (i:Nat) (vs:List V) (lv:vs.length=sz):storeE (some (.cells vs .rw)) h i 0 P=some (h.put i (.cells P .rw)):=by
  rw [z1v _ _ _ _ _ (by rw [f.1,lv]; omega),z2q,List.drop_eq_nil_of_le (by rw [f.1,lv]; omega),List.append_nil]
theorem z3u {sz:Nat} {P:List V} (f:Fit sz P) (m:Md):loadE (some (.cells P m)) (some sz) 0=some (.agg P):=by
  rw [z3n,z39 _ _ _ (by rw [f.1]; omega),List.drop_zero,List.take_of_length_le (by rw [f.1]; omega)]
theorem InC.fit {S:Nat→Prop} {h:H} {o:InQ} {p:List V} (r:InC S h o p):Fit 35 p:=by
  obtain ⟨b,cb,eb,rfl,_,l⟩:=r
  refine ⟨z5k o b cb eb l,?_⟩
  unfold inV; rw [List.all_append,z31]; rfl
theorem OutC.fit {S:Nat→Prop} {h:H} {o:OutQ} {p:List V} (r:OutC S h o p):Fit 2 p:=by
  obtain ⟨b,cb,eb,rfl,_⟩:=r
  exact ⟨rfl,rfl⟩
theorem eqL_or {α:Type} [DecidableEq α]:∀ (as bs:List α),as.length=bs.length→as=bs∨∃ (j:Nat) (o p:α),as[j]?=some o∧bs[j]?=some p∧o≠p∧∀ (i:Nat) (o' p':α),i<j→as[i]?=some o'→bs[i]?=some p'→o'=p':=by
  intro as
  induction as with
  | nil=>intro bs h; left; exact (List.length_eq_zero_iff.1 h.symm).symm
  | cons a r ih =>
    intro bs h
    cases bs with
    | nil=>cases h
    | cons b s =>
      by_cases ab:a=b
      · rcases ih s (by simpa using h) with e | ⟨j,o,p,h1,h2,h3,h4⟩
        · left; rw [ab,e]
        · refine .inr ⟨j+1,o,p,by simpa using h1,by simpa using h2,h3,fun i o' p' hi ho hp=>?_⟩
          cases i with
          | zero=>simp at ho hp; rw [← ho,← hp]; exact ab
          | succ i=>simp at ho hp; exact h4 i o' p' (by omega) ho hp
      · exact .inr ⟨0,a,b,rfl,rfl,ab,fun i _ _ hi=>by omega⟩
instance:DecidableEq InQ:=fun a b=>decidable_of_iff (a.tx=b.tx∧a.n=b.n∧a.l=b.l∧a.q=b.q) (by cases a; cases b; simp)
instance:DecidableEq OutQ:=fun a b=>decidable_of_iff (a.v=b.v∧a.l=b.l) (by cases a; cases b; simp)
structure EqIn (va vb:V) (n:Nat) (h0:H) (i:Nat) (T:Tr V) (h:H):Prop where
  il:i≤n
  t1:evO T (.t 1)=vb
  t2:evO T (.t 2)=.fn k_tx_sameIn [] []
  t15:evO T (.t 15)=va
  t16:evO T (.t 16)=.int .i64 (n:Int)
  t17:evO T (.t 17)=.int .i64 (i:Int)
  kp:Kp h0 h
theorem z6u {M:Nat} (same:∀ (o p:InQ) (ok:InQ.ok o) (pk:InQ.ok p) (P1 P2:List V) (h:H),InC (fun j=>j<h.next) h o P1→InC (fun j=>j<h.next) h p P2→∃ h',callX E X (M+2) (.fn k_tx_sameIn) [.agg P1,.agg P2] h=some (.bool (decide (o=p)),h')∧Kp h h') (m:Nat) (as bs:List InQ) (hl:as.length=bs.length) (hn:as.length≤100000000) (ok:∀ o ∈ as,InQ.ok o) (pk:∀ o ∈ bs,InQ.ok o) (a b:Option (Nat × Nat)) (c d:Option Nat) (ea eb:Nat) (h0:H) (ra:RowG (fun j=>j<h0.next) 35 InC h0 as a ea) (rb:RowG (fun j=>j<h0.next) 35 InC h0 bs b eb) (i:Nat) (T:Tr V) (h:H) (o p:InQ) (ho:as[i]?=some o) (hp:bs[i]?=some p) (I:EqIn (.slice a as.length c ea) (.slice b bs.length d eb) as.length h0 i T h) :
    ∃ T' h',Kp h0 h'∧(o=p→evC (callX E X (M+2)) 32 m none L_slices_EqualFunc_api_In_api_In_api_In_api_In_0 ⟨T,[],h⟩=some (.normal,⟨T',[],h'⟩)∧EqIn (.slice a as.length c ea) (.slice b bs.length d eb) as.length h0 (i+1) T' h')∧(o≠p→evC (callX E X (M+2)) 32 m none L_slices_EqualFunc_api_In_api_In_api_In_api_In_0 ⟨T,[],h⟩=some (.ret,⟨T',[],h'⟩)∧evO T' (.t 6)=.bool false):=by
  have hi:i<as.length:=(List.getElem?_eq_some_iff.1 ho).1
  obtain ⟨_,t1,t2,t15,t16,t17,kp⟩:=I
  have c0:decide ((i:Int)<(as.length:Int))=true:=decide_eq_true (by omega)
  have wi:wr .i64 ((i:Int)+1)=((i+1:Nat):Int):=by rw [z1u (by omega)]; omega
  have ix:idx (i:Int) as.length=some i:=idxn hi
  have ix2:idx (i:Int) bs.length=some i:=idxn (by omega)
  obtain ⟨q,off,vs,md,P1,rfl,rfl,hq,gq',aP,ld⟩:=z4z ra i o ho
  obtain ⟨q2,off2,vs2,md2,P2,rfl,rfl,hq2,gq2,aP2,lo2⟩:=z4z rb i p hp
  have f1:=InC.fit aP
  have f2:=InC.fit aP2
  obtain ⟨h1,eh1⟩:∃ h1,(h.new (.cells [.int .u8 0,.int .u8 0,.int .u8 0,.int .u8 0,.int .u8 0,.int .u8 0,.int .u8 0,.int .u8 0,.int .u8 0,.int .u8 0,.int .u8 0,.int .u8 0,.int .u8 0,.int .u8 0,.int .u8 0,.int .u8 0,.int .u8 0,.int .u8 0,.int .u8 0,.int .u8 0,.int .u8 0,.int .u8 0,.int .u8 0,.int .u8 0,.int .u8 0,.int .u8 0,.int .u8 0,.int .u8 0,.int .u8 0,.int .u8 0,.int .u8 0,.int .u8 0,.int .u32 0,.slice none 0 (some 0) 0,.int .u32 0] .rw)).put h.next (.cells P1 .rw)=h1:=⟨_,rfl⟩
  have k1:Kp h h1:=by rw [← eh1]; (repeat (first | exact Kp.refl _ | refine Kp.put ?_ _ (by first | omega | (simp only [zr,zh,zq]; omega)) | refine Kp.del ?_ (by first | omega | (simp only [zr,zh,zq]; omega)) | refine Kp.trans ?_ (Kp.new _ _)))
  have n1:h1.next=h.next+1:=by rw [← eh1]; rfl
  have g1:h1.get h.next=some (.cells P1 .rw):=by rw [← eh1]; exact z1f _ _ _
  obtain ⟨h2,eh2⟩:∃ h2,(h1.new (.cells [.int .u8 0,.int .u8 0,.int .u8 0,.int .u8 0,.int .u8 0,.int .u8 0,.int .u8 0,.int .u8 0,.int .u8 0,.int .u8 0,.int .u8 0,.int .u8 0,.int .u8 0,.int .u8 0,.int .u8 0,.int .u8 0,.int .u8 0,.int .u8 0,.int .u8 0,.int .u8 0,.int .u8 0,.int .u8 0,.int .u8 0,.int .u8 0,.int .u8 0,.int .u8 0,.int .u8 0,.int .u8 0,.int .u8 0,.int .u8 0,.int .u8 0,.int .u8 0,.int .u32 0,.slice none 0 (some 0) 0,.int .u32 0] .rw)).put h1.next (.cells P2 .rw)=h2:=⟨_,rfl⟩
  have k2:Kp h1 h2:=by rw [← eh2]; (repeat (first | exact Kp.refl _ | refine Kp.put ?_ _ (by first | omega | (simp only [zr,zh,zq]; omega)) | refine Kp.del ?_ (by first | omega | (simp only [zr,zh,zq]; omega)) | refine Kp.trans ?_ (Kp.new _ _)))
  have g21:h2.get h.next=some (.cells P1 .rw):=by rw [k2.2 _ (by omega),g1]
  have g22:h2.get h1.next=some (.cells P2 .rw):=by rw [← eh2]; exact z1f _ _ _
  have k02:=kp.trans (k1.trans k2)
  have kn:=k02.1
  have sW:∀ j,j<h0.next→j<h2.next:=fun j hj=>by omega
  have gva:h.get q=some (.cells vs md):=by rw [kp.2 _ hq,gq']
  have gvb:h1.get q2=some (.cells vs2 md2):=by rw [(kp.trans k1).2 _ hq2,gq2]
  obtain ⟨h3,rs,k3⟩:=same o p (ok o (List.mem_of_getElem? ho)) (pk p (List.mem_of_getElem? hp)) P1 P2 h2 (aP.mono k02.1 k02.2 sW) (aP2.mono k02.1 k02.2 sW)
  have i1:i+1≤as.length:=hi
  have s1:=fun h i=>z4u f1 h i
  have s2:=fun h i=>z4u f2 h i
  have p1:=fun h i vs lv=>z3w f1 h i vs lv
  have p2:=fun h i vs lv=>z3w f2 h i vs lv
  have l1:=fun m=>z3u f1 m
  have l2:=fun m=>z3u f2 m
  have zl:([.int .u8 0,.int .u8 0,.int .u8 0,.int .u8 0,.int .u8 0,.int .u8 0,.int .u8 0,.int .u8 0,.int .u8 0,.int .u8 0,.int .u8 0,.int .u8 0,.int .u8 0,.int .u8 0,.int .u8 0,.int .u8 0,.int .u8 0,.int .u8 0,.int .u8 0,.int .u8 0,.int .u8 0,.int .u8 0,.int .u8 0,.int .u8 0,.int .u8 0,.int .u8 0,.int .u8 0,.int .u8 0,.int .u8 0,.int .u8 0,.int .u8 0,.int .u8 0,.int .u32 0,.slice none 0 (some 0) 0,.int .u32 0]:List V).length=35:=rfl
  obtain ⟨z,ez⟩:∃ z:List V,[.int .u8 0,.int .u8 0,.int .u8 0,.int .u8 0,.int .u8 0,.int .u8 0,.int .u8 0,.int .u8 0,.int .u8 0,.int .u8 0,.int .u8 0,.int .u8 0,.int .u8 0,.int .u8 0,.int .u8 0,.int .u8 0,.int .u8 0,.int .u8 0,.int .u8 0,.int .u8 0,.int .u8 0,.int .u8 0,.int .u8 0,.int .u8 0,.int .u8 0,.int .u8 0,.int .u8 0,.int .u8 0,.int .u8 0,.int .u8 0,.int .u8 0,.int .u8 0,.int .u32 0,.slice none 0 (some 0) 0,.int .u32 0]=z:=⟨_,rfl⟩
  rw [ez] at eh1 eh2 zl
  have q1:=fun h i=>p1 h i z zl
  have q2':=fun h i=>p2 h i z zl
  obtain ⟨n,en⟩:∃ n,as.length=n:=⟨_,rfl⟩
  obtain ⟨n2,en2⟩:∃ n,bs.length=n:=⟨_,rfl⟩
  rw [en] at t15 t16 c0 ix
  rw [en2] at t1 ix2
  have gz1:(h.new (.cells z .rw)).get h.next=some (.cells z .rw):=z1g _ _
  have gz2:(h1.new (.cells z .rw)).get h1.next=some (.cells z .rw):=z1g _ _
  by_cases eo:o=p
  · rw [decide_eq_true eo] at rs
    obtain ⟨T',r,u1,u2,u15,u16,u17⟩:∃ T',evC (callX E X (M+2)) 32 m none L_slices_EqualFunc_api_In_api_In_api_In_api_In_0 ⟨T,[],h⟩=some (.normal,⟨T',[],h3⟩)∧evO T' (.t 1)=.slice (some (q2,off2)) n2 d 35∧evO T' (.t 2)=.fn k_tx_sameIn [] []∧evO T' (.t 15)=.slice (some (q,off)) n c 35∧evO T' (.t 16)=.int .i64 (n:Int)∧evO T' (.t 17)=.int .i64 ((i+1:Nat):Int):=by
      exact ⟨_,by
        simp (config:={maxSteps:=2000000}) (disch:=first | omega | (simp only [List.length_cons,List.length_nil,List.length_append,List.length_drop]; omega)) only [L_slices_EqualFunc_api_In_api_In_api_In_api_In_0,ez,t1,t2,t15,t16,t17,gva,gvb,ld,lo2,s1,s2,q1,q2',l1,l2,eh1,eh2,g21,g22,rs,c0,wi,ix,ix2,List.nil_append,List.append_nil,↓z19,↓z1e,z1c,↓m_st,z2p,↓z2d,↓z2g,z23,z21,List.nil_append,↓z1p,↓zw,↓zy,↓z10,↓z15,↓zu,↓s_op,↓zf,zf,↓zd,zd,zk,↓zg,zg,zt,↓zb,↓zm,↓z17,↓z24,↓z26,↓z12,↓z1h,↓s_un,↓z3l,↓s_callV,zp,z1y,z2z,z4f,↓za,↓z9,za,z9,List.nil_append,List.append_nil,Nat.reduceEqDiff,decide_true,decide_false,Bool.not_true]
        exact rfl,(by (simp only [zb,zm,Nat.reduceEqDiff,decide_false,z9,t1]; try rfl)),(by (simp only [zb,zm,Nat.reduceEqDiff,decide_false,z9,t2]; try rfl)),(by (simp only [zb,zm,Nat.reduceEqDiff,decide_false,z9,t15]; try rfl)),(by (simp only [zb,zm,Nat.reduceEqDiff,decide_false,z9,t16]; try rfl)),(by (simp only [zb,decide_true,za]; try rfl))⟩
    exact ⟨T',h3,k02.trans k3,fun _=>⟨r,i1,by rw [en2]; exact u1,u2,by rw [en]; exact u15,by rw [en]; exact u16,u17,k02.trans k3⟩,fun h=>absurd eo h⟩
  · rw [decide_eq_false eo] at rs
    obtain ⟨T',r,u6⟩:∃ T',evC (callX E X (M+2)) 32 m none L_slices_EqualFunc_api_In_api_In_api_In_api_In_0 ⟨T,[],h⟩=some (.ret,⟨T',[],h3⟩)∧evO T' (.t 6)=.bool false:=by
      exact ⟨_,by
        simp (config:={maxSteps:=2000000}) (disch:=first | omega | (simp only [List.length_cons,List.length_nil,List.length_append,List.length_drop]; omega)) only [L_slices_EqualFunc_api_In_api_In_api_In_api_In_0,ez,t1,t2,t15,t16,t17,gva,gvb,ld,lo2,s1,s2,q1,q2',l1,l2,eh1,eh2,g21,g22,rs,c0,ix,ix2,List.nil_append,List.append_nil,↓z19,↓z1e,z1c,↓m_st,z2p,↓z2d,↓z2g,z23,z21,List.nil_append,↓z1p,↓zw,↓zy,↓z10,↓z15,↓z1t,↓zu,↓s_op,↓zf,zf,↓zd,zd,z1d,zk,↓zg,zg,z27,↓zb,↓zm,↓z17,↓z24,↓z26,↓z12,↓z1h,↓s_un,↓z3l,↓s_callV,zp,z1y,z4f,↓za,↓z9,za,z9,List.nil_append,List.append_nil,Nat.reduceEqDiff,decide_true,decide_false,Bool.not_false]
        exact rfl,(by (simp only [zb,decide_true,za]; try rfl))⟩
    exact ⟨T',h3,k02.trans k3,fun h=>absurd h eo,fun _=>⟨r,u6⟩⟩
theorem eqIn_go (ef:E k_slices_EqualFunc_api_In_api_In_api_In_api_In=some f_slices_EqualFunc_api_In_api_In_api_In_api_In) (xf:∀ a h,X (.fn k_slices_EqualFunc_api_In_api_In_api_In_api_In) a h=none) (M:Nat) (same:∀ (o p:InQ) (ok:InQ.ok o) (pk:InQ.ok p) (P1 P2:List V) (h:H),InC (fun j=>j<h.next) h o P1→InC (fun j=>j<h.next) h p P2→∃ h',callX E X (M+2) (.fn k_tx_sameIn) [.agg P1,.agg P2] h=some (.bool (decide (o=p)),h')∧Kp h h') (as bs:List InQ) (hn:as.length≤100000000) (hM:as.length<M) (hbn:bs.length<9223372036854775807) (ok:∀ o ∈ as,InQ.ok o) (pk:∀ o ∈ bs,InQ.ok o) (a b:Option (Nat × Nat)) (c d:Option Nat) (ea eb:Nat) (h:H) (ra:RowG (fun j=>j<h.next) 35 InC h as a ea) (rb:RowG (fun j=>j<h.next) 35 InC h bs b eb) :
    ∃ h',callX E X (M+2+1) (.fn k_slices_EqualFunc_api_In_api_In_api_In_api_In) [.slice a as.length c ea,.slice b bs.length d eb,.fn k_tx_sameIn [] []] h=some (.bool (decide (as=bs)),h')∧Kp h h':=by
  rw [z2c ef _ _ (Nat.le_of_ble_eq_true rfl) (xf _ _)]
  by_cases hl:as.length=bs.length
  · have fin:∀ T,EqIn (.slice a as.length c ea) (.slice b bs.length d eb) as.length h 0 T h→∃ h',fnEnd [.tmp 6] (bindE (blockE 0 (loopN (evC (callX E X (M+2)) 32 (M+2) none L_slices_EqualFunc_api_In_api_In_api_In_api_In_0) (M+2) ⟨T,[],h⟩)) (evC (callX E X (M+2)) 32 (M+2) none R_slices_EqualFunc_api_In_api_In_api_In_api_In_0))=some (.bool (decide (as=bs)),h')∧Kp h h':=by
      intro T I
      have get:∀ i,i<as.length→∃ o p,as[i]?=some o∧bs[i]?=some p:=fun i hi=>⟨_,_,List.getElem?_eq_getElem hi,List.getElem?_eq_getElem (by omega)⟩
      rcases eqL_or as bs hl with eab | ⟨j,o,p,h1,h2,h3,h4⟩
      · rw [decide_eq_true eab]
        obtain ⟨T',h',rr,kp⟩:=z22 (f:=evC (callX E X (M+2)) 32 (M+2) none L_slices_EqualFunc_api_In_api_In_api_In_api_In_0) (EqIn (.slice a as.length c ea) (.slice b bs.length d eb) as.length h) as.length (.exit 0) (by intro h; cases h) (fun _ h'=>Kp h h') (fun i T h' hi I=>by
          obtain ⟨o,p,ho,hp⟩:=get i hi
          obtain ⟨T',h2,_,q,_⟩:=z6u same (M+2) as bs hl hn ok pk a b c d ea eb h ra rb i T h' o p ho hp I
          rw [eab,hp] at ho
          cases ho
          exact ⟨T',h2,q rfl⟩) (fun T h' I=>by
          obtain ⟨il,t1,t2,t15,t16,t17,kp⟩:=I
          have c0:decide ((as.length:Int)<(as.length:Int))=false:=decide_eq_false (by omega)
          exact ⟨_,_,by
            simp (config:={maxSteps:=2000000}) (disch:=first | omega | (simp only [List.length_cons,List.length_nil,List.length_append,List.length_drop]; omega)) only [L_slices_EqualFunc_api_In_api_In_api_In_api_In_0,t16,t17,c0,↓zw,↓zy,↓z10,↓z2b,↓zu,↓s_op,↓zf,zf,↓zd,zd,z16,zk,↓zg,zg,↓zb,↓z1h,zp,z1y,↓za,↓z9,za,z9,decide_true]
            exact rfl,kp⟩) as.length 0 (by omega) (M+2) (by omega) T h I
        rw [rr]
        refine ⟨h',?_,kp⟩
        simp (config:={maxSteps:=2000000}) (disch:=first | omega | (simp only [List.length_cons,List.length_nil,List.length_append,List.length_drop]; omega)) only [R_slices_EqualFunc_api_In_api_In_api_In_api_In_0,zo,↓zw,↓zy,↓z1t,↓zu,↓s_op,↓zf,zf,↓zd,zd,zk,z1b,↓zb,↓z17,↓z12,z1x,zo,z1m,z1n,↓za,za,decide_true,if_true]
        try rfl
      · have hne:as≠bs:=fun e=>h3 (by rw [e,h2] at h1; cases h1; rfl)
        rw [decide_eq_false hne]
        have hj:j<as.length:=(List.getElem?_eq_some_iff.1 h1).1
        obtain ⟨T',h',rr,u6,kp⟩:=z22 (f:=evC (callX E X (M+2)) 32 (M+2) none L_slices_EqualFunc_api_In_api_In_api_In_api_In_0) (EqIn (.slice a as.length c ea) (.slice b bs.length d eb) as.length h) j .ret (by intro h; cases h) (fun T h'=>evO T (.t 6)=.bool false∧Kp h h') (fun i T h' hi I=>by
          obtain ⟨o,p,ho,hp⟩:=get i (by omega)
          obtain ⟨T',h2,_,q,_⟩:=z6u same (M+2) as bs hl hn ok pk a b c d ea eb h ra rb i T h' o p ho hp I
          exact ⟨T',h2,q (h4 i o p hi ho hp)⟩) (fun T h' I=>by
          obtain ⟨T',h2',k,_,q⟩:=z6u same (M+2) as bs hl hn ok pk a b c d ea eb h ra rb j T h' o p h1 h2 I
          obtain ⟨q1,q2⟩:=q h3
          exact ⟨T',h2',q1,q2,k⟩) j 0 (by omega) (M+2) (by omega) T h I
        rw [rr]
        refine ⟨h',?_,kp⟩
        simp (config:={maxSteps:=2000000}) (disch:=first | omega | (simp only [List.length_cons,List.length_nil,List.length_append,List.length_drop]; omega)) only [u6,zo,z1d,z27,z1x,zo,z1m,z1n]
        try rfl
    have c1:(!decide ((as.length:Int)=(bs.length:Int)))=false:=by rw [decide_eq_true (by omega)]; rfl
    obtain ⟨R,eR⟩:∃ R,R_slices_EqualFunc_api_In_api_In_api_In_api_In_0=R:=⟨_,rfl⟩
    obtain ⟨Lo,eL⟩:∃ R,L_slices_EqualFunc_api_In_api_In_api_In_api_In_0=R:=⟨_,rfl⟩
    rw [eR,eL] at fin ⊢
    obtain ⟨n,en⟩:∃ n,as.length=n:=⟨_,rfl⟩
    obtain ⟨n2,en2⟩:∃ n,bs.length=n:=⟨_,rfl⟩
    rw [en,en2] at c1 fin ⊢
    simp (config:={maxSteps:=2000000}) (disch:=first | omega | (simp only [List.length_cons,List.length_nil,List.length_append,List.length_drop]; omega)) only [c1,↓z1q,z18,Nat.zero_add,↓z2k,↓z2e,z18,↓z1q,Nat.reduceAdd,↓z1p,↓zw,↓zy,↓z10,↓z15,↓zu,↓s_op,↓zf,zf,↓zd,zd,zk,↓zg,zg,↓zb,↓z1s,↓z17,↓z11,↓z13,↓z12,↓z1h,zp,z3j,↓za,↓z9,za,z9,Nat.zero_add,Nat.reduceEqDiff,decide_true,decide_false]
    exact fin _ ⟨Nat.zero_le _,(by (simp only [zb,Nat.reduceEqDiff,decide_false,z9]; try rfl)),(by (simp only [zb,Nat.reduceEqDiff,decide_false,z9]; try rfl)),(by (simp only [zb,Nat.reduceEqDiff,decide_false,decide_true,z9,za]; try rfl)),(by (simp only [zb,Nat.reduceEqDiff,decide_false,decide_true,z9,za]; try rfl)),(by (simp only [zb,decide_true,za]; try rfl)),Kp.refl _⟩
  · rw [decide_eq_false (fun e=>hl (by rw [e]))]
    have c1:(!decide ((as.length:Int)=(bs.length:Int)))=true:=by rw [decide_eq_false (by omega)]; rfl
    refine ⟨h,?_,Kp.refl _⟩
    obtain ⟨Lo,eL⟩:∃ R,L_slices_EqualFunc_api_In_api_In_api_In_api_In_0=R:=⟨_,rfl⟩
    rw [eL]
    generalize as.length=n at *
    generalize bs.length=n2 at *
    simp (config:={maxSteps:=2000000}) (disch:=first | omega | (simp only [List.length_cons,List.length_nil,List.length_append,List.length_drop]; omega)) only [c1,↓z1q,z18,Nat.zero_add,z18,↓z1q,Nat.reduceAdd,zo,↓zw,↓zy,↓z10,↓z1t,↓zu,↓s_op,↓zf,zf,↓zd,zd,z1d,zk,↓zg,zg,↓zb,↓z1s,↓z17,↓z11,↓z13,↓z12,↓z1h,zp,z3j,z1x,zo,z1m,z1n,↓za,↓z9,za,z9,Nat.zero_add,Nat.reduceEqDiff,decide_true,decide_false]
    try rfl
structure EqOut (va vb:V) (n:Nat) (h0:H) (i:Nat) (T:Tr V) (h:H):Prop where
  il:i≤n
  t1:evO T (.t 1)=vb
  t2:evO T (.t 2)=.fn k_tx_sameOut [] []
  t15:evO T (.t 15)=va
  t16:evO T (.t 16)=.int .i64 (n:Int)
  t17:evO T (.t 17)=.int .i64 (i:Int)
  kp:Kp h0 h
theorem z5n {M:Nat} (same:∀ (o p:OutQ) (ok:OutQ.ok o) (pk:OutQ.ok p) (P1 P2:List V) (h:H),OutC (fun j=>j<h.next) h o P1→OutC (fun j=>j<h.next) h p P2→∃ h',callX E X (M+2) (.fn k_tx_sameOut) [.agg P1,.agg P2] h=some (.bool (decide (o=p)),h')∧Kp h h') (m:Nat) (as bs:List OutQ) (hl:as.length=bs.length) (hn:as.length≤100000000) (ok:∀ o ∈ as,OutQ.ok o) (pk:∀ o ∈ bs,OutQ.ok o) (a b:Option (Nat × Nat)) (c d:Option Nat) (ea eb:Nat) (h0:H) (ra:RowG (fun j=>j<h0.next) 2 OutC h0 as a ea) (rb:RowG (fun j=>j<h0.next) 2 OutC h0 bs b eb) (i:Nat) (T:Tr V) (h:H) (o p:OutQ) (ho:as[i]?=some o) (hp:bs[i]?=some p) (I:EqOut (.slice a as.length c ea) (.slice b bs.length d eb) as.length h0 i T h) :
    ∃ T' h',Kp h0 h'∧(o=p→evC (callX E X (M+2)) 32 m none L_slices_EqualFunc_api_Out_api_Out_api_Out_api_Out_0 ⟨T,[],h⟩=some (.normal,⟨T',[],h'⟩)∧EqOut (.slice a as.length c ea) (.slice b bs.length d eb) as.length h0 (i+1) T' h')∧(o≠p→evC (callX E X (M+2)) 32 m none L_slices_EqualFunc_api_Out_api_Out_api_Out_api_Out_0 ⟨T,[],h⟩=some (.ret,⟨T',[],h'⟩)∧evO T' (.t 6)=.bool false):=by
  have hi:i<as.length:=(List.getElem?_eq_some_iff.1 ho).1
  obtain ⟨_,t1,t2,t15,t16,t17,kp⟩:=I
  have c0:decide ((i:Int)<(as.length:Int))=true:=decide_eq_true (by omega)
  have wi:wr .i64 ((i:Int)+1)=((i+1:Nat):Int):=by rw [z1u (by omega)]; omega
  have ix:idx (i:Int) as.length=some i:=idxn hi
  have ix2:idx (i:Int) bs.length=some i:=idxn (by omega)
  obtain ⟨q,off,vs,md,P1,rfl,rfl,hq,gq',aP,ld⟩:=z4z ra i o ho
  obtain ⟨q2,off2,vs2,md2,P2,rfl,rfl,hq2,gq2,aP2,lo2⟩:=z4z rb i p hp
  have f1:=OutC.fit aP
  have f2:=OutC.fit aP2
  obtain ⟨h1,eh1⟩:∃ h1,(h.new (.cells [.int .i64 0,.slice none 0 (some 0) 0] .rw)).put h.next (.cells P1 .rw)=h1:=⟨_,rfl⟩
  have k1:Kp h h1:=by rw [← eh1]; (repeat (first | exact Kp.refl _ | refine Kp.put ?_ _ (by first | omega | (simp only [zr,zh,zq]; omega)) | refine Kp.del ?_ (by first | omega | (simp only [zr,zh,zq]; omega)) | refine Kp.trans ?_ (Kp.new _ _)))
  have n1:h1.next=h.next+1:=by rw [← eh1]; rfl
  have g1:h1.get h.next=some (.cells P1 .rw):=by rw [← eh1]; exact z1f _ _ _
  obtain ⟨h2,eh2⟩:∃ h2,(h1.new (.cells [.int .i64 0,.slice none 0 (some 0) 0] .rw)).put h1.next (.cells P2 .rw)=h2:=⟨_,rfl⟩
  have k2:Kp h1 h2:=by rw [← eh2]; (repeat (first | exact Kp.refl _ | refine Kp.put ?_ _ (by first | omega | (simp only [zr,zh,zq]; omega)) | refine Kp.del ?_ (by first | omega | (simp only [zr,zh,zq]; omega)) | refine Kp.trans ?_ (Kp.new _ _)))
  have g21:h2.get h.next=some (.cells P1 .rw):=by rw [k2.2 _ (by omega),g1]
  have g22:h2.get h1.next=some (.cells P2 .rw):=by rw [← eh2]; exact z1f _ _ _
  have k02:=kp.trans (k1.trans k2)
  have kn:=k02.1
  have sW:∀ j,j<h0.next→j<h2.next:=fun j hj=>by omega
  have gva:h.get q=some (.cells vs md):=by rw [kp.2 _ hq,gq']
  have gvb:h1.get q2=some (.cells vs2 md2):=by rw [(kp.trans k1).2 _ hq2,gq2]
  obtain ⟨h3,rs,k3⟩:=same o p (ok o (List.mem_of_getElem? ho)) (pk p (List.mem_of_getElem? hp)) P1 P2 h2 (aP.mono k02.1 k02.2 sW) (aP2.mono k02.1 k02.2 sW)
  have i1:i+1≤as.length:=hi
  have s1:=fun h i=>z4u f1 h i
  have s2:=fun h i=>z4u f2 h i
  have p1:=fun h i vs lv=>z3w f1 h i vs lv
  have p2:=fun h i vs lv=>z3w f2 h i vs lv
  have l1:=fun m=>z3u f1 m
  have l2:=fun m=>z3u f2 m
  have zl:([.int .i64 0,.slice none 0 (some 0) 0]:List V).length=2:=rfl
  obtain ⟨z,ez⟩:∃ z:List V,[.int .i64 0,.slice none 0 (some 0) 0]=z:=⟨_,rfl⟩
  rw [ez] at eh1 eh2 zl
  have q1:=fun h i=>p1 h i z zl
  have q2':=fun h i=>p2 h i z zl
  obtain ⟨n,en⟩:∃ n,as.length=n:=⟨_,rfl⟩
  obtain ⟨n2,en2⟩:∃ n,bs.length=n:=⟨_,rfl⟩
  rw [en] at t15 t16 c0 ix
  rw [en2] at t1 ix2
  have gz1:(h.new (.cells z .rw)).get h.next=some (.cells z .rw):=z1g _ _
  have gz2:(h1.new (.cells z .rw)).get h1.next=some (.cells z .rw):=z1g _ _
  by_cases eo:o=p
  · rw [decide_eq_true eo] at rs
    obtain ⟨T',r,u1,u2,u15,u16,u17⟩:∃ T',evC (callX E X (M+2)) 32 m none L_slices_EqualFunc_api_Out_api_Out_api_Out_api_Out_0 ⟨T,[],h⟩=some (.normal,⟨T',[],h3⟩)∧evO T' (.t 1)=.slice (some (q2,off2)) n2 d 2∧evO T' (.t 2)=.fn k_tx_sameOut [] []∧evO T' (.t 15)=.slice (some (q,off)) n c 2∧evO T' (.t 16)=.int .i64 (n:Int)∧evO T' (.t 17)=.int .i64 ((i+1:Nat):Int):=by
      exact ⟨_,by
        simp (config:={maxSteps:=2000000}) (disch:=first | omega | (simp only [List.length_cons,List.length_nil,List.length_append,List.length_drop]; omega)) only [L_slices_EqualFunc_api_Out_api_Out_api_Out_api_Out_0,ez,t1,t2,t15,t16,t17,gva,gvb,ld,lo2,s1,s2,q1,q2',l1,l2,eh1,eh2,g21,g22,rs,c0,wi,ix,ix2,List.nil_append,List.append_nil,↓z19,↓z1e,z1c,↓m_st,z2p,↓z2d,↓z2g,z23,z21,List.nil_append,↓z1p,↓zw,↓zy,↓z10,↓z15,↓zu,↓s_op,↓zf,zf,↓zd,zd,zk,↓zg,zg,zt,↓zb,↓zm,↓z17,↓z24,↓z26,↓z12,↓z1h,↓s_un,↓z3l,↓s_callV,zp,z1y,z2z,z4f,↓za,↓z9,za,z9,List.nil_append,List.append_nil,Nat.reduceEqDiff,decide_true,decide_false,Bool.not_true]
        exact rfl,(by (simp only [zb,zm,Nat.reduceEqDiff,decide_false,z9,t1]; try rfl)),(by (simp only [zb,zm,Nat.reduceEqDiff,decide_false,z9,t2]; try rfl)),(by (simp only [zb,zm,Nat.reduceEqDiff,decide_false,z9,t15]; try rfl)),(by (simp only [zb,zm,Nat.reduceEqDiff,decide_false,z9,t16]; try rfl)),(by (simp only [zb,decide_true,za]; try rfl))⟩
    exact ⟨T',h3,k02.trans k3,fun _=>⟨r,i1,by rw [en2]; exact u1,u2,by rw [en]; exact u15,by rw [en]; exact u16,u17,k02.trans k3⟩,fun h=>absurd eo h⟩
  · rw [decide_eq_false eo] at rs
    obtain ⟨T',r,u6⟩:∃ T',evC (callX E X (M+2)) 32 m none L_slices_EqualFunc_api_Out_api_Out_api_Out_api_Out_0 ⟨T,[],h⟩=some (.ret,⟨T',[],h3⟩)∧evO T' (.t 6)=.bool false:=by
      exact ⟨_,by
        simp (config:={maxSteps:=2000000}) (disch:=first | omega | (simp only [List.length_cons,List.length_nil,List.length_append,List.length_drop]; omega)) only [L_slices_EqualFunc_api_Out_api_Out_api_Out_api_Out_0,ez,t1,t2,t15,t16,t17,gva,gvb,ld,lo2,s1,s2,q1,q2',l1,l2,eh1,eh2,g21,g22,rs,c0,ix,ix2,List.nil_append,List.append_nil,↓z19,↓z1e,z1c,↓m_st,z2p,↓z2d,↓z2g,z23,z21,List.nil_append,↓z1p,↓zw,↓zy,↓z10,↓z15,↓z1t,↓zu,↓s_op,↓zf,zf,↓zd,zd,z1d,zk,↓zg,zg,z27,↓zb,↓zm,↓z17,↓z24,↓z26,↓z12,↓z1h,↓s_un,↓z3l,↓s_callV,zp,z1y,z4f,↓za,↓z9,za,z9,List.nil_append,List.append_nil,Nat.reduceEqDiff,decide_true,decide_false,Bool.not_false]
        exact rfl,(by (simp only [zb,decide_true,za]; try rfl))⟩
    exact ⟨T',h3,k02.trans k3,fun h=>absurd h eo,fun _=>⟨r,u6⟩⟩
theorem eqOut_go (ef:E k_slices_EqualFunc_api_Out_api_Out_api_Out_api_Out=some f_slices_EqualFunc_api_Out_api_Out_api_Out_api_Out) (xf:∀ a h,X (.fn k_slices_EqualFunc_api_Out_api_Out_api_Out_api_Out) a h=none) (M:Nat) (same:∀ (o p:OutQ) (ok:OutQ.ok o) (pk:OutQ.ok p) (P1 P2:List V) (h:H),OutC (fun j=>j<h.next) h o P1→OutC (fun j=>j<h.next) h p P2→∃ h',callX E X (M+2) (.fn k_tx_sameOut) [.agg P1,.agg P2] h=some (.bool (decide (o=p)),h')∧Kp h h') (as bs:List OutQ) (hn:as.length≤100000000) (hM:as.length<M) (hbn:bs.length<9223372036854775807) (ok:∀ o ∈ as,OutQ.ok o) (pk:∀ o ∈ bs,OutQ.ok o) (a b:Option (Nat × Nat)) (c d:Option Nat) (ea eb:Nat) (h:H) (ra:RowG (fun j=>j<h.next) 2 OutC h as a ea) (rb:RowG (fun j=>j<h.next) 2 OutC h bs b eb) :
    ∃ h',callX E X (M+2+1) (.fn k_slices_EqualFunc_api_Out_api_Out_api_Out_api_Out) [.slice a as.length c ea,.slice b bs.length d eb,.fn k_tx_sameOut [] []] h=some (.bool (decide (as=bs)),h')∧Kp h h':=by
  rw [z2c ef _ _ (Nat.le_of_ble_eq_true rfl) (xf _ _)]
  by_cases hl:as.length=bs.length
  · have fin:∀ T,EqOut (.slice a as.length c ea) (.slice b bs.length d eb) as.length h 0 T h→∃ h',fnEnd [.tmp 6] (bindE (blockE 0 (loopN (evC (callX E X (M+2)) 32 (M+2) none L_slices_EqualFunc_api_Out_api_Out_api_Out_api_Out_0) (M+2) ⟨T,[],h⟩)) (evC (callX E X (M+2)) 32 (M+2) none R_slices_EqualFunc_api_Out_api_Out_api_Out_api_Out_0))=some (.bool (decide (as=bs)),h')∧Kp h h':=by
      intro T I
      have get:∀ i,i<as.length→∃ o p,as[i]?=some o∧bs[i]?=some p:=fun i hi=>⟨_,_,List.getElem?_eq_getElem hi,List.getElem?_eq_getElem (by omega)⟩
      rcases eqL_or as bs hl with eab | ⟨j,o,p,h1,h2,h3,h4⟩
      · rw [decide_eq_true eab]
        obtain ⟨T',h',rr,kp⟩:=z22 (f:=evC (callX E X (M+2)) 32 (M+2) none L_slices_EqualFunc_api_Out_api_Out_api_Out_api_Out_0) (EqOut (.slice a as.length c ea) (.slice b bs.length d eb) as.length h) as.length (.exit 0) (by intro h; cases h) (fun _ h'=>Kp h h') (fun i T h' hi I=>by
          obtain ⟨o,p,ho,hp⟩:=get i hi
          obtain ⟨T',h2,_,q,_⟩:=z5n same (M+2) as bs hl hn ok pk a b c d ea eb h ra rb i T h' o p ho hp I
          rw [eab,hp] at ho
          cases ho
          exact ⟨T',h2,q rfl⟩) (fun T h' I=>by
          obtain ⟨il,t1,t2,t15,t16,t17,kp⟩:=I
          have c0:decide ((as.length:Int)<(as.length:Int))=false:=decide_eq_false (by omega)
          exact ⟨_,_,by
            simp (config:={maxSteps:=2000000}) (disch:=first | omega | (simp only [List.length_cons,List.length_nil,List.length_append,List.length_drop]; omega)) only [L_slices_EqualFunc_api_Out_api_Out_api_Out_api_Out_0,t16,t17,c0,↓zw,↓zy,↓z10,↓z2b,↓zu,↓s_op,↓zf,zf,↓zd,zd,z16,zk,↓zg,zg,↓zb,↓z1h,zp,z1y,↓za,↓z9,za,z9,decide_true]
            exact rfl,kp⟩) as.length 0 (by omega) (M+2) (by omega) T h I
        rw [rr]
        refine ⟨h',?_,kp⟩
        simp (config:={maxSteps:=2000000}) (disch:=first | omega | (simp only [List.length_cons,List.length_nil,List.length_append,List.length_drop]; omega)) only [R_slices_EqualFunc_api_Out_api_Out_api_Out_api_Out_0,zo,↓zw,↓zy,↓z1t,↓zu,↓s_op,↓zf,zf,↓zd,zd,zk,z1b,↓zb,↓z17,↓z12,z1x,zo,z1m,z1n,↓za,za,decide_true,if_true]
        try rfl
      · have hne:as≠bs:=fun e=>h3 (by rw [e,h2] at h1; cases h1; rfl)
        rw [decide_eq_false hne]
        have hj:j<as.length:=(List.getElem?_eq_some_iff.1 h1).1
        obtain ⟨T',h',rr,u6,kp⟩:=z22 (f:=evC (callX E X (M+2)) 32 (M+2) none L_slices_EqualFunc_api_Out_api_Out_api_Out_api_Out_0) (EqOut (.slice a as.length c ea) (.slice b bs.length d eb) as.length h) j .ret (by intro h; cases h) (fun T h'=>evO T (.t 6)=.bool false∧Kp h h') (fun i T h' hi I=>by
          obtain ⟨o,p,ho,hp⟩:=get i (by omega)
          obtain ⟨T',h2,_,q,_⟩:=z5n same (M+2) as bs hl hn ok pk a b c d ea eb h ra rb i T h' o p ho hp I
          exact ⟨T',h2,q (h4 i o p hi ho hp)⟩) (fun T h' I=>by
          obtain ⟨T',h2',k,_,q⟩:=z5n same (M+2) as bs hl hn ok pk a b c d ea eb h ra rb j T h' o p h1 h2 I
          obtain ⟨q1,q2⟩:=q h3
          exact ⟨T',h2',q1,q2,k⟩) j 0 (by omega) (M+2) (by omega) T h I
        rw [rr]
        refine ⟨h',?_,kp⟩
        simp (config:={maxSteps:=2000000}) (disch:=first | omega | (simp only [List.length_cons,List.length_nil,List.length_append,List.length_drop]; omega)) only [u6,zo,z1d,z27,z1x,zo,z1m,z1n]
        try rfl
    have c1:(!decide ((as.length:Int)=(bs.length:Int)))=false:=by rw [decide_eq_true (by omega)]; rfl
    obtain ⟨R,eR⟩:∃ R,R_slices_EqualFunc_api_Out_api_Out_api_Out_api_Out_0=R:=⟨_,rfl⟩
    obtain ⟨Lo,eL⟩:∃ R,L_slices_EqualFunc_api_Out_api_Out_api_Out_api_Out_0=R:=⟨_,rfl⟩
    rw [eR,eL] at fin ⊢
    obtain ⟨n,en⟩:∃ n,as.length=n:=⟨_,rfl⟩
    obtain ⟨n2,en2⟩:∃ n,bs.length=n:=⟨_,rfl⟩
    rw [en,en2] at c1 fin ⊢
    simp (config:={maxSteps:=2000000}) (disch:=first | omega | (simp only [List.length_cons,List.length_nil,List.length_append,List.length_drop]; omega)) only [c1,↓z1q,z18,Nat.zero_add,↓z2k,↓z2e,z18,↓z1q,Nat.reduceAdd,↓z1p,↓zw,↓zy,↓z10,↓z15,↓zu,↓s_op,↓zf,zf,↓zd,zd,zk,↓zg,zg,↓zb,↓z1s,↓z17,↓z11,↓z13,↓z12,↓z1h,zp,z3j,↓za,↓z9,za,z9,Nat.zero_add,Nat.reduceEqDiff,decide_true,decide_false]
    exact fin _ ⟨Nat.zero_le _,(by (simp only [zb,Nat.reduceEqDiff,decide_false,z9]; try rfl)),(by (simp only [zb,Nat.reduceEqDiff,decide_false,z9]; try rfl)),(by (simp only [zb,Nat.reduceEqDiff,decide_false,decide_true,z9,za]; try rfl)),(by (simp only [zb,Nat.reduceEqDiff,decide_false,decide_true,z9,za]; try rfl)),(by (simp only [zb,decide_true,za]; try rfl)),Kp.refl _⟩
  · rw [decide_eq_false (fun e=>hl (by rw [e]))]
    have c1:(!decide ((as.length:Int)=(bs.length:Int)))=true:=by rw [decide_eq_false (by omega)]; rfl
    refine ⟨h,?_,Kp.refl _⟩
    obtain ⟨Lo,eL⟩:∃ R,L_slices_EqualFunc_api_Out_api_Out_api_Out_api_Out_0=R:=⟨_,rfl⟩
    rw [eL]
    generalize as.length=n at *
    generalize bs.length=n2 at *
    simp (config:={maxSteps:=2000000}) (disch:=first | omega | (simp only [List.length_cons,List.length_nil,List.length_append,List.length_drop]; omega)) only [c1,↓z1q,z18,Nat.zero_add,z18,↓z1q,Nat.reduceAdd,zo,↓zw,↓zy,↓z10,↓z1t,↓zu,↓s_op,↓zf,zf,↓zd,zd,z1d,zk,↓zg,zg,↓zb,↓z1s,↓z17,↓z11,↓z13,↓z12,↓z1h,zp,z3j,z1x,zo,z1m,z1n,↓za,↓z9,za,z9,Nat.zero_add,Nat.reduceEqDiff,decide_true,decide_false]
    try rfl
theorem eqAll_cat2:∀ (l:List Lf) (a b:List V),l.length=a.length→l.length=b.length→∀ (l':List Lf) (a' b':List V) (x y:Bool),eqAll l a b=some x→eqAll l' a' b'=some y→eqAll (l++l') (a++a') (b++b')=some (x && y):=by
  intro l
  induction l with
  | nil =>
    intro a b ha hb l' a' b' x y h1 h2
    cases a with
    | cons=>cases ha
    | nil=>cases b with
      | cons=>cases hb
      | nil =>
        simp only [eqAll,Option.some.injEq] at h1
        subst h1
        simpa using h2
  | cons k ks ih =>
    intro a b ha hb l' a' b' x y h1 h2
    cases a with
    | nil=>cases ha
    | cons u r=>cases b with
      | nil=>cases hb
      | cons v w =>
        simp only [eqAll,List.cons_append] at h1 ⊢
        cases hk:eqLf k u v with
        | none=>rw [hk] at h1; cases h1
        | some p =>
          cases hr:eqAll ks r w with
          | none=>simp only [hk,hr] at h1; cases h1
          | some q =>
            simp only [hk,hr,Option.some.injEq] at h1
            subst h1
            rw [ih r w (by simpa using ha) (by simpa using hb) l' a' b' q y hr h2]
            simp only [Bool.and_assoc]
def opV (tx:List Nat) (n:Nat):V:=.agg (ofI .u8 tx++[.int .u32 (n:Int)])
theorem eq33 (h:H) (a b:List Nat) (m n:Nat) (ha:a.length=32) (hb:b.length=32):binV .eql (.flat [.i,.i,.i,.i,.i,.i,.i,.i,.i,.i,.i,.i,.i,.i,.i,.i,.i,.i,.i,.i,.i,.i,.i,.i,.i,.i,.i,.i,.i,.i,.i,.i,.i]) h (opV a m) (opV b n)=some (.bool (decide (a=b) && decide (m=n))):=by
  have e1:=eqAll_I .u8 a b L32 (by rw [ha]; rfl) (by omega)
  have e2:eqAll [Lf.i] [.int .u32 (m:Int)] [.int .u32 (n:Int)]=some (decide (m=n)):=by
    simp only [eqAll,eqLf,z2l,_root_.cond_true,z5l,Bool.and_true,Int.natCast_inj]
  have:=eqAll_cat2 L32 _ _ (by rw [z1a,ha]; rfl) (by rw [z1a,hb]; rfl) _ _ _ _ _ e1 e2
  show (match eqAll (L32++[.i]) (ofI .u8 a++[.int .u32 (m:Int)]) (ofI .u8 b++[.int .u32 (n:Int)]) with | some b=>some (V.bool b) | none=>none)=_
  rw [this]
theorem inV_ld33 (o:InQ) (b:Option (Nat × Nat)) (cb:Option Nat) (eb:Nat) (l:o.tx.length=32) (m:Md):loadE (some (.cells (inV o b cb eb) m)) (some 33) 0=some (opV o.tx o.n):=by
  rw [z3n,z39 _ _ _ (by rw [z5k o b cb eb l]; omega),List.drop_zero]
  unfold inV opV
  rw [show (ofI .u8 o.tx++[.int .u32 (o.n:Int),.slice b o.l.length cb eb,.int .u32 (o.q:Int)])=(ofI .u8 o.tx++[.int .u32 (o.n:Int)])++[.slice b o.l.length cb eb,.int .u32 (o.q:Int)] by simp,List.take_left' (by rw [List.length_append,z1a,l]; rfl)]
structure EnTs (E:Nat→Option Fn):Prop where
  sa:E k_tx_Same=some f_tx_Same
  si:E k_tx_sameIn=some f_tx_sameIn
  so:E k_tx_sameOut=some f_tx_sameOut
  be:E k_bytes_Equal=some f_bytes_Equal
  ei:E k_slices_EqualFunc_api_In_api_In_api_In_api_In=some f_slices_EqualFunc_api_In_api_In_api_In_api_In
  eo:E k_slices_EqualFunc_api_Out_api_Out_api_Out_api_Out=some f_slices_EqualFunc_api_Out_api_Out_api_Out_api_Out
structure NoTs (X:Orc):Prop where
  sa:∀ a h,X (.fn k_tx_Same) a h=none
  si:∀ a h,X (.fn k_tx_sameIn) a h=none
  so:∀ a h,X (.fn k_tx_sameOut) a h=none
  be:∀ a h,X (.fn k_bytes_Equal) a h=none
  ei:∀ a h,X (.fn k_slices_EqualFunc_api_In_api_In_api_In_api_In) a h=none
  eo:∀ a h,X (.fn k_slices_EqualFunc_api_Out_api_Out_api_Out_api_Out) a h=none
theorem z8o (e:EnTs E) (x:NoTs X) (N:Nat) (l m:List Nat) (bl:byt l=true) (bm:byt m=true) (a b:Option (Nat × Nat)) (c d:Option Nat) (ea eb:Nat) (h:H) (sl:SrcH h a ea l) (sm:SrcH h b eb m) :
    callX E X (N+1) (.fn k_bytes_Equal) [.slice a l.length c ea,.slice b m.length d eb] h=some (.bool (decide (l=m)),h):=by
  rw [z2c e.be _ _ (Nat.le_of_ble_eq_true rfl) (x.be _ _)]
  have s1:=z5o sl bl c
  have s2:=z5o sm bm d
  generalize l.length=n at *
  generalize m.length=k at *
  simp (config:={maxSteps:=2000000}) (disch:=first | omega | (simp only [List.length_cons,List.length_nil,List.length_append,List.length_drop]; omega)) only [s1,s2,b_seq,↓ns_b2s,Nat.zero_add,zo,↓zw,↓zy,↓z1t,↓zu,↓s_op,↓zf,zf,↓zd,zd,zk,↓zb,↓z1s,↓z17,↓z11,↓z13,↓z12,↓z1h,zp,z1x,zo,z1m,z1n,↓za,↓z9,za,z9,Nat.zero_add,Nat.reduceEqDiff,decide_true,decide_false]
theorem samein_go (e:EnTs E) (x:NoTs X) (N:Nat) (o p:InQ) (ok:o.ok) (pk:p.ok) (P1 P2:List V) (h:H) (c1:InC (fun j=>j<h.next) h o P1) (c2:InC (fun j=>j<h.next) h p P2) :
    ∃ h',callX E X (N+2) (.fn k_tx_sameIn) [.agg P1,.agg P2] h=some (.bool (decide (o=p)),h')∧Kp h h':=by
  rw [z2c e.si _ _ (Nat.le_of_ble_eq_true rfl) (x.si _ _)]
  obtain ⟨a,ca1,ea,eP1,s1,l1⟩:=c1
  obtain ⟨b,cb1,eb,eP2,s2,l2⟩:=c2
  have ca:∀ l:List V,(V.agg l).cells=l:=fun _=>rfl
  obtain ⟨hA,eA⟩:∃ hA,(h.new (.cells P1 .rw)).new (.cells P2 .rw)=hA:=⟨_,rfl⟩
  have kA:Kp h hA:=by rw [← eA]; (repeat (first | exact Kp.refl _ | refine Kp.put ?_ _ (by first | omega | (simp only [zr,zh,zq]; omega)) | refine Kp.del ?_ (by first | omega | (simp only [zr,zh,zq]; omega)) | refine Kp.trans ?_ (Kp.new _ _)))
  have g1:hA.get h.next=some (.cells P1 .rw):=by rw [← eA]; (simp (disch:=omega) only [z19,zh,Nat.add_eq_left,decide_true,decide_false,za,z9,reduceCtorEq,]; try rfl)
  have g2:hA.get (h.next+1)=some (.cells P2 .rw):=by rw [← eA]; (simp (disch:=omega) only [z19,zh,decide_true,za,]; try rfl)
  refine ⟨hA,?_,kA⟩
  have rb:=z8o e x N o.l p.l ok.bl pk.bl a b ca1 cb1 ea eb hA (s1.src.mono kA) (s2.src.mono kA)
  have L1:=inV_ld33 o a ca1 ea l1 .rw
  have L2:=inV_ld33 p b cb1 eb l2 .rw
  obtain ⟨_,n1,q1⟩:=inV_n o a ca1 ea l1
  obtain ⟨_,n2,q2⟩:=inV_n p b cb1 eb l2
  rw [← eP1] at L1 n1 q1
  rw [← eP2] at L2 n2 q2
  have e3:=fun h=>eq33 h o.tx p.tx o.n p.n l1 l2
  have ed:decide (o=p)=((decide (o.tx=p.tx) && decide (o.n=p.n)) && decide (o.q=p.q) && decide (o.l=p.l)):=by
    rw [Bool.eq_iff_iff]
    simp only [Bool.and_eq_true,decide_eq_true_eq]
    constructor
    · rintro rfl; exact ⟨⟨⟨rfl,rfl⟩,rfl⟩,rfl⟩
    · cases o; cases p; simp; intro a b c d; exact ⟨a,b,d,c⟩
  have eq2:decide ((o.q:Int)=(p.q:Int))=decide (o.q=p.q):=by rw [decide_eq_decide]; omega
  rw [ed]
  generalize decide (o.l=p.l)=dl at *
  obtain ⟨dn,edn⟩:∃ d,(decide (o.tx=p.tx) && decide (o.n=p.n))=d:=⟨_,rfl⟩
  rw [edn] at e3 ⊢
  generalize opV o.tx o.n=O1 at *
  generalize opV p.tx p.n=O2 at *
  generalize o.l.length=n at *
  generalize p.l.length=k at *
  cases hq:decide (o.q=p.q) with
  | true =>
    rw [hq] at eq2
    cases dn with
    | true=>simp (config:={maxSteps:=2000000}) (disch:=first | omega | (simp only [List.length_cons,List.length_nil,List.length_append,List.length_drop]; omega)) only [ca,eA,g1,g2,rb,L1,L2,n1,n2,q1,q2,e3,eq2,↓z2x,↓zn,z14,Nat.zero_add,Nat.add_zero,Nat.add_zero,Bool.and_self,Bool.true_and,zh,↓z1e,z1c,↓zj,zj,zo,↓zw,↓zy,↓z1t,↓zu,↓s_op,↓z33,↓z1r,↓z1i,z1i,↓zf,zf,↓zd,zd,zk,↓zb,↓z1s,↓z17,↓z24,↓z26,↓z11,↓z13,↓z12,↓z2m,↓z1j,z1j,↓z1h,↓z1z,zp,z5q,z1x,zo,z1m,z1n,↓za,↓z9,za,z9,Nat.zero_add,Nat.reduceEqDiff,decide_true,decide_false,beq_self_eq_true]; try rfl
    | false=>simp (config:={maxSteps:=2000000}) (disch:=first | omega | (simp only [List.length_cons,List.length_nil,List.length_append,List.length_drop]; omega)) only [ca,eA,g1,g2,L1,L2,e3,↓z2x,↓zn,z14,Nat.zero_add,Nat.add_zero,Nat.add_zero,Bool.and_true,zh,↓z1e,z1c,zo,↓zw,↓zy,↓z1t,↓zu,↓s_op,↓z33,↓z1r,↓z1i,z1i,beq_true,↓zf,zf,↓zd,zd,zk,↓zb,↓z1s,↓z17,↓z11,↓z13,↓z12,↓z2m,↓z1j,z1j,↓z1h,zp,z1x,zo,z1m,z1n,↓za,↓z9,za,z9,Nat.zero_add,Nat.reduceEqDiff,decide_true,decide_false]; try rfl
  | false =>
    rw [hq] at eq2
    cases dn with
    | true=>simp (config:={maxSteps:=2000000}) (disch:=first | omega | (simp only [List.length_cons,List.length_nil,List.length_append,List.length_drop]; omega)) only [ca,eA,g1,g2,L1,L2,q1,q2,e3,eq2,↓z2x,↓zn,z14,Nat.zero_add,Nat.add_zero,Nat.add_zero,Bool.true_and,zh,↓z1e,z1c,↓zj,zj,zo,↓zw,↓zy,↓z1t,↓zu,↓s_op,↓z33,↓z1r,↓z1i,z1i,beq_true,↓zf,zf,↓zd,zd,zk,↓zb,↓z1s,↓z17,↓z11,↓z13,↓z12,↓z2m,↓z1j,z1j,↓z1h,zp,z5q,z1x,zo,z1m,z1n,↓za,↓z9,za,z9,Nat.zero_add,Nat.reduceEqDiff,decide_true,decide_false,beq_self_eq_true]; try rfl
    | false=>simp (config:={maxSteps:=2000000}) (disch:=first | omega | (simp only [List.length_cons,List.length_nil,List.length_append,List.length_drop]; omega)) only [ca,eA,g1,g2,L1,L2,e3,↓z2x,↓zn,z14,Nat.zero_add,Nat.add_zero,Nat.add_zero,Bool.and_self,zh,↓z1e,z1c,zo,↓zw,↓zy,↓z1t,↓zu,↓s_op,↓z33,↓z1r,↓z1i,z1i,beq_true,↓zf,zf,↓zd,zd,zk,↓zb,↓z1s,↓z17,↓z11,↓z13,↓z12,↓z2m,↓z1j,z1j,↓z1h,zp,z1x,zo,z1m,z1n,↓za,↓z9,za,z9,Nat.zero_add,Nat.reduceEqDiff,decide_true,decide_false]; try rfl
theorem sameout_go (e:EnTs E) (x:NoTs X) (N:Nat) (o p:OutQ) (ok:o.ok) (pk:p.ok) (P1 P2:List V) (h:H) (c1:OutC (fun j=>j<h.next) h o P1) (c2:OutC (fun j=>j<h.next) h p P2) :
    ∃ h',callX E X (N+2) (.fn k_tx_sameOut) [.agg P1,.agg P2] h=some (.bool (decide (o=p)),h')∧Kp h h':=by
  rw [z2c e.so _ _ (Nat.le_of_ble_eq_true rfl) (x.so _ _)]
  obtain ⟨a,ca1,ea,rfl,s1⟩:=c1
  obtain ⟨b,cb1,eb,rfl,s2⟩:=c2
  have ca:∀ l:List V,(V.agg l).cells=l:=fun _=>rfl
  obtain ⟨hA,eA⟩:∃ hA,(h.new (.cells [.int .i64 o.v,.slice a o.l.length ca1 ea] .rw)).new (.cells [.int .i64 p.v,.slice b p.l.length cb1 eb] .rw)=hA:=⟨_,rfl⟩
  have kA:Kp h hA:=by rw [← eA]; (repeat (first | exact Kp.refl _ | refine Kp.put ?_ _ (by first | omega | (simp only [zr,zh,zq]; omega)) | refine Kp.del ?_ (by first | omega | (simp only [zr,zh,zq]; omega)) | refine Kp.trans ?_ (Kp.new _ _)))
  have g1:hA.get h.next=some (.cells [.int .i64 o.v,.slice a o.l.length ca1 ea] .rw):=by rw [← eA]; (simp (disch:=omega) only [z19,zh,Nat.add_eq_left,decide_true,decide_false,za,z9,reduceCtorEq,]; try rfl)
  have g2:hA.get (h.next+1)=some (.cells [.int .i64 p.v,.slice b p.l.length cb1 eb] .rw):=by rw [← eA]; (simp (disch:=omega) only [z19,zh,decide_true,za,]; try rfl)
  refine ⟨hA,?_,kA⟩
  have rb:=z8o e x N o.l p.l ok.bl pk.bl a b ca1 cb1 ea eb hA (s1.src.mono kA) (s2.src.mono kA)
  have ed:decide (o=p)=(decide (o.v=p.v) && decide (o.l=p.l)):=by
    rw [Bool.eq_iff_iff]
    simp only [Bool.and_eq_true,decide_eq_true_eq]
    constructor
    · rintro rfl; exact ⟨rfl,rfl⟩
    · cases o; cases p; simp
  rw [ed]
  generalize decide (o.l=p.l)=dl at *
  generalize o.l.length=n at *
  generalize p.l.length=k at *
  cases hq:decide (o.v=p.v) with
  | true=>simp (config:={maxSteps:=2000000}) (disch:=first | omega | (simp only [List.length_cons,List.length_nil,List.length_append,List.length_drop]; omega)) only [ca,eA,g1,g2,rb,hq,↓z2x,↓zn,z14,Nat.zero_add,Nat.add_zero,Nat.add_zero,Bool.true_and,zh,↓z1e,z1c,↓zj,zj,zo,↓zw,↓zy,↓z1t,↓zu,↓s_op,↓z33,↓z1r,↓z1i,z1i,↓zf,zf,↓zd,zd,zk,↓zb,↓z1s,↓z17,↓z24,↓z26,↓z11,↓z13,↓z12,↓z2m,↓z1j,z1j,↓z1h,↓z1z,zp,z5q,z1x,zo,z1m,z1n,↓za,↓z9,za,z9,Nat.zero_add,Nat.reduceEqDiff,decide_true,decide_false,List.getElem?_cons_zero,List.getElem?_cons_succ,beq_self_eq_true]; try rfl
  | false=>simp (config:={maxSteps:=2000000}) (disch:=first | omega | (simp only [List.length_cons,List.length_nil,List.length_append,List.length_drop]; omega)) only [ca,eA,g1,g2,hq,↓z2x,↓zn,z14,Nat.zero_add,Nat.add_zero,Nat.add_zero,zh,↓z1e,z1c,↓zj,zj,zo,↓zw,↓zy,↓z1t,↓zu,↓s_op,↓z33,↓z1r,↓z1i,z1i,beq_true,↓zf,zf,↓zd,zd,zk,↓zb,↓z1s,↓z17,↓z11,↓z13,↓z12,↓z2m,↓z1j,z1j,↓z1h,zp,z5q,z1x,zo,z1m,z1n,↓za,↓z9,za,z9,Nat.zero_add,Nat.reduceEqDiff,decide_true,decide_false,List.getElem?_cons_zero]; try rfl
def txV (t:TxQ) (a b:Option (Nat × Nat)) (ca cb:Option Nat) (ea eb:Nat):List V:=[.int .u32 (t.ver:Int),.slice a t.ins.length ca ea,.slice b t.outs.length cb eb,.int .u32 (t.lock:Int)]
instance:DecidableEq TxQ:=fun a b=>decidable_of_iff (a.ver=b.ver∧a.lock=b.lock∧a.ins=b.ins∧a.outs=b.outs) (by cases a; cases b; simp; intro _; constructor <;> intro h <;> simp_all)
def TxC (S:Nat→Prop) (h:H) (t:TxQ) (p:List V):Prop:=∃ a b ca cb ea eb,p=txV t a b ca cb ea eb∧RowG S 35 InC h t.ins a ea∧RowG S 2 OutC h t.outs b eb
theorem TxC.mono {S S':Nat→Prop} {h h':H} {t:TxQ} {p:List V} (r:TxC S h t p) (hn:h.next≤h'.next) (k:∀ j,S j→h'.get j=h.get j) (w:∀ j,S j→S' j):TxC S' h' t p:=by
  obtain ⟨a,b,ca,cb,ea,eb,e,ra,rb⟩:=r
  exact ⟨a,b,ca,cb,ea,eb,e,ra.mono hn k w (fun o p r=>r.mono hn k w),rb.mono hn k w (fun o p r=>r.mono hn k w)⟩
theorem TxC.kp {h h':H} {t:TxQ} {p:List V} (r:TxC (fun j=>j<h.next) h t p) (k:Kp h h'):TxC (fun j=>j<h'.next) h' t p :=
  r.mono k.1 k.2 (fun j hj=>by have:=k.1; have:j<h.next:=hj; show j<h'.next; omega)
theorem TxC.fit {S:Nat→Prop} {h:H} {t:TxQ} {p:List V} (r:TxC S h t p):Fit 4 p:=by
  obtain ⟨a,b,ca,cb,ea,eb,rfl,_⟩:=r
  exact ⟨rfl,rfl⟩
theorem txsame_go (e:EnTs E) (x:NoTs X) (M:Nat) (hM:1000<M) (t u:TxQ) (ok:t.ok) (uk:u.ok) (lt:t.ins.length≤900∧t.outs.length≤900) (lu:u.ins.length<9223372036854775807∧u.outs.length<9223372036854775807) (P1 P2:List V) (h:H) (c1:TxC (fun j=>j<h.next) h t P1) (c2:TxC (fun j=>j<h.next) h u P2) :
    ∃ h',callX E X (M+4) (.fn k_tx_Same) [.agg P1,.agg P2] h=some (.bool (decide (t=u)),h')∧Kp h h':=by
  rw [z2c e.sa _ _ (Nat.le_of_ble_eq_true rfl) (x.sa _ _)]
  have ca':∀ l:List V,(V.agg l).cells=l:=fun _=>rfl
  obtain ⟨hA,eA⟩:∃ hA,(h.new (.cells P1 .rw)).new (.cells P2 .rw)=hA:=⟨_,rfl⟩
  have kA:Kp h hA:=by rw [← eA]; (repeat (first | exact Kp.refl _ | refine Kp.put ?_ _ (by first | omega | (simp only [zr,zh,zq]; omega)) | refine Kp.del ?_ (by first | omega | (simp only [zr,zh,zq]; omega)) | refine Kp.trans ?_ (Kp.new _ _)))
  have kn:=kA.1
  have nA:hA.next=h.next+2:=by rw [← eA]; rfl
  have g1:hA.get h.next=some (.cells P1 .rw):=by rw [← eA]; (simp (disch:=omega) only [z19,zh,Nat.add_eq_left,decide_true,decide_false,za,z9,reduceCtorEq,]; try rfl)
  have g2:hA.get (h.next+1)=some (.cells P2 .rw):=by rw [← eA]; (simp (disch:=omega) only [z19,zh,decide_true,za,]; try rfl)
  obtain ⟨a,b,ca,cb,ea,eb,eP1,ra,rb⟩:=c1.kp kA
  obtain ⟨a2,b2,ca2,cb2,ea2,eb2,eP2,ra2,rb2⟩:=c2.kp kA
  obtain ⟨hB,rI,kB⟩:=eqIn_go e.ei x.ei M (fun o p ok pk P1 P2 h c1 c2=>samein_go e x M o p ok pk P1 P2 h c1 c2) t.ins u.ins (by omega) (by omega) lu.1 ok.io uk.io a a2 ca ca2 ea ea2 hA ra ra2
  have knB:=kB.1
  have sW:∀ j,j<hA.next→j<hB.next:=fun j hj=>by omega
  obtain ⟨hC,rO,kC⟩:=eqOut_go e.eo x.eo M (fun o p ok pk P1 P2 h c1 c2=>sameout_go e x M o p ok pk P1 P2 h c1 c2) t.outs u.outs (by omega) (by omega) lu.2 ok.oo uk.oo b b2 cb cb2 eb eb2 hB (rb.mono kB.1 kB.2 sW (fun o p r=>r.mono kB.1 kB.2 sW)) (rb2.mono kB.1 kB.2 sW (fun o p r=>r.mono kB.1 kB.2 sW))
  replace rI:callX E X (M+3) _ _ hA=_:=rI
  replace rO:callX E X (M+3) _ _ hB=_:=rO
  have g1B:hB.get h.next=some (.cells P1 .rw):=by rw [kB.2 _ (by omega),g1]
  have g2B:hB.get (h.next+1)=some (.cells P2 .rw):=by rw [kB.2 _ (by omega),g2]
  have ed:decide (t=u)=(decide (t.ver=u.ver) && decide (t.lock=u.lock) && decide (t.ins=u.ins) && decide (t.outs=u.outs)):=by
    rw [Bool.eq_iff_iff]
    simp only [Bool.and_eq_true,decide_eq_true_eq]
    constructor
    · rintro rfl; exact ⟨⟨⟨rfl,rfl⟩,rfl⟩,rfl⟩
    · cases t; cases u; simp; intro a b c d; exact ⟨a,c,d,b⟩
  have ev:decide ((t.ver:Int)=(u.ver:Int))=decide (t.ver=u.ver):=by rw [decide_eq_decide]; omega
  have ek:decide ((t.lock:Int)=(u.lock:Int))=decide (t.lock=u.lock):=by rw [decide_eq_decide]; omega
  rw [ed]
  unfold txV at eP1 eP2
  generalize decide (t.ins=u.ins)=dI at *
  generalize decide (t.outs=u.outs)=dO at *
  generalize decide (t.ver=u.ver)=dV at *
  generalize decide (t.lock=u.lock)=dL at *
  generalize t.ins.length=n1 at *
  generalize t.outs.length=n2 at *
  generalize u.ins.length=n3 at *
  generalize u.outs.length=n4 at *
  rw [eP1] at g1 g1B eA
  rw [eP2] at g2 g2B eA
  rw [eP1,eP2]
  cases dV with
  | false=>exact ⟨hA,by simp (config:={maxSteps:=2000000}) (disch:=first | omega | (simp only [List.length_cons,List.length_nil,List.length_append,List.length_drop]; omega)) only [ca',eA,g1,g2,ev,↓z2x,↓zn,z14,Nat.zero_add,Nat.add_zero,Nat.add_zero,zh,↓z1e,z1c,↓zj,zj,zo,↓zw,↓zy,↓z1t,↓zu,↓s_op,↓z33,↓z1r,↓z1i,z1i,beq_true,↓zf,zf,↓zd,zd,zk,↓zb,↓z1s,↓z17,↓z11,↓z13,↓z12,↓z2m,↓z1j,z1j,↓z1h,zp,z5q,z1x,zo,z1m,z1n,↓za,↓z9,za,z9,Nat.zero_add,Nat.reduceEqDiff,decide_true,decide_false,List.getElem?_cons_zero]; try rfl,kA⟩
  | true =>
  cases dL with
  | false=>exact ⟨hA,by simp (config:={maxSteps:=2000000}) (disch:=first | omega | (simp only [List.length_cons,List.length_nil,List.length_append,List.length_drop]; omega)) only [ca',eA,g1,g2,ev,ek,↓z2x,↓zn,z14,Nat.zero_add,Nat.add_zero,Nat.add_zero,Bool.true_and,zh,↓z1e,z1c,↓zj,zj,zo,↓zw,↓zy,↓z1t,↓zu,↓s_op,↓z33,↓z1r,↓z1i,z1i,beq_true,↓zf,zf,↓zd,zd,zk,↓zb,↓z1s,↓z17,↓z11,↓z13,↓z12,↓z2m,↓z1j,z1j,↓z1h,zp,z5q,z1x,zo,z1m,z1n,↓za,↓z9,za,z9,Nat.zero_add,Nat.reduceEqDiff,decide_true,decide_false,List.getElem?_cons_zero,List.getElem?_cons_succ,beq_self_eq_true]; try rfl,kA⟩
  | true =>
  cases dI with
  | false=>exact ⟨hB,by simp (config:={maxSteps:=2000000}) (disch:=first | omega | (simp only [List.length_cons,List.length_nil,List.length_append,List.length_drop]; omega)) only [ca',eA,g1,g2,ev,ek,rI,↓z2x,↓zn,z14,Nat.zero_add,Nat.add_zero,Nat.add_zero,Bool.and_self,Bool.true_and,zh,↓z1e,z1c,↓zj,zj,zo,↓zw,↓zy,↓z1t,↓zu,↓s_op,↓z33,↓z1r,↓z1i,z1i,beq_true,↓zf,zf,↓zd,zd,zk,↓zb,↓z1s,↓z17,↓s_fn,↓z24,↓z26,↓z11,↓z13,↓z12,↓z2m,↓z1j,z1j,↓z1h,↓z1z,zp,z5q,z1x,zo,z1m,z1n,↓za,↓z9,za,z9,Nat.zero_add,Nat.reduceEqDiff,decide_true,decide_false,List.getElem?_cons_zero,List.getElem?_cons_succ,beq_self_eq_true]; try rfl,kA.trans kB⟩
  | true=>exact ⟨hC,by simp (config:={maxSteps:=2000000}) (disch:=first | omega | (simp only [List.length_cons,List.length_nil,List.length_append,List.length_drop]; omega)) only [ca',eA,g1,g2,g1B,g2B,ev,ek,rI,rO,↓z2x,↓zn,z14,Nat.zero_add,Nat.add_zero,Nat.add_zero,Bool.and_self,Bool.true_and,zh,↓z1e,z1c,↓zj,zj,zo,↓zw,↓zy,↓z1t,↓zu,↓s_op,↓z33,↓z1r,↓z1i,z1i,↓zf,zf,↓zd,zd,zk,↓zb,↓z1s,↓z17,↓s_fn,↓z24,↓z26,↓z11,↓z13,↓z12,↓z2m,↓z1j,z1j,↓z1h,↓z1z,zp,z5q,z1x,zo,z1m,z1n,↓za,↓z9,za,z9,Nat.zero_add,Nat.reduceEqDiff,decide_true,decide_false,List.getElem?_cons_zero,List.getElem?_cons_succ,beq_self_eq_true]; try rfl,(kA.trans kB).trans kC⟩
structure ItA {α:Type} (sz:Nat) (A:(Nat→Prop)→H→α→List V→Prop):Prop where
  mono:∀ {S S':Nat→Prop} {h h':H} {o:α} {p:List V},A S h o p→h.next≤h'.next→(∀ j,S j→j<h.next→h'.get j=h.get j)→(∀ j,S j→j<h.next→S' j)→A S' h' o p
  fit:∀ {S:Nat→Prop} {h:H} {o:α} {p:List V},A S h o p→Fit sz p
theorem SrcS.mono2 {S S':Nat→Prop} {h h':H} {a:Option (Nat × Nat)} {e:Nat} {l:List Nat} (s:SrcS S h a e l) (hn:h.next≤h'.next) (k:∀ j,S j→j<h.next→h'.get j=h.get j) (w:∀ j,S j→j<h.next→S' j):SrcS S' h' a e l:=by
  rcases s with s | ⟨bi,off,vs,m,e1,e2,hk,hb,g,hl,hv⟩
  · exact .inl s
  · exact .inr ⟨bi,off,vs,m,e1,e2,w _ hk hb,by omega,by rw [k _ hk hb,g],hl,hv⟩
theorem RowG.mono2 {α:Type} {S S':Nat→Prop} {sz:Nat} {A:(Nat→Prop)→H→α→List V→Prop} (it:ItA sz A) {h h':H} {ops:List α} {a:Option (Nat × Nat)} {e:Nat} (r:RowG S sz A h ops a e) (hn:h.next≤h'.next) (k:∀ j,S j→j<h.next→h'.get j=h.get j) (w:∀ j,S j→j<h.next→S' j):RowG S' sz A h' ops a e:=by
  rcases r with r | ⟨q,off,vs,md,e1,e2,hs,hq,g,hl,at_⟩
  · exact .inl r
  · exact .inr ⟨q,off,vs,md,e1,e2,w _ hs hq,by omega,by rw [k _ hs hq,g],hl,fun i o ho=>it.mono (at_ i o ho) hn k w⟩
theorem itIn:ItA 35 InC:=⟨fun r hn k w=>by
  obtain ⟨b,cb,eb,e,s,l⟩:=r
  exact ⟨b,cb,eb,e,s.mono2 hn k w,l⟩,fun r=>r.fit⟩
theorem z4o:ItA 2 OutC:=⟨fun r hn k w=>by
  obtain ⟨b,cb,eb,e,s⟩:=r
  exact ⟨b,cb,eb,e,s.mono2 hn k w⟩,fun r=>r.fit⟩
theorem itTx:ItA 4 TxC:=⟨fun r hn k w=>by
  obtain ⟨a,b,ca,cb,ea,eb,e,ra,rb⟩:=r
  exact ⟨a,b,ca,cb,ea,eb,e,ra.mono2 itIn hn k w,rb.mono2 z4o hn k w⟩,fun r=>r.fit⟩
def RowF {α:Type} (K:Nat→Prop) (lo sz:Nat) (A:(Nat→Prop)→H→α→List V→Prop) (h:H) (ops:List α) (a:Option (Nat × Nat)) (c:Option Nat) (e:Nat):Prop:=(ops=[]∧a=none∧c=some 0∧e=0)∨(0<ops.length∧∃ q md parts,a=some (q,0)∧c=none∧e=sz∧h.get q=some (.cells parts.flatten md)∧Al2 (A (fun j=>K j∧j≠q) h) ops parts∧isRo md=false∧lo≤q∧q<h.next)
theorem RowF.nil {α:Type} (K:Nat→Prop) (lo sz:Nat) (A:(Nat→Prop)→H→α→List V→Prop) (h:H):RowF K lo sz A h [] none (some 0) 0:=.inl ⟨rfl,rfl,rfl,rfl⟩
theorem RowF.mono {α:Type} {K:Nat→Prop} {lo sz:Nat} {A:(Nat→Prop)→H→α→List V→Prop} (it:ItA sz A) {h h':H} {ops:List α} {a:Option (Nat × Nat)} {c:Option Nat} {e:Nat} (r:RowF K lo sz A h ops a c e) (hn:h.next≤h'.next) (k:∀ i,K i→i<h.next→h'.get i=h.get i) (kl:∀ q o,a=some (q,o)→h'.get q=h.get q):RowF K lo sz A h' ops a c e:=by
  rcases r with r | ⟨h1,q,md,ps,e1,e2,e3,g,al,hm,hl,hq⟩
  · exact .inl r
  · exact .inr ⟨h1,q,md,ps,e1,e2,e3,by rw [kl _ _ e1,g],al.imp (fun _ _ x=>it.mono x hn (fun i hk hi=>k i hk.1 hi) (fun _ h _=>h)),hm,hl,by omega⟩
theorem RowF.lt {α:Type} {K:Nat→Prop} {lo sz:Nat} {A:(Nat→Prop)→H→α→List V→Prop} {h:H} {ops:List α} {a:Option (Nat × Nat)} {c:Option Nat} {e:Nat} (r:RowF K lo sz A h ops a c e) {q z:Nat} (ea:a=some (q,z)):lo≤q∧q<h.next∧z=0:=by
  rcases r with ⟨_,h1,_⟩ | ⟨_,q',_,_,h1,_,_,_,_,_,hl,hq⟩
  · rw [h1] at ea; cases ea
  · rw [h1] at ea; cases ea; exact ⟨hl,hq,rfl⟩
theorem it_len {α:Type} {sz:Nat} {A:(Nat→Prop)→H→α→List V→Prop} (it:ItA sz A) {S:Nat→Prop} {h:H} {ops:List α} {parts:List (List V)} (al:Al2 (A S h) ops parts):∀ p ∈ parts,p.length=sz:=by
  induction al with
  | nil=>intro p hp; cases hp
  | cons h1 _ ih => intro p hp; rcases List.mem_cons.1 hp with rfl | hp
                    · exact (it.fit h1).1
                    · exact ih p hp
theorem RowF.row {α:Type} {K:Nat→Prop} {lo sz:Nat} {A:(Nat→Prop)→H→α→List V→Prop} (it:ItA sz A) {h:H} {ops:List α} {a:Option (Nat × Nat)} {c:Option Nat} {e:Nat} (r:RowF K lo sz A h ops a c e):RowG (fun j=>K j∨lo≤j) sz A h ops a e:=by
  rcases r with r | ⟨h1,q,md,ps,e1,e2,e3,g,al,hm,hl,hq⟩
  · exact .inl r.1
  · refine .inr ⟨q,0,_,md,e1,e3,.inr hl,hq,g,by rw [flat_len (k:=sz) (it_len it al),al.len]; omega,fun i o ho=>?_⟩
    obtain ⟨p,hp,hap⟩:=al.get i o ho
    rw [Nat.zero_add,flat_get (it_len it al) i _ hp]
    exact it.mono hap (Nat.le_refl _) (fun _ _ _=>rfl) (fun j hj _=>.inl hj.1)
theorem Al2.snoc' {α β:Type} {p:α→β→Prop} {as:List α} {bs:List β} (h:Al2 p as bs) {a:α} {b:β} (x:p a b):Al2 p (as++[a]) (bs++[b]):=by
  induction h with
  | nil=>exact .cons x .nil
  | cons h1 _ ih=>exact .cons h1 ih
theorem rowF_app {α:Type} {sz:Nat} {A:(Nat→Prop)→H→α→List V→Prop} (it:ItA sz A) (hsz:0<sz) (bs:Nat) (hbs:bs≤100000) (K:Nat→Prop) (lo:Nat) (h:H) (hlo:lo≤h.next) (ops:List α) (hd:ops.length≤100000000) (a:Option (Nat × Nat)) (c:Option Nat) (e:Nat) (r:RowF K lo sz A h ops a c e) (o:α) (P:List V) (hs:A (fun j=>K j∧a≠some (j,0)) h o P) :
    ∃ h',appendC h sz bs (.slice a ops.length c e) (some (1,P))=some (.slice (some (h.next,0)) (ops.length+1) none sz,h')∧RowF K lo sz A h' (ops++[o]) (some (h.next,0)) none sz∧h'.next=h.next+1∧∀ i,i<h.next→a≠some (i,0)→h'.get i=h.get i:=by
  have lP:=(it.fit hs).1
  have pl:=(it.fit hs).2
  rcases r with ⟨rfl,rfl,rfl,rfl⟩ | ⟨h1,q,md,ps,rfl,rfl,e3,g,al,hm,hl,hq⟩
  · have k:Kp h (h.new (.cells P .rw)):=Kp.new _ _
    refine ⟨h.new (.cells P .rw),?_,.inr ⟨by simp,h.next,.rw,[P],rfl,rfl,rfl,by rw [z1g]; simp,.cons (it.mono hs k.1 (fun i _ hi=>k.2 i hi) (fun i hk hi=>⟨hk.1,by omega⟩)) .nil,rfl,hlo,Nat.lt_succ_self _⟩,rfl,fun i hi _=>z1w _ _ (by omega)⟩
    unfold appendC
    simp only [List.length_nil]
    have r:(roomy (0+1) bs && (Nat.beq 0 sz || (none:Option (Nat × Nat)).isNone) && P.all plainV)=true:=by
      rw [pl]; have:roomy (0+1) bs=true:=by simp [roomy]; omega
      rw [this]; simp
    rw [r]
    rfl
  · have e3':=e3.symm
    subst e3'
    have lp:ps.flatten.length=ops.length*sz:=by rw [flat_len (k:=sz) (it_len it al),al.len]
    have nx:((h.del q).new (.cells (ps.flatten++P) .sh)).next=h.next+1:=by simp only [zh,zq]
    have fr:∀ i,i<h.next→i≠q→((h.del q).new (.cells (ps.flatten++P) .sh)).get i=h.get i:=fun i hi hne=>by
      rw [z1w _ _ (by rw [zq]; omega),z2u _ (fun e=>hne e.symm)]
    have al2:Al2 (A (fun j=>K j∧j≠h.next) ((h.del q).new (.cells (ps.flatten++P) .sh))) (ops++[o]) (ps++[P]):=by
      have one:A (fun j=>K j∧j≠h.next) ((h.del q).new (.cells (ps.flatten++P) .sh)) o P:=it.mono hs (by rw [nx]; omega) (fun i hk hi=>fr i hi (fun e=>hk.2 (by rw [e]))) (fun i hk hi=>⟨hk.1,by omega⟩)
      have al3:Al2 (A (fun j=>K j∧j≠h.next) ((h.del q).new (.cells (ps.flatten++P) .sh))) ops ps:=al.imp (fun o' p' y=>it.mono y (by rw [nx]; omega) (fun i hk hi=>fr i hi hk.2) (fun i hk hi=>⟨hk.1,by omega⟩))
      exact al3.snoc' one
    refine ⟨(h.del q).new (.cells (ps.flatten++P) .sh),?_,.inr ⟨by simp,h.next,.sh,ps++[P],rfl,rfl,rfl,by rw [z2a _ _ (by rw [zq])]; simp,al2,rfl,hlo,by rw [nx]; omega⟩,nx,fun i hi hne=>fr i hi (fun e=>hne (by rw [e]))⟩
    unfold appendC
    simp only
    have r:(roomy (ops.length+1) bs && (Nat.beq sz sz || (some (q,0):Option (Nat × Nat)).isNone) && P.all plainV)=true:=by
      rw [pl,Nat.beq_refl]
      have:roomy (ops.length+1) bs=true:=by
        simp [roomy]
        have:(ops.length+1)*bs≤100000001*100000:=Nat.mul_le_mul (by omega) hbs
        omega
      rw [this]; rfl
    have f:fullC none (ops.length+1)=false:=rfl
    have rd:=z39 ps.flatten 0 (ops.length*sz) (by omega)
    rw [List.drop_zero,List.take_of_length_le (by omega)] at rd
    rw [r]
    simp only [_root_.cond_true,g,f]
    cases md with
    | ro=>cases hm
    | rw=>simp only [rd]
    | sh=>simp only [rd]
theorem src_1 (h:H) {sz:Nat} {P:List V} (f:Fit sz P) (hsz:0<sz):srcCells (h.new (.cells P .rw)) sz (.slice (some (h.next,0)) 1 (some 1) sz)=some (1,P):=by
  have rd:=z39 P 0 ((0+1)*sz) (by rw [f.1]; omega)
  rw [List.drop_zero,List.take_of_length_le (by rw [f.1]; omega)] at rd
  rw [m_src,z1g]
  unfold srcE
  simp only [rd]
structure EnRr (E:Nat→Option Fn):Prop where
  ey:EnEye E
  lo:E k_octet_Look=some f_octet_Look
  no:E k_tx_reader_note=some f_tx_reader_note
  wo:E k_tx_reader_word=some f_tx_reader_word
  ha:E k_tx_reader_hash=some f_tx_reader_hash
  sc:E k_tx_reader_script=some f_tx_reader_script
  in_:E k_tx_reader_in=some f_tx_reader_in
  ou:E k_tx_reader_out=some f_tx_reader_out
  li:E k_tx_list_api_In=some f_tx_list_api_In
  lt:E k_tx_list_api_Out=some f_tx_list_api_Out
  rd:E k_tx_read=some f_tx_read
  fi:E k_tx_First=some f_tx_First
  de:E k_tx_Decode=some f_tx_Decode
structure NoRr (X:Orc):Prop where
  ey:NoEye X
  lo:∀ a h,X (.fn k_octet_Look) a h=none
  no:∀ a h,X (.fn k_tx_reader_note) a h=none
  wo:∀ a h,X (.fn k_tx_reader_word) a h=none
  ha:∀ a h,X (.fn k_tx_reader_hash) a h=none
  sc:∀ a h,X (.fn k_tx_reader_script) a h=none
  in_:∀ a h,X (.fn k_tx_reader_in) a h=none
  ou:∀ a h,X (.fn k_tx_reader_out) a h=none
  li:∀ a h,X (.fn k_tx_list_api_In) a h=none
  lt:∀ a h,X (.fn k_tx_list_api_Out) a h=none
  rd:∀ a h,X (.fn k_tx_read) a h=none
  fi:∀ a h,X (.fn k_tx_First) a h=none
  de:∀ a h,X (.fn k_tx_Decode) a h=none
def Z35:List V:=[.int .u8 0,.int .u8 0,.int .u8 0,.int .u8 0,.int .u8 0,.int .u8 0,.int .u8 0,.int .u8 0,.int .u8 0,.int .u8 0,.int .u8 0,.int .u8 0,.int .u8 0,.int .u8 0,.int .u8 0,.int .u8 0,.int .u8 0,.int .u8 0,.int .u8 0,.int .u8 0,.int .u8 0,.int .u8 0,.int .u8 0,.int .u8 0,.int .u8 0,.int .u8 0,.int .u8 0,.int .u8 0,.int .u8 0,.int .u8 0,.int .u8 0,.int .u8 0,.int .u32 0,.slice none 0 (some 0) 0,.int .u32 0]
end Go.Eng
