import Derived.Test.YtfopajklnakmpaaBfV
namespace Go.Eng
open Go
variable {E:Nat→Option Fn} {X:Orc}
set_option linter.unusedSimpArgs false
set_option linter.unusedVariables false
def SrcW (S:Nat→Prop) (h:H) (a:Option (Nat × Nat)) (e:Nat) (l:List Nat):Prop:=l=[]∨∃ bi off vs m,a=some (bi,off)∧e=1∧S bi∧bi<h.next∧h.get bi=some (.cells vs m)∧off+l.length≤vs.length∧(vs.drop off).take l.length=ofI .u8 l∧isRo m=false
theorem SrcW.s {S:Nat→Prop} {h:H} {a:Option (Nat × Nat)} {e:Nat} {l:List Nat} (s:SrcW S h a e l):SrcS S h a e l:=by
  rcases s with s | ⟨bi,off,vs,m,e1,e2,hk,hb,g,hl,hv,_⟩
  · exact .inl s
  · exact .inr ⟨bi,off,vs,m,e1,e2,hk,hb,g,hl,hv⟩
theorem SrcW.mono2 {S S':Nat→Prop} {h h':H} {a:Option (Nat × Nat)} {e:Nat} {l:List Nat} (s:SrcW S h a e l) (hn:h.next≤h'.next) (k:∀ j,S j→j<h.next→h'.get j=h.get j) (w:∀ j,S j→j<h.next→S' j):SrcW S' h' a e l:=by
  rcases s with s | ⟨bi,off,vs,m,e1,e2,hk,hb,g,hl,hv,hm⟩
  · exact .inl s
  · exact .inr ⟨bi,off,vs,m,e1,e2,w _ hk hb,by omega,by rw [k _ hk hb,g],hl,hv,hm⟩
def InW (S:Nat→Prop) (h:H) (o:InQ) (p:List V):Prop:=∃ b cb eb,p=inV o b cb eb∧SrcW S h b eb o.l∧o.tx.length=32
def OutW (S:Nat→Prop) (h:H) (o:OutQ) (p:List V):Prop:=∃ b cb eb,p=[.int .i64 o.v,.slice b o.l.length cb eb]∧SrcW S h b eb o.l
theorem InW.c {S:Nat→Prop} {h:H} {o:InQ} {p:List V} (r:InW S h o p):InC S h o p:=by
  obtain ⟨b,cb,eb,e,s,l⟩:=r
  exact ⟨b,cb,eb,e,s.s,l⟩
theorem OutW.c {S:Nat→Prop} {h:H} {o:OutQ} {p:List V} (r:OutW S h o p):OutC S h o p:=by
  obtain ⟨b,cb,eb,e,s⟩:=r
  exact ⟨b,cb,eb,e,s.s⟩
theorem InW.mono2 {S S':Nat→Prop} {h h':H} {o:InQ} {p:List V} (r:InW S h o p) (hn:h.next≤h'.next) (k:∀ j,S j→j<h.next→h'.get j=h.get j) (w:∀ j,S j→j<h.next→S' j):InW S' h' o p:=by
  obtain ⟨b,cb,eb,e,s,l⟩:=r
  exact ⟨b,cb,eb,e,s.mono2 hn k w,l⟩
theorem OutW.mono2 {S S':Nat→Prop} {h h':H} {o:OutQ} {p:List V} (r:OutW S h o p) (hn:h.next≤h'.next) (k:∀ j,S j→j<h.next→h'.get j=h.get j) (w:∀ j,S j→j<h.next→S' j):OutW S' h' o p:=by
  obtain ⟨b,cb,eb,e,s⟩:=r
  exact ⟨b,cb,eb,e,s.mono2 hn k w⟩
theorem app_bw (h:H) (l:List Nat) (hl:l.length≤100000000):∃ a c e h',appendC (h.new (.cells [] .rw)) 1 1 (.slice (some (h.next,0)) 0 (some 0) 1) (some (l.length,ofI .u8 l))=some (.slice a l.length c e,h')∧Kp h h'∧SrcW (fun j=>h.next≤j) h' a e l∧(∀ q z,a=some (q,z)→h.next≤q):=by
  have k1:Kp h (h.new (.cells [] .rw)):=Kp.new _ _
  cases hn:l.length with
  | zero =>
    have l0:l=[]:=List.length_eq_zero_iff.1 hn
    exact ⟨some (h.next,0),some 0,1,_,by rw [l0]; exact appN _ _ _ _ _ _,k1,.inl l0,fun q z e=>by cases e; exact Nat.le_refl _⟩
  | succ n =>
    have g:(h.new (.cells [] .rw)).get h.next=some (.cells [] .rw):=z1g _ _
    have nx:(h.new (.cells [] .rw)).next=h.next+1:=rfl
    obtain ⟨h1,e1⟩:∃ h1,h.new (.cells [] .rw)=h1:=⟨_,rfl⟩
    rw [e1] at g k1 nx ⊢
    refine ⟨some (h1.next,0),none,1,h1.new (.cells (ofI .u8 l) .rw),?_,k1.trans (Kp.new _ _),.inr ⟨h1.next,0,_,.rw,rfl,rfl,by show h.next≤h1.next; omega,Nat.lt_succ_self _,z1g _ _,by rw [z1a]; omega,by rw [List.drop_zero]; exact List.take_of_length_le (by rw [z1a]; exact Nat.le_refl _),rfl⟩,fun q z e=>by cases e; omega⟩
    unfold appendC
    simp only
    have r:(roomy (0+(n+1)) 1 && (Nat.beq 1 1 || (some (h.next,0):Option (Nat × Nat)).isNone) && (ofI .u8 l).all plainV)=true:=by
      rw [z31]; have:roomy (0+(n+1)) 1=true:=by simp [roomy]; omega
      rw [this]; rfl
    have f:fullC (some 0) (0+(n+1))=true:=by
      show Nat.blt 0 (0+(n+1))=true
      simp
    rw [r]
    simp only [_root_.cond_true,g,f]
    have rd:readN ([]:List V) 0 (0*1)=some []:=rfl
    simp only [rd,List.nil_append,Nat.zero_add]
theorem z8l (e:E k_bytes_Clone=some f_bytes_Clone) (x:∀ a h,X (.fn k_bytes_Clone) a h=none) (N:Nat) (l:List Nat) (hl:l.length≤100000000) (a:Option (Nat × Nat)) (c:Option Nat) (ez:Nat) (h:H) (src:SrcH h a ez l) (hn:a=none→l=[]) :
    ∃ h' a2 c2 e2,callX E X (N+1) (.fn k_bytes_Clone) [.slice a l.length c ez] h=some (.slice a2 l.length c2 e2,h')∧Kp h h'∧SrcW (fun j=>h.next≤j) h' a2 e2 l∧(∀ q z,a2=some (q,z)→h.next≤q):=by
  rw [z2c e _ _ (Nat.le_of_ble_eq_true rfl) (x _ _)]
  have q:=fun h=>eqnil h a l.length c ez
  cases a with
  | none =>
    obtain rfl:=hn rfl
    refine ⟨h,none,some 0,0,?_,Kp.refl _,.inl rfl,fun _ _ e=>by cases e⟩
    rw [List.length_nil]
    have q0:=fun h=>eqnil h none 0 c ez
    simp (config:={maxSteps:=2000000}) (disch:=first | omega | (simp only [List.length_cons,List.length_nil,List.length_append,List.length_drop]; omega)) only [q0,Option.isNone_none,zo,↓zw,↓zy,↓z10,↓z1t,↓zu,↓s_op,↓zf,zf,↓zd,zd,z1d,zk,↓zg,zg,↓zb,↓z1s,↓z17,↓z11,↓z13,↓z12,↓z1h,zp,z1x,zo,z1m,z1n,↓za,↓z9,za,z9,Nat.reduceEqDiff,decide_true,decide_false]
    try rfl
  | some p =>
    have k1:Kp h (h.new (.cells [] .rw)):=Kp.new _ _
    have sc:=(src.mono k1).cellz c
    obtain ⟨a2,c2,e2,h',ap,k,s,g⟩:=app_bw h l hl
    refine ⟨h',a2,c2,e2,?_,k,s,g⟩
    obtain ⟨n,en⟩:∃ n,l.length=n:=⟨_,rfl⟩
    rw [en] at sc ap q ⊢
    simp (config:={maxSteps:=2000000}) (disch:=first | omega | (simp only [List.length_cons,List.length_nil,List.length_append,List.length_drop]; omega)) only [q,Option.isNone_some,sc,ap,↓z2n,↓z2s,z2v,↓x_P0,z2y,zo,↓z1p,↓zw,↓zy,↓z10,↓z1t,↓zu,↓s_op,↓zf,zf,↓zd,zd,zk,↓zg,zg,↓zb,↓z1s,↓z17,↓z11,↓z13,↓z12,↓z1h,zp,z1x,zo,z1m,z1n,↓za,↓z9,za,z9,Nat.reduceEqDiff,decide_true,decide_false]
    try rfl
structure CInW (p q n rc:Nat) (P:List V) (ops:List InQ) (hB:H) (i:Nat) (T:Tr V) (h:H):Prop where
  t1:evO T (.t 1)=.ptr (some (p,0))
  t2:evO T (.t 2)=.ptr (some (rc,0))
  tn:evO T (.t 15)=.int .i64 (n:Int)
  ti:evO T (.t 16)=.int .i64 (i:Int)
  gp:h.get p=some (.cells P .rw)
  cs:∃ cs,h.get q=some (.cells cs .rw)∧cs.length=n*35∧∀ j o,ops[j]?=some o→(j<i→InW (fun k=>hB.next≤k) h o ((cs.drop (j*35)).take 35))∧(i≤j→InC (fun k=>k<hB.next∧k≠q) h o ((cs.drop (j*35)).take 35))
  nx:hB.next≤h.next
  fr:∀ j,j<hB.next→j≠q→h.get j=hB.get j
theorem cInw_round (e:E k_bytes_Clone=some f_bytes_Clone) (x:∀ a h,X (.fn k_bytes_Clone) a h=none) (N m:Nat) (p q rc:Nat) (P:List V) (ops:List InQ) (hl:ops.length≤1000) (sc:∀ o ∈ ops,o.l.length≤2100) (c0:Option Nat) (hP:P[1]?=some (.slice (some (q,0)) ops.length none 35)) (hB:H) (hq:q<hB.next) (hpq:p≠q) (hp:p<hB.next) (i:Nat) (hi:i<ops.length) (T:Tr V) (h:H) (I:CInW p q ops.length rc P ops hB i T h) :
    ∃ T' h',evC (callX E X (N+1)) 52 m none L_tx_Copy_0 ⟨T,[],h⟩=some (.normal,⟨T',[],h'⟩)∧CInW p q ops.length rc P ops hB (i+1) T' h':=by
  obtain ⟨t1,t2,tn,ti,gp,⟨cs,gq,lc,at_⟩,nx,fr⟩:=I
  have ho:=List.getElem?_eq_getElem hi
  obtain ⟨o,eo⟩:∃ o,ops[i]=o:=⟨_,rfl⟩
  rw [eo] at ho
  have mem:=List.mem_of_getElem? ho
  obtain ⟨b,cb,eb,eP,ss,l32⟩:=(at_ i o ho).2 (Nat.le_refl _)
  have cg:cs[i*35+33]?=some (.slice b o.l.length cb eb):=by
    have:=congrArg (fun l=>l[33]?) eP
    simp only [List.getElem?_take_of_lt (show 33<35 by omega),List.getElem?_drop] at this
    rw [this]; exact inV_33 o b cb eb l32
  obtain ⟨h1,b2,c2,e2,r1,k1,s1,w1⟩:=z8l e x N o.l (by have:=sc o mem; omega) b cb eb h ss.src ss.nil
  have kn1:=k1.1
  have gp1:h1.get p=some (.cells P .rw):=by rw [k1.2 _ (by omega),gp]
  have gq1:h1.get q=some (.cells cs .rw):=by rw [k1.2 _ (by omega),gq]
  have hlt:i*35+33<cs.length:=by omega
  have st:∀ h i o',storeV h 1 (.ptr (some (i,o'))) (.slice b2 o.l.length c2 e2)=storeE (h.get i) h i o' [.slice b2 o.l.length c2 e2]:=fun h i o'=>z3s h 1 i o' _ rfl
  have se:∀ h' i',storeE (some (.cells cs .rw)) h' i' (i*35+33) [.slice b2 o.l.length c2 e2]=some (h'.put i' (.cells (cs.set (i*35+33) (.slice b2 o.l.length c2 e2)) .rw)):=fun h' i'=>by
    rw [z1v _ _ _ _ _ (by simp only [List.length_cons,List.length_nil]; omega),z2w]
    exact hlt
  have cc:decide ((i:Int)<(ops.length:Int))=true:=decide_eq_true (by omega)
  have wi:wr .i64 ((i:Int)+1)=((i+1:Nat):Int):=by rw [z1u (by omega)]; omega
  have ix:idx (i:Int) ops.length=some i:=idxn hi
  obtain ⟨cs2,ec2⟩:∃ cs2,cs.set (i*35+33) (.slice b2 o.l.length c2 e2)=cs2:=⟨_,rfl⟩
  have parts:=fun j=>part35 cs i j (.slice b2 o.l.length c2 e2) 33 (by omega)
  rw [ec2] at se parts
  obtain ⟨h2,eh2⟩:∃ h2,h1.put q (.cells cs2 .rw)=h2:=⟨_,rfl⟩
  have n2:h2.next=h1.next:=by rw [← eh2]; rfl
  have g2:h2.get q=some (.cells cs2 .rw):=by rw [← eh2]; exact z1f _ _ _
  have f2:∀ j,j≠q→h2.get j=h1.get j:=fun j hj=>by rw [← eh2]; exact z1o _ _ (Ne.symm hj)
  have lc2:cs2.length=ops.length*35:=by rw [← ec2,List.length_set,lc]
  have inv:∀ j o',ops[j]?=some o'→(j<i+1→InW (fun k=>hB.next≤k) h2 o' ((cs2.drop (j*35)).take 35))∧(i+1≤j→InC (fun k=>k<hB.next∧k≠q) h2 o' ((cs2.drop (j*35)).take 35)):=by
    intro j o' ho'
    rw [parts j]
    refine ⟨fun hj=>?_,fun hj=>?_⟩
    · by_cases hji:j=i
      · subst hji
        rw [ho] at ho'
        cases ho'
        rw [if_pos rfl,eP]
        refine ⟨b2,c2,e2,inV_s33 o b b2 cb c2 eb e2 l32,?_,l32⟩
        exact s1.mono2 (by omega) (fun k hk _=>f2 k (by have:h.next≤k:=hk; omega)) (fun k hk _=>by have:h.next≤k:=hk; show hB.next≤k; omega)
      · rw [if_neg hji]
        exact InW.mono2 ((at_ j o' ho').1 (by omega)) (by omega) (fun k hk hkn=>by rw [f2 k (by omega),k1.2 _ hkn]) (fun _ hk _=>hk)
    · rw [if_neg (by omega)]
      exact itIn.mono ((at_ j o' ho').2 (by omega)) (by omega) (fun k hk hkn=>by rw [f2 k hk.2,k1.2 _ hkn]) (fun _ hk _=>hk)
  have inv2:∃ cs,h2.get q=some (.cells cs .rw)∧cs.length=ops.length*35∧∀ j o,ops[j]?=some o→(j<i+1→InW (fun k=>hB.next≤k) h2 o ((cs.drop (j*35)).take 35))∧(i+1≤j→InC (fun k=>k<hB.next∧k≠q) h2 o ((cs.drop (j*35)).take 35)):=⟨cs2,g2,lc2,inv⟩
  have gp2:h2.get p=some (.cells P .rw):=by rw [f2 _ hpq,gp1]
  have fr2:∀ j,j<hB.next→j≠q→h2.get j=hB.get j:=fun j h1' h2'=>by rw [f2 _ h2',k1.2 _ (by omega),fr j h1' h2']
  clear inv parts at_
  obtain ⟨n,en⟩:∃ n,ops.length=n:=⟨_,rfl⟩
  rw [en] at tn hP cc ix inv2 ⊢
  generalize o.l.length=ol at *
  refine ⟨_,h2,by
    simp (config:={maxSteps:=2000000}) (disch:=first | omega | (simp only [List.length_cons,List.length_nil,List.length_append,List.length_drop]; omega)) only [L_tx_Copy_0,t1,tn,ti,gp,gq,hP,cc,ix,cg,r1,gp1,gq1,st,se,eh2,wi,z6t,↓zn,z14,Nat.zero_add,↓z4x,↓z3i,↓s_dL,↓s_dR,↓s_dRj,↓s_dB,↓z28,z28,z4p,z38,↓z37,s_ok0,↓s_ok1,z6a,↓z5z,↓z4w,z4w,z6b,z6c,z6e,Bool.and_self,↓z1e,z1c,↓zj,zj,↓m_st,z2p,↓z2g,z23,z21,↓z1p,↓zw,↓z3h,↓zy,↓z10,↓z15,↓zu,↓s_op,↓zf,zf,↓zd,zd,zk,↓zg,zg,zt,↓zb,↓zm,↓z17,↓z24,↓z26,↓z12,↓z1h,↓z1z,zp,z1y,z2z,↓za,↓z9,za,z9,Nat.zero_add,Nat.reduceEqDiff,decide_true,decide_false]
    exact rfl,⟨(by (simp only [zb,zm,Nat.reduceEqDiff,decide_false,z9,t1]; try rfl)),(by (simp only [zb,zm,Nat.reduceEqDiff,decide_false,z9,t2]; try rfl)),(by (simp only [zb,zm,Nat.reduceEqDiff,decide_false,z9,tn]; try rfl)),(by (simp only [zb,decide_true,za]; try rfl)),gp2,inv2,by omega,fr2⟩⟩
structure COutW (p q n rc:Nat) (P:List V) (ops:List OutQ) (hB:H) (i:Nat) (T:Tr V) (h:H):Prop where
  t1:evO T (.t 1)=.ptr (some (p,0))
  t2:evO T (.t 2)=.ptr (some (rc,0))
  tn:evO T (.t 34)=.int .i64 (n:Int)
  ti:evO T (.t 35)=.int .i64 (i:Int)
  gp:h.get p=some (.cells P .rw)
  cs:∃ cs,h.get q=some (.cells cs .rw)∧cs.length=n*2∧∀ j o,ops[j]?=some o→(j<i→OutW (fun k=>hB.next≤k) h o ((cs.drop (j*2)).take 2))∧(i≤j→OutC (fun k=>k<hB.next∧k≠q) h o ((cs.drop (j*2)).take 2))
  nx:hB.next≤h.next
  fr:∀ j,j<hB.next→j≠q→h.get j=hB.get j
theorem cOutw_round (e:E k_bytes_Clone=some f_bytes_Clone) (x:∀ a h,X (.fn k_bytes_Clone) a h=none) (N m:Nat) (p q rc:Nat) (P:List V) (ops:List OutQ) (hl:ops.length≤1000) (sc:∀ o ∈ ops,o.l.length≤2100) (c0:Option Nat) (hP:P[2]?=some (.slice (some (q,0)) ops.length none 2)) (hB:H) (hq:q<hB.next) (hpq:p≠q) (hp:p<hB.next) (i:Nat) (hi:i<ops.length) (T:Tr V) (h:H) (I:COutW p q ops.length rc P ops hB i T h) :
    ∃ T' h',evC (callX E X (N+1)) 52 m none L_tx_Copy_1 ⟨T,[],h⟩=some (.normal,⟨T',[],h'⟩)∧COutW p q ops.length rc P ops hB (i+1) T' h':=by
  obtain ⟨t1,t2,tn,ti,gp,⟨cs,gq,lc,at_⟩,nx,fr⟩:=I
  have ho:=List.getElem?_eq_getElem hi
  obtain ⟨o,eo⟩:∃ o,ops[i]=o:=⟨_,rfl⟩
  rw [eo] at ho
  have mem:=List.mem_of_getElem? ho
  obtain ⟨b,cb,eb,eP,ss⟩:=(at_ i o ho).2 (Nat.le_refl _)
  have cg:cs[i*2+1]?=some (.slice b o.l.length cb eb):=by
    have:=congrArg (fun l=>l[1]?) eP
    simp only [List.getElem?_take_of_lt (show 1<2 by omega),List.getElem?_drop] at this
    rw [this]; rfl
  obtain ⟨h1,b2,c2,e2,r1,k1,s1,w1⟩:=z8l e x N o.l (by have:=sc o mem; omega) b cb eb h ss.src ss.nil
  have kn1:=k1.1
  have gp1:h1.get p=some (.cells P .rw):=by rw [k1.2 _ (by omega),gp]
  have gq1:h1.get q=some (.cells cs .rw):=by rw [k1.2 _ (by omega),gq]
  have hlt:i*2+1<cs.length:=by omega
  have st:∀ h i o',storeV h 1 (.ptr (some (i,o'))) (.slice b2 o.l.length c2 e2)=storeE (h.get i) h i o' [.slice b2 o.l.length c2 e2]:=fun h i o'=>z3s h 1 i o' _ rfl
  have se:∀ h' i',storeE (some (.cells cs .rw)) h' i' (i*2+1) [.slice b2 o.l.length c2 e2]=some (h'.put i' (.cells (cs.set (i*2+1) (.slice b2 o.l.length c2 e2)) .rw)):=fun h' i'=>by
    rw [z1v _ _ _ _ _ (by simp only [List.length_cons,List.length_nil]; omega),z2w]
    exact hlt
  have cc:decide ((i:Int)<(ops.length:Int))=true:=decide_eq_true (by omega)
  have wi:wr .i64 ((i:Int)+1)=((i+1:Nat):Int):=by rw [z1u (by omega)]; omega
  have ix:idx (i:Int) ops.length=some i:=idxn hi
  obtain ⟨cs2,ec2⟩:∃ cs2,cs.set (i*2+1) (.slice b2 o.l.length c2 e2)=cs2:=⟨_,rfl⟩
  have parts:=fun j=>part2 cs i j (.slice b2 o.l.length c2 e2) 1 (by omega)
  rw [ec2] at se parts
  obtain ⟨h2,eh2⟩:∃ h2,h1.put q (.cells cs2 .rw)=h2:=⟨_,rfl⟩
  have n2:h2.next=h1.next:=by rw [← eh2]; rfl
  have g2:h2.get q=some (.cells cs2 .rw):=by rw [← eh2]; exact z1f _ _ _
  have f2:∀ j,j≠q→h2.get j=h1.get j:=fun j hj=>by rw [← eh2]; exact z1o _ _ (Ne.symm hj)
  have lc2:cs2.length=ops.length*2:=by rw [← ec2,List.length_set,lc]
  have inv:∀ j o',ops[j]?=some o'→(j<i+1→OutW (fun k=>hB.next≤k) h2 o' ((cs2.drop (j*2)).take 2))∧(i+1≤j→OutC (fun k=>k<hB.next∧k≠q) h2 o' ((cs2.drop (j*2)).take 2)):=by
    intro j o' ho'
    rw [parts j]
    refine ⟨fun hj=>?_,fun hj=>?_⟩
    · by_cases hji:j=i
      · subst hji
        rw [ho] at ho'
        cases ho'
        rw [if_pos rfl,eP]
        refine ⟨b2,c2,e2,rfl,?_⟩
        exact s1.mono2 (by omega) (fun k hk _=>f2 k (by have:h.next≤k:=hk; omega)) (fun k hk _=>by have:h.next≤k:=hk; show hB.next≤k; omega)
      · rw [if_neg hji]
        exact OutW.mono2 ((at_ j o' ho').1 (by omega)) (by omega) (fun k hk hkn=>by rw [f2 k (by omega),k1.2 _ hkn]) (fun _ hk _=>hk)
    · rw [if_neg (by omega)]
      exact z4o.mono ((at_ j o' ho').2 (by omega)) (by omega) (fun k hk hkn=>by rw [f2 k hk.2,k1.2 _ hkn]) (fun _ hk _=>hk)
  have inv2:∃ cs,h2.get q=some (.cells cs .rw)∧cs.length=ops.length*2∧∀ j o,ops[j]?=some o→(j<i+1→OutW (fun k=>hB.next≤k) h2 o ((cs.drop (j*2)).take 2))∧(i+1≤j→OutC (fun k=>k<hB.next∧k≠q) h2 o ((cs.drop (j*2)).take 2)):=⟨cs2,g2,lc2,inv⟩
  have gp2:h2.get p=some (.cells P .rw):=by rw [f2 _ hpq,gp1]
  have fr2:∀ j,j<hB.next→j≠q→h2.get j=hB.get j:=fun j h1' h2'=>by rw [f2 _ h2',k1.2 _ (by omega),fr j h1' h2']
  clear inv parts at_
  obtain ⟨n,en⟩:∃ n,ops.length=n:=⟨_,rfl⟩
  rw [en] at tn hP cc ix inv2 ⊢
  generalize o.l.length=ol at *
  refine ⟨_,h2,by
    simp (config:={maxSteps:=2000000}) (disch:=first | omega | (simp only [List.length_cons,List.length_nil,List.length_append,List.length_drop]; omega)) only [L_tx_Copy_1,t1,tn,ti,gp,gq,hP,cc,ix,cg,r1,gp1,gq1,st,se,eh2,wi,z6t,↓zn,z14,Nat.zero_add,↓z4x,↓z3i,↓s_dL,↓s_dR,↓s_dRj,↓s_dB,↓z28,z28,z4p,z38,↓z37,s_ok0,↓s_ok1,z6a,↓z5z,↓z4w,z4w,z6b,z6c,z6e,Bool.and_self,↓z1e,z1c,↓zj,zj,↓m_st,z2p,↓z2g,z23,z21,↓z1p,↓zw,↓z3h,↓zy,↓z10,↓z15,↓zu,↓s_op,↓zf,zf,↓zd,zd,zk,↓zg,zg,zt,↓zb,↓zm,↓z17,↓z24,↓z26,↓z12,↓z1h,↓z1z,zp,z1y,z2z,↓za,↓z9,za,z9,Nat.zero_add,Nat.reduceEqDiff,decide_true,decide_false]
    exact rfl,⟨(by (simp only [zb,zm,Nat.reduceEqDiff,decide_false,z9,t1]; try rfl)),(by (simp only [zb,zm,Nat.reduceEqDiff,decide_false,z9,t2]; try rfl)),(by (simp only [zb,zm,Nat.reduceEqDiff,decide_false,z9,tn]; try rfl)),(by (simp only [zb,decide_true,za]; try rfl)),gp2,inv2,by omega,fr2⟩⟩
theorem icInw (e:E k_slices_Clone_api_In_api_In=some f_slices_Clone_api_In_api_In) (x:∀ a h,X (.fn k_slices_Clone_api_In_api_In) a h=none) (xx:∀ (N:Nat) (ops:List InQ) (hne:0<ops.length) (hl:ops.length≤1000) (a:Option (Nat × Nat)) (c:Option Nat) (ez:Nat) (S:Nat→Prop) (h:H) (row:RowG S 35 InC h ops a ez),∃ cs,callX E X (N+1) (.fn k_slices_Clone_api_In_api_In) [.slice a ops.length c ez] h=some (.slice (some (h.next+1,0)) ops.length none 35,(h.new (.cells [] .rw)).new (.cells cs .rw))∧cs.length=ops.length*35∧∀ i o,ops[i]?=some o→InC S h o ((cs.drop (i*35)).take 35)) (N:Nat) (ops:List InQ) (hl:ops.length≤1000) (a:Option (Nat × Nat)) (c:Option Nat) (ez:Nat) (S:Nat→Prop) (h:H) (row:RowG S 35 InC h ops a ez) (hn:ops=[]→a=none∧c=some 0∧ez=0) :
    ∃ h1 a1 c1 e1,callX E X (N+1) (.fn k_slices_Clone_api_In_api_In) [.slice a ops.length c ez] h=some (.slice a1 ops.length c1 e1,h1)∧Kp h h1∧h1.next≤h.next+2∧((ops=[]∧a1=none∧c1=some 0∧e1=0)∨(0<ops.length∧∃ q cs,a1=some (q,0)∧c1=none∧e1=35∧h.next≤q∧q<h1.next∧h1.get q=some (.cells cs .rw)∧cs.length=ops.length*35∧∀ i o,ops[i]?=some o→InC S h o ((cs.drop (i*35)).take 35))):=by
  cases hops:ops with
  | nil =>
    obtain ⟨rfl,rfl,rfl⟩:=hn hops
    refine ⟨h,none,some 0,0,?_,Kp.refl _,by omega,.inl ⟨rfl,rfl,rfl,rfl⟩⟩
    rw [z2c e _ _ (Nat.le_of_ble_eq_true rfl) (x _ _),List.length_nil]
    have q0:=fun h=>eqnil h none 0 (some 0) 0
    simp (config:={maxSteps:=2000000}) (disch:=first | omega | (simp only [List.length_cons,List.length_nil,List.length_append,List.length_drop]; omega)) only [q0,Option.isNone_none,zo,↓zw,↓zy,↓z10,↓z1t,↓zu,↓s_op,↓zf,zf,↓zd,zd,z1d,zk,↓zg,zg,↓zb,↓z1s,↓z17,↓z11,↓z13,↓z12,↓z1h,zp,z1x,zo,z1m,z1n,↓za,↓z9,za,z9,Nat.reduceEqDiff,decide_true,decide_false]
    try rfl
  | cons o r =>
    rw [← hops]
    have hne:0<ops.length:=by rw [hops]; exact Nat.succ_pos _
    obtain ⟨cs,c1,lc,at0⟩:=xx N ops hne hl a c ez S h row
    exact ⟨_,_,_,_,c1,(Kp.new _ _).trans (Kp.new _ _),Nat.le_refl _,.inr ⟨hne,h.next+1,cs,rfl,rfl,rfl,by omega,Nat.lt_succ_self _,z2a _ _ rfl,lc,at0⟩⟩
theorem icOutw (e:E k_slices_Clone_api_Out_api_Out=some f_slices_Clone_api_Out_api_Out) (x:∀ a h,X (.fn k_slices_Clone_api_Out_api_Out) a h=none) (xx:∀ (N:Nat) (ops:List OutQ) (hne:0<ops.length) (hl:ops.length≤1000) (a:Option (Nat × Nat)) (c:Option Nat) (ez:Nat) (S:Nat→Prop) (h:H) (row:RowG S 2 OutC h ops a ez),∃ cs,callX E X (N+1) (.fn k_slices_Clone_api_Out_api_Out) [.slice a ops.length c ez] h=some (.slice (some (h.next+1,0)) ops.length none 2,(h.new (.cells [] .rw)).new (.cells cs .rw))∧cs.length=ops.length*2∧∀ i o,ops[i]?=some o→OutC S h o ((cs.drop (i*2)).take 2)) (N:Nat) (ops:List OutQ) (hl:ops.length≤1000) (a:Option (Nat × Nat)) (c:Option Nat) (ez:Nat) (S:Nat→Prop) (h:H) (row:RowG S 2 OutC h ops a ez) (hn:ops=[]→a=none∧c=some 0∧ez=0) :
    ∃ h1 a1 c1 e1,callX E X (N+1) (.fn k_slices_Clone_api_Out_api_Out) [.slice a ops.length c ez] h=some (.slice a1 ops.length c1 e1,h1)∧Kp h h1∧h1.next≤h.next+2∧((ops=[]∧a1=none∧c1=some 0∧e1=0)∨(0<ops.length∧∃ q cs,a1=some (q,0)∧c1=none∧e1=2∧h.next≤q∧q<h1.next∧h1.get q=some (.cells cs .rw)∧cs.length=ops.length*2∧∀ i o,ops[i]?=some o→OutC S h o ((cs.drop (i*2)).take 2))):=by
  cases hops:ops with
  | nil =>
    obtain ⟨rfl,rfl,rfl⟩:=hn hops
    refine ⟨h,none,some 0,0,?_,Kp.refl _,by omega,.inl ⟨rfl,rfl,rfl,rfl⟩⟩
    rw [z2c e _ _ (Nat.le_of_ble_eq_true rfl) (x _ _),List.length_nil]
    have q0:=fun h=>eqnil h none 0 (some 0) 0
    simp (config:={maxSteps:=2000000}) (disch:=first | omega | (simp only [List.length_cons,List.length_nil,List.length_append,List.length_drop]; omega)) only [q0,Option.isNone_none,zo,↓zw,↓zy,↓z10,↓z1t,↓zu,↓s_op,↓zf,zf,↓zd,zd,z1d,zk,↓zg,zg,↓zb,↓z1s,↓z17,↓z11,↓z13,↓z12,↓z1h,zp,z1x,zo,z1m,z1n,↓za,↓z9,za,z9,Nat.reduceEqDiff,decide_true,decide_false]
    try rfl
  | cons o r =>
    rw [← hops]
    have hne:0<ops.length:=by rw [hops]; exact Nat.succ_pos _
    obtain ⟨cs,c1,lc,at0⟩:=xx N ops hne hl a c ez S h row
    exact ⟨_,_,_,_,c1,(Kp.new _ _).trans (Kp.new _ _),Nat.le_refl _,.inr ⟨hne,h.next+1,cs,rfl,rfl,rfl,by omega,Nat.lt_succ_self _,z2a _ _ rfl,lc,at0⟩⟩
theorem cpIn_loop (e:E k_bytes_Clone=some f_bytes_Clone) (x:∀ a h,X (.fn k_bytes_Clone) a h=none) (N:Nat) (hN:1000<N) (p rc:Nat) (P:List V) (ops:List InQ) (hl:ops.length≤1000) (sc:∀ o ∈ ops,o.l.length≤2100) (a1:Option (Nat × Nat)) (c1:Option Nat) (e1:Nat) (hP:P[1]?=some (.slice a1 ops.length c1 e1)) (hB:H) (hp:p<hB.next) (gp:hB.get p=some (.cells P .rw)) (na:∀ z,a1≠some (p,z))
    (d:(ops=[]∧a1=none∧c1=some 0∧e1=0)∨(0<ops.length∧∃ q cs,a1=some (q,0)∧c1=none∧e1=35∧q<hB.next∧hB.get q=some (.cells cs .rw)∧cs.length=ops.length*35∧∀ i o,ops[i]?=some o→InC (fun k=>k<hB.next∧k≠q) hB o ((cs.drop (i*35)).take 35))) (T:Tr V) (t1:evO T (.t 1)=.ptr (some (p,0))) (t2:evO T (.t 2)=.ptr (some (rc,0))) (tn:evO T (.t 15)=.int .i64 (ops.length:Int)) (ti:evO T (.t 16)=.int .i64 ((0:Nat):Int)) :
    ∃ T' h5,loopN (evC (callX E X (N+1)) 52 (N+1) none L_tx_Copy_0) (N+1) ⟨T,[],hB⟩=some (.exit 0,⟨T',[],h5⟩)∧evO T' (.t 1)=.ptr (some (p,0))∧evO T' (.t 2)=.ptr (some (rc,0))∧h5.get p=some (.cells P .rw)∧hB.next≤h5.next∧(∀ j,j<hB.next→a1≠some (j,0)→h5.get j=hB.get j) ∧
      ((ops=[]∧a1=none∧c1=some 0∧e1=0)∨(0<ops.length∧∃ q cs,a1=some (q,0)∧c1=none∧e1=35∧q<hB.next∧h5.get q=some (.cells cs .rw)∧cs.length=ops.length*35∧∀ i o,ops[i]?=some o→InW (fun k=>hB.next≤k) h5 o ((cs.drop (i*35)).take 35))):=by
  rcases d with ⟨rfl,rfl,rfl,rfl⟩ | ⟨hne,q,cs,rfl,rfl,rfl,hq,gq,lc,at_⟩
  · have c0:decide ((0:Int)<0)=false:=rfl
    have c1:decide (((0:Nat):Int)<((0:Nat):Int))=false:=rfl
    rw [List.length_nil] at tn
    refine ⟨_,hB,by
      simp (config:={maxSteps:=2000000}) (disch:=first | omega | (simp only [List.length_cons,List.length_nil,List.length_append,List.length_drop]; omega)) only [L_tx_Copy_0,z2e,tn,ti,↓z2e,l_exit,Int.reduceLT,Int.cast_ofNat_Int,↓zw,↓zy,↓z10,↓z2b,↓zu,↓s_op,↓zf,zf,↓zd,zd,z16,zk,↓zg,zg,↓zb,↓z1h,zp,z1y,↓za,↓z9,za,z9,decide_true,decide_false]
      exact rfl,(by (simp only [zb,Nat.reduceEqDiff,decide_false,z9,t1]; try rfl)),(by (simp only [zb,Nat.reduceEqDiff,decide_false,z9,t2]; try rfl)),gp,Nat.le_refl _,fun _ _ _=>rfl,.inl ⟨rfl,rfl,rfl,rfl⟩⟩
  · obtain ⟨T5,h5,rr,J⟩:=z22 (f:=evC (callX E X (N+1)) 52 (N+1) none L_tx_Copy_0) (CInW p q ops.length rc P ops hB) ops.length (.exit 0) (by intro h; cases h) (CInW p q ops.length rc P ops hB ops.length) (fun i T h' hi I=>cInw_round e x N (N+1) p q rc P ops (by omega) sc none hP hB (by omega) (fun hh=>na 0 (by rw [hh])) (by omega) i hi T h' I) (fun T h' I=>by
      obtain ⟨t1,t2,tn,ti,gp,cc,nx,fr⟩:=I
      have c0:decide ((ops.length:Int)<(ops.length:Int))=false:=decide_eq_false (by omega)
      obtain ⟨n,en⟩:∃ n,ops.length=n:=⟨_,rfl⟩
      rw [en] at tn ti c0 cc ⊢
      exact ⟨_,h',by
        simp (config:={maxSteps:=2000000}) (disch:=first | omega | (simp only [List.length_cons,List.length_nil,List.length_append,List.length_drop]; omega)) only [L_tx_Copy_0,tn,ti,c0,↓zw,↓zy,↓z10,↓z2b,↓zu,↓s_op,↓zf,zf,↓zd,zd,z16,zk,↓zg,zg,↓zb,↓z1h,zp,z1y,↓za,↓z9,za,z9,decide_true]
        exact rfl,⟨(by (simp only [zb,Nat.reduceEqDiff,decide_false,z9,t1]; try rfl)),(by (simp only [zb,Nat.reduceEqDiff,decide_false,z9,t2]; try rfl)),(by (simp only [zb,Nat.reduceEqDiff,decide_false,z9,tn]; try rfl)),(by (simp only [zb,Nat.reduceEqDiff,decide_false,z9,ti]; try rfl)),gp,cc,nx,fr⟩⟩) ops.length 0 (by omega) (N+1) (by omega) T hB ⟨t1,t2,tn,ti,gp,⟨cs,gq,lc,fun j o ho=>⟨fun hj=>absurd hj (Nat.not_lt_zero _),fun _=>at_ j o ho⟩⟩,Nat.le_refl _,fun _ _ _=>rfl⟩
    obtain ⟨u1,u2,_,_,g5,⟨cs',gq5,lc5,at5⟩,nx5,fr5⟩:=J
    exact ⟨T5,h5,rr,u1,u2,g5,nx5,fun j hj hja=>fr5 j hj (fun hh=>hja (by rw [hh])),.inr ⟨hne,q,cs',rfl,rfl,rfl,hq,gq5,lc5,fun i o ho=>(at5 i o ho).1 (List.getElem?_eq_some_iff.1 ho).1⟩⟩
theorem cpOut_loop (e:E k_bytes_Clone=some f_bytes_Clone) (x:∀ a h,X (.fn k_bytes_Clone) a h=none) (N:Nat) (hN:1000<N) (p rc:Nat) (P:List V) (ops:List OutQ) (hl:ops.length≤1000) (sc:∀ o ∈ ops,o.l.length≤2100) (a1:Option (Nat × Nat)) (c1:Option Nat) (e1:Nat) (hP:P[2]?=some (.slice a1 ops.length c1 e1)) (hB:H) (hp:p<hB.next) (gp:hB.get p=some (.cells P .rw)) (na:∀ z,a1≠some (p,z))
    (d:(ops=[]∧a1=none∧c1=some 0∧e1=0)∨(0<ops.length∧∃ q cs,a1=some (q,0)∧c1=none∧e1=2∧q<hB.next∧hB.get q=some (.cells cs .rw)∧cs.length=ops.length*2∧∀ i o,ops[i]?=some o→OutC (fun k=>k<hB.next∧k≠q) hB o ((cs.drop (i*2)).take 2))) (T:Tr V) (t1:evO T (.t 1)=.ptr (some (p,0))) (t2:evO T (.t 2)=.ptr (some (rc,0))) (tn:evO T (.t 34)=.int .i64 (ops.length:Int)) (ti:evO T (.t 35)=.int .i64 ((0:Nat):Int)) :
    ∃ T' h5,loopN (evC (callX E X (N+1)) 52 (N+1) none L_tx_Copy_1) (N+1) ⟨T,[],hB⟩=some (.exit 2,⟨T',[],h5⟩)∧evO T' (.t 1)=.ptr (some (p,0))∧evO T' (.t 2)=.ptr (some (rc,0))∧h5.get p=some (.cells P .rw)∧hB.next≤h5.next∧(∀ j,j<hB.next→a1≠some (j,0)→h5.get j=hB.get j) ∧
      ((ops=[]∧a1=none∧c1=some 0∧e1=0)∨(0<ops.length∧∃ q cs,a1=some (q,0)∧c1=none∧e1=2∧q<hB.next∧h5.get q=some (.cells cs .rw)∧cs.length=ops.length*2∧∀ i o,ops[i]?=some o→OutW (fun k=>hB.next≤k) h5 o ((cs.drop (i*2)).take 2))):=by
  rcases d with ⟨rfl,rfl,rfl,rfl⟩ | ⟨hne,q,cs,rfl,rfl,rfl,hq,gq,lc,at_⟩
  · have c0:decide ((0:Int)<0)=false:=rfl
    have c1:decide (((0:Nat):Int)<((0:Nat):Int))=false:=rfl
    rw [List.length_nil] at tn
    refine ⟨_,hB,by
      simp (config:={maxSteps:=2000000}) (disch:=first | omega | (simp only [List.length_cons,List.length_nil,List.length_append,List.length_drop]; omega)) only [L_tx_Copy_1,z2e,tn,ti,↓z2e,l_exit,Int.reduceLT,Int.cast_ofNat_Int,↓zw,↓zy,↓z10,↓z2b,↓zu,↓s_op,↓zf,zf,↓zd,zd,z16,zk,↓zg,zg,↓zb,↓z1h,zp,z1y,↓za,↓z9,za,z9,decide_true,decide_false]
      exact rfl,(by (simp only [zb,Nat.reduceEqDiff,decide_false,z9,t1]; try rfl)),(by (simp only [zb,Nat.reduceEqDiff,decide_false,z9,t2]; try rfl)),gp,Nat.le_refl _,fun _ _ _=>rfl,.inl ⟨rfl,rfl,rfl,rfl⟩⟩
  · obtain ⟨T5,h5,rr,J⟩:=z22 (f:=evC (callX E X (N+1)) 52 (N+1) none L_tx_Copy_1) (COutW p q ops.length rc P ops hB) ops.length (.exit 2) (by intro h; cases h) (COutW p q ops.length rc P ops hB ops.length) (fun i T h' hi I=>cOutw_round e x N (N+1) p q rc P ops (by omega) sc none hP hB (by omega) (fun hh=>na 0 (by rw [hh])) (by omega) i hi T h' I) (fun T h' I=>by
      obtain ⟨t1,t2,tn,ti,gp,cc,nx,fr⟩:=I
      have c0:decide ((ops.length:Int)<(ops.length:Int))=false:=decide_eq_false (by omega)
      obtain ⟨n,en⟩:∃ n,ops.length=n:=⟨_,rfl⟩
      rw [en] at tn ti c0 cc ⊢
      exact ⟨_,h',by
        simp (config:={maxSteps:=2000000}) (disch:=first | omega | (simp only [List.length_cons,List.length_nil,List.length_append,List.length_drop]; omega)) only [L_tx_Copy_1,tn,ti,c0,↓zw,↓zy,↓z10,↓z2b,↓zu,↓s_op,↓zf,zf,↓zd,zd,z16,zk,↓zg,zg,↓zb,↓z1h,zp,z1y,↓za,↓z9,za,z9,decide_true]
        exact rfl,⟨(by (simp only [zb,Nat.reduceEqDiff,decide_false,z9,t1]; try rfl)),(by (simp only [zb,Nat.reduceEqDiff,decide_false,z9,t2]; try rfl)),(by (simp only [zb,Nat.reduceEqDiff,decide_false,z9,tn]; try rfl)),(by (simp only [zb,Nat.reduceEqDiff,decide_false,z9,ti]; try rfl)),gp,cc,nx,fr⟩⟩) ops.length 0 (by omega) (N+1) (by omega) T hB ⟨t1,t2,tn,ti,gp,⟨cs,gq,lc,fun j o ho=>⟨fun hj=>absurd hj (Nat.not_lt_zero _),fun _=>at_ j o ho⟩⟩,Nat.le_refl _,fun _ _ _=>rfl⟩
    obtain ⟨u1,u2,_,_,g5,⟨cs',gq5,lc5,at5⟩,nx5,fr5⟩:=J
    exact ⟨T5,h5,rr,u1,u2,g5,nx5,fun j hj hja=>fr5 j hj (fun hh=>hja (by rw [hh])),.inr ⟨hne,q,cs',rfl,rfl,rfl,hq,gq5,lc5,fun i o ho=>(at5 i o ho).1 (List.getElem?_eq_some_iff.1 ho).1⟩⟩
def RowN {α:Type} (sz:Nat) (A:(Nat→Prop)→H→α→List V→Prop) (h h':H) (other:Option (Nat × Nat)) (ops:List α) (a:Option (Nat × Nat)) (c:Option Nat) (e:Nat):Prop:=(ops=[]∧a=none∧c=some 0∧e=0)∨(0<ops.length∧∃ q cs,a=some (q,0)∧c=none∧e=sz∧h.next≤q∧q<h'.next∧h'.get q=some (.cells cs .rw)∧cs.length=ops.length*sz∧∀ i o,ops[i]?=some o→A (fun j=>h.next≤j∧a≠some (j,0)∧other≠some (j,0)) h' o ((cs.drop (i*sz)).take sz))
set_option maxHeartbeats 100000000 in
theorem txcopyw_go (e:EnCp E) (x:NoCp X) (N:Nat) (hN:1000<N) (t:TxQ) (g:gtOk t) (a b:Option (Nat × Nat)) (ca cb:Option Nat) (ea eb:Nat) (h:H) (ra:RowG (fun j=>j<h.next) 35 InC h t.ins a ea) (rb:RowG (fun j=>j<h.next) 2 OutC h t.outs b eb) (na:t.ins=[]→a=none∧ca=some 0∧ea=0) (nb:t.outs=[]→b=none∧cb=some 0∧eb=0) :
    ∃ h' a' b' ca' cb' ea' eb',callX E X (N+2) (.fn k_tx_Copy) [.agg (txV t a b ca cb ea eb)] h=some (.agg (txV t a' b' ca' cb' ea' eb'),h')∧Kp h h'∧RowN 35 InW h h' b' t.ins a' ca' ea'∧RowN 2 OutW h h' a' t.outs b' cb' eb'∧(∀ q z z',a'=some (q,z)→b'=some (q,z')→False):=by
  rw [z2c e.cp _ _ (Nat.le_of_ble_eq_true rfl) (x.cp _ _)]
  rw [show ([.int .u32 0,.slice none 0 (some 0) 0,.slice none 0 (some 0) 0,.int .u32 0]:List V)=Z4 from rfl]
  have ca2:∀ l:List V,(V.agg l).cells=l:=fun _=>rfl
  obtain ⟨p,ep⟩:∃ p,h.next=p:=⟨_,rfl⟩
  obtain ⟨hb,ehb⟩:∃ hb,(h.new (.cells (txV t a b ca cb ea eb) .rw)).new (.cells Z4 .rw)=hb:=⟨_,rfl⟩
  have kb:Kp h hb:=by rw [← ehb]; (repeat (first | exact Kp.refl _ | refine Kp.put ?_ _ (by first | omega | (simp only [zr,zh,zq]; omega)) | refine Kp.del ?_ (by first | omega | (simp only [zr,zh,zq]; omega)) | refine Kp.trans ?_ (Kp.new _ _)))
  have nb':hb.next=p+2:=by rw [← ehb,← ep]; rfl
  have g0:hb.get p=some (.cells (txV t a b ca cb ea eb) .rw):=by rw [← ehb,← ep]; (simp (disch:=omega) only [z19,zh,Nat.add_eq_left,decide_true,decide_false,za,z9,reduceCtorEq,]; try rfl)
  have gz:hb.get (p+1)=some (.cells Z4 .rw):=by rw [← ehb,← ep]; (simp (disch:=omega) only [z19,zh,decide_true,za,]; try rfl)
  obtain ⟨gi,go_,si,so⟩:=g
  have rab:RowG (fun j=>j<h.next) 35 InC hb t.ins a ea:=ra.mono2 itIn kb.1 (fun j _ hj=>kb.2 _ hj) (fun _ hj _=>hj)
  obtain ⟨h1,a1,c1,e1,r1,k1,n1,d1⟩:=icInw e.ci x.ci (fun N ops hne hl a c ez S h row=>iclone_go e.ci x.ci N ops hne hl a c ez S h row) N t.ins (by omega) a ca ea _ hb rab na
  have kn1:=k1.1
  have rbb:RowG (fun j=>j<h.next) 2 OutC h1 t.outs b eb:=rb.mono2 z4o (by have:=kb.1; omega) (fun j _ hj=>by rw [k1.2 _ (by have:=kb.1; omega),kb.2 _ hj]) (fun _ hj _=>hj)
  obtain ⟨h2,b1,c2,e2,r2,k2,n2,d2⟩:=icOutw e.co x.co (fun N ops hne hl a c ez S h row=>oclone_go e.co x.co N ops hne hl a c ez S h row) N t.outs (by omega) b cb eb _ h1 rbb nb
  have kn2:=k2.1
  have g1:h1.get p=some (.cells (txV t a b ca cb ea eb) .rw):=by rw [k1.2 _ (by omega),g0]
  have g2:h2.get p=some (.cells (txV t a b ca cb ea eb) .rw):=by rw [k2.2 _ (by omega),g1]
  have g2z:h2.get (p+1)=some (.cells Z4 .rw):=by rw [k2.2 _ (by omega),k1.2 _ (by omega),gz]
  obtain ⟨h4,eh4⟩:∃ h4,(h2.put p (.cells [.int .u32 (t.ver:Int),.slice a1 t.ins.length c1 e1,.slice b t.outs.length cb eb,.int .u32 (t.lock:Int)] .rw)).put p (.cells [.int .u32 (t.ver:Int),.slice a1 t.ins.length c1 e1,.slice b1 t.outs.length c2 e2,.int .u32 (t.lock:Int)] .rw)=h4:=⟨_,rfl⟩
  have n4:h4.next=h2.next:=by rw [← eh4]; rfl
  have g4:h4.get p=some (.cells (txV t a1 b1 c1 c2 e1 e2) .rw):=by rw [← eh4]; exact z1f _ _ _
  have f4:∀ j,j≠p→h4.get j=h2.get j:=fun j hj=>by rw [← eh4,z1o _ _ (Ne.symm hj),z1o _ _ (Ne.symm hj)]
  have F4:∀ j,j<p→h4.get j=h.get j:=fun j hj=>by rw [f4 _ (by omega),k2.2 _ (by omega),k1.2 _ (by omega),kb.2 _ (by omega)]
  obtain ⟨P2,eP2⟩:∃ P2,txV t a1 b1 c1 c2 e1 e2=P2:=⟨_,rfl⟩
  have p1:P2[1]?=some (.slice a1 t.ins.length c1 e1):=by rw [← eP2]; rfl
  have p2:P2[2]?=some (.slice b1 t.outs.length c2 e2):=by rw [← eP2]; rfl
  have fP:Fit 4 P2:=by rw [← eP2]; exact ⟨rfl,rfl⟩
  rw [eP2] at g4
  have la:∀ q z,a1=some (q,z)→hb.next≤q∧q<h1.next∧z=0:=by
    intro q z hq
    rcases d1 with ⟨_,h0,_⟩ | ⟨_,q',_,h0,_,_,l1,l2,_⟩
    · rw [h0] at hq; cases hq
    · rw [h0] at hq; cases hq; exact ⟨l1,l2,rfl⟩
  have lb:∀ q z,b1=some (q,z)→h1.next≤q∧q<h2.next∧z=0:=by
    intro q z hq
    rcases d2 with ⟨_,h0,_⟩ | ⟨_,q',_,h0,_,_,l1,l2,_⟩
    · rw [h0] at hq; cases hq
    · rw [h0] at hq; cases hq; exact ⟨l1,l2,rfl⟩
  have D1:(t.ins=[]∧a1=none∧c1=some 0∧e1=0)∨(0<t.ins.length∧∃ q cs,a1=some (q,0)∧c1=none∧e1=35∧q<h4.next∧h4.get q=some (.cells cs .rw)∧cs.length=t.ins.length*35∧∀ i o,t.ins[i]?=some o→InC (fun k=>k<h4.next∧k≠q) h4 o ((cs.drop (i*35)).take 35)):=by
    rcases d1 with d | ⟨hne,q,cs,h0,h1',h2',l1,l2,gq,lc,at_⟩
    · exact .inl d
    · refine .inr ⟨hne,q,cs,h0,h1',h2',by omega,by rw [f4 _ (by omega),k2.2 _ (by omega),gq],lc,fun i o ho=>?_⟩
      exact itIn.mono (at_ i o ho) (by omega) (fun k hk _=>by have hk:k<h.next:=hk; rw [F4 _ (by omega),kb.2 _ hk]) (fun k hk _=>by have hk:k<h.next:=hk; exact ⟨by omega,by omega⟩)
  have D2:∀ h5:H,h4.next≤h5.next→(∀ j,j<h4.next→a1≠some (j,0)→h5.get j=h4.get j)→(t.outs=[]∧b1=none∧c2=some 0∧e2=0)∨(0<t.outs.length∧∃ q cs,b1=some (q,0)∧c2=none∧e2=2∧q<h5.next∧h5.get q=some (.cells cs .rw)∧cs.length=t.outs.length*2∧∀ i o,t.outs[i]?=some o→OutC (fun k=>k<h5.next∧k≠q) h5 o ((cs.drop (i*2)).take 2)):=by
    intro h5 hn hf
    rcases d2 with d | ⟨hne,q,cs,h0,h1',h2',l1,l2,gq,lc,at_⟩
    · exact .inl d
    · refine .inr ⟨hne,q,cs,h0,h1',h2',by omega,by rw [hf _ (by omega) (fun hh=>by have:=la _ _ hh; omega),f4 _ (by omega),gq],lc,fun i o ho=>?_⟩
      exact z4o.mono (at_ i o ho) (by omega) (fun k hk _=>by have hk:k<h.next:=hk; rw [hf _ (by omega) (fun hh=>by have:=la _ _ hh; omega),F4 _ (by omega),k1.2 _ (by omega),kb.2 _ hk]) (fun k hk _=>by have hk:k<h.next:=hk; exact ⟨by omega,by omega⟩)
  have fin:∀ T,evO T (.t 1)=.ptr (some (p,0))→evO T (.t 2)=.ptr (some (p+1,0))→evO T (.t 15)=.int .i64 (t.ins.length:Int)→evO T (.t 16)=.int .i64 ((0:Nat):Int) →
      ∃ h',fnEnd [.cell 2 (some 4)] (bindE (blockE 0 (loopN (evC (callX E X (N+1)) 52 (N+1) none L_tx_Copy_0) (N+1) ⟨T,[],h4⟩)) (evC (callX E X (N+1)) 52 (N+1) none R_tx_Copy_1))=some (.agg P2,h')∧Kp h h'∧RowN 35 InW h h' b1 t.ins a1 c1 e1∧RowN 2 OutW h h' a1 t.outs b1 c2 e2:=by
    intro T t1 t2 tn ti
    obtain ⟨T5,h5,rr,u1,u2,g5,nx5,fr5,dd1⟩:=cpIn_loop e.cl x.cl N hN p (p+1) P2 t.ins (by omega) si a1 c1 e1 p1 h4 (by omega) g4 (fun z hh=>by have:=la _ _ hh; omega) D1 T t1 t2 tn ti
    rw [rr]
    have g5z:h5.get (p+1)=some (.cells Z4 .rw):=by rw [fr5 _ (by omega) (fun hh=>by have:=la _ _ hh; omega),f4 _ (by omega),g2z]
    have fin1:∀ T,evO T (.t 1)=.ptr (some (p,0))→evO T (.t 2)=.ptr (some (p+1,0))→evO T (.t 34)=.int .i64 (t.outs.length:Int)→evO T (.t 35)=.int .i64 ((0:Nat):Int) →
        ∃ h',fnEnd [.cell 2 (some 4)] (bindE (blockE 2 (loopN (evC (callX E X (N+1)) 52 (N+1) none L_tx_Copy_1) (N+1) ⟨T,[],h5⟩)) (evC (callX E X (N+1)) 52 (N+1) none R_tx_Copy_0))=some (.agg P2,h')∧Kp h h'∧RowN 35 InW h h' b1 t.ins a1 c1 e1∧RowN 2 OutW h h' a1 t.outs b1 c2 e2:=by
      intro T v1 v2 vn vi
      obtain ⟨T6,h6,rr,w1,w2,g6,nx6,fr6,dd2⟩:=cpOut_loop e.cl x.cl N hN p (p+1) P2 t.outs (by omega) so b1 c2 e2 p2 h5 (by omega) g5 (fun z hh=>by have:=lb _ _ hh; omega) (D2 h5 nx5 fr5) T v1 v2 vn vi
      rw [rr]
      have gz6:h6.get (p+1)=some (.cells Z4 .rw):=by rw [fr6 _ (by omega) (fun hh=>by have:=lb _ _ hh; omega),g5z]
      have st:=fun h i=>z4u fP h i
      have pu:=fun h i=>z3w fP h i Z4 rfl
      have ld:=fun m=>z3u fP m
      obtain ⟨h7,eh7⟩:∃ h7,h6.put (p+1) (.cells P2 .rw)=h7:=⟨_,rfl⟩
      have n7:h7.next=h6.next:=by rw [← eh7]; rfl
      have f7:∀ j,j≠p+1→h7.get j=h6.get j:=fun j hj=>by rw [← eh7,z1o _ _ (Ne.symm hj)]
      have g7:h7.get (p+1)=some (.cells P2 .rw):=by rw [← eh7]; exact z1f _ _ _
      refine ⟨h7,?_,⟨by omega,fun j hj=>by rw [f7 _ (by omega),fr6 _ (by omega) (fun hh=>by have:=lb _ _ hh; omega),fr5 _ (by omega) (fun hh=>by have:=la _ _ hh; omega),F4 _ (by omega)]⟩,?_,?_⟩
      · generalize Z4=z4 at *
        simp (config:={maxSteps:=2000000}) (disch:=first | omega | (simp only [List.length_cons,List.length_nil,List.length_append,List.length_drop]; omega)) only [R_tx_Copy_0,w1,w2,g6,ld,gz6,st,pu,eh7,g7,↓z1e,z1c,↓m_st,z2p,z49,z3d,zo,↓zw,↓zy,↓z1t,↓zu,↓s_op,↓zf,zf,↓zd,zd,zk,z1b,↓zb,↓zm,zp,z1x,zo,z1n,↓za,↓z9,za,z9,Nat.reduceEqDiff,decide_true,decide_false,if_true]
        try rfl
      · rcases dd1 with d | ⟨hne,q,cs,h0,h1',h2',l2,gq,lc,at_⟩
        · exact .inl d
        · have lq:=la _ _ h0
          refine .inr ⟨hne,q,cs,h0,h1',h2',by omega,by omega,by rw [f7 _ (by omega),fr6 _ (by omega) (fun hh=>by have:=lb _ _ hh; omega),gq],lc,fun i o ho=>?_⟩
          exact InW.mono2 (at_ i o ho) (by omega) (fun k hk hk2=>by have hk:h4.next≤k:=hk; rw [f7 _ (by omega),fr6 _ hk2 (fun hh=>by have:=lb _ _ hh; omega)]) (fun k hk _=>by have hk:h4.next≤k:=hk; exact ⟨by omega,fun hh=>by have:=la _ _ hh; omega,fun hh=>by have:=lb _ _ hh; omega⟩)
      · rcases dd2 with d | ⟨hne,q,cs,h0,h1',h2',l2,gq,lc,at_⟩
        · exact .inl d
        · have lq:=lb _ _ h0
          refine .inr ⟨hne,q,cs,h0,h1',h2',by omega,by omega,by rw [f7 _ (by omega),gq],lc,fun i o ho=>?_⟩
          exact OutW.mono2 (at_ i o ho) (by omega) (fun k hk hk2=>by have hk:h5.next≤k:=hk; rw [f7 _ (by omega)]) (fun k hk _=>by have hk:h5.next≤k:=hk; exact ⟨by omega,fun hh=>by have:=lb _ _ hh; omega,fun hh=>by have:=la _ _ hh; omega⟩)
    obtain ⟨R,eR⟩:∃ R,R_tx_Copy_0=R:=⟨_,rfl⟩
    obtain ⟨Lo,eL⟩:∃ R,L_tx_Copy_1=R:=⟨_,rfl⟩
    rw [eR,eL] at fin1
    obtain ⟨n,en⟩:∃ n,t.outs.length=n:=⟨_,rfl⟩
    rw [en] at p2 fin1
    simp (config:={maxSteps:=2000000}) (disch:=first | omega | (simp only [List.length_cons,List.length_nil,List.length_append,List.length_drop]; omega)) only [R_tx_Copy_1,eR,eL,u1,g5,p2,↓z1q,z18,↓zn,z14,Nat.zero_add,↓z2k,↓z2e,↓z1e,z1c,↓zj,zj,z18,↓z1q,↓zw,↓zy,↓z15,↓zu,↓s_op,↓zf,zf,↓zd,zd,zk,z1b,↓zb,↓z17,↓z12,zp,↓za,za,Nat.zero_add,decide_true,if_true]
    exact fin1 _ (by (simp only [zb,Nat.reduceEqDiff,decide_false,z9,u1]; try rfl)) (by (simp only [zb,Nat.reduceEqDiff,decide_false,z9,u2]; try rfl)) (by (simp only [zb,Nat.reduceEqDiff,decide_false,decide_true,z9,za]; try rfl)) (by (simp only [zb,decide_true,za]; try rfl))
  have dis:∀ q z z',a1=some (q,z)→b1=some (q,z')→False:=fun q z z' h1' h2'=>by have:=la _ _ h1'; have:=lb _ _ h2'; omega
  suffices hh:∃ h',_=some (V.agg P2,h')∧Kp h h'∧RowN 35 InW h h' b1 t.ins a1 c1 e1∧RowN 2 OutW h h' a1 t.outs b1 c2 e2 by
    obtain ⟨h',q1,q2,q3,q4⟩:=hh
    exact ⟨h',a1,b1,c1,c2,e1,e2,by rw [eP2]; exact q1,q2,q3,q4,dis⟩
  obtain ⟨R,eR⟩:∃ R,R_tx_Copy_1=R:=⟨_,rfl⟩
  obtain ⟨Lo,eL⟩:∃ R,L_tx_Copy_0=R:=⟨_,rfl⟩
  rw [eR,eL] at fin ⊢
  have stS:∀ h i o' (a:Option (Nat × Nat)) n c e',storeV h 1 (.ptr (some (i,o'))) (.slice a n c e')=storeE (h.get i) h i o' [.slice a n c e']:=fun h i o' a n c e'=>z3s h 1 i o' _ rfl
  obtain ⟨n,en⟩:∃ n,t.ins.length=n:=⟨_,rfl⟩
  obtain ⟨m,em⟩:∃ n,t.outs.length=n:=⟨_,rfl⟩
  rw [en] at p1 eh4 fin r1
  rw [em] at eh4 r2
  unfold txV at ehb g0 g1 g2 ⊢
  rw [en,em] at ehb g0 g1 g2 ⊢
  clear D1 D2 d1 d2 la lb dis F4 f4
  generalize Z4=z4 at *
  generalize V.int .u32 (t.ver:Int)=vv at *
  generalize V.int .u32 (t.lock:Int)=vl at *
  simp (config:={maxSteps:=2000000}) (disch:=first | omega | (simp only [List.length_cons,List.length_nil,List.length_append,List.length_drop]; omega)) only [ca2,ep,ehb,g0,r1,g1,r2,g2,stS,eh4,g4,p1,↓z2x,↓z1q,z18,z6t,↓zn,z14,Nat.zero_add,↓z4x,↓z3i,↓s_dL,↓s_dR,↓s_dRj,↓s_dB,↓z28,z28,z4p,z38,↓z37,s_ok0,↓s_ok1,z6a,↓z5z,↓z4w,z4w,z6b,z6c,z6e,Bool.and_self,↓z2k,↓z2e,↓z1k,zh,↓z1e,z1c,↓zj,zj,↓m_st,z2p,z1v,z2q,z7w,↓z2d,z18,↓z1q,List.length_cons,List.length_nil,List.cons_append,List.drop_succ_cons,List.drop_zero,List.nil_append,↓zw,↓z3h,↓zy,↓z15,↓zu,↓s_op,↓zf,zf,↓zd,zd,zk,↓zb,↓zm,↓z1s,↓z17,↓z24,↓z26,↓z11,↓z13,↓z12,↓z1z,zp,↓za,↓z9,za,z9,Nat.zero_add,List.nil_append,Nat.reduceEqDiff,decide_true,decide_false,List.getElem?_cons_zero,List.getElem?_cons_succ]
  exact fin _ (by (simp only [zb,zm,Nat.reduceEqDiff,decide_false,decide_true,z9,za]; try rfl)) (by (simp only [zb,zm,Nat.reduceEqDiff,decide_false,decide_true,z9,za]; try rfl)) (by (simp only [zb,Nat.reduceEqDiff,decide_false,decide_true,z9,za]; try rfl)) (by (simp only [zb,decide_true,za]; try rfl))
end Go.Eng
