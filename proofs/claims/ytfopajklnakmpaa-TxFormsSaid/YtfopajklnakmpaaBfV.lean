import Derived.Test.YtfopajklnakmpaaBfU
namespace Go.Eng
open Go
variable {E:Nat→Option Fn} {X:Orc}
set_option linter.unusedSimpArgs false
set_option linter.unusedVariables false
theorem byt_shaV (l:List Nat):byt (shaV l)=true:=shaV_byt _
theorem rtw2_go (e:EnRo E) (x:NoRo X) (et:E k_purserref04_Twice=some f_purserref04_Twice) (xt:∀ a h,X (.fn k_purserref04_Twice) a h=none) (K:Nat) (hK:8000<K) (l:List Nat) (bl:byt l=true) (hl2:l.length≤400000) (a:Option (Nat × Nat)) (c:Option Nat) (ez:Nat) (h:H) (src:SrcH h a ez l) :
    ∃ h',callX E X (K+301) (.fn k_purserref04_Twice) [.slice a l.length c ez] h=some (.agg (ofI .u8 (shaV (shaV l))),h')∧Kp h h':=by
  rw [z2c et _ _ (Nat.le_of_ble_eq_true rfl) (xt _ _)]
  rw [← z32e]
  obtain ⟨Z,eZ⟩:∃ Z,ofI .u8 (List.replicate 32 0)=Z:=⟨_,rfl⟩
  rw [eZ]
  obtain ⟨hA,eA⟩:∃ hA,h.new (.cells Z .rw)=hA:=⟨_,rfl⟩
  have kA:Kp h hA:=by rw [← eA]; exact Kp.new _ _
  have nA:hA.next=h.next+1:=by rw [← eA]; rfl
  have g0:hA.get h.next=some (.cells Z .rw):=by rw [← eA]; exact z1g _ _
  obtain ⟨h1,r1,k1⟩:=rof_goz e x K l bl (by omega) (by omega) a c ez hA (src.mono kA)
  have kn1:=k1.1
  obtain ⟨s,es⟩:∃ s,shaV l=s:=⟨_,rfl⟩
  have hs:s.length=32:=by rw [← es]; exact z47 l
  obtain ⟨st,pu,ld⟩:=z5u s hs Z eZ
  rw [es] at r1 ⊢
  obtain ⟨h2,eh2⟩:∃ h2,(h1.new (.cells Z .rw)).put h1.next (.cells (ofI .u8 s) .rw)=h2:=⟨_,rfl⟩
  have k2:Kp h1 h2:=by rw [← eh2]; (repeat (first | exact Kp.refl _ | refine Kp.put ?_ _ (by first | omega | (simp only [zr,zh,zq]; omega)) | refine Kp.del ?_ (by first | omega | (simp only [zr,zh,zq]; omega)) | refine Kp.trans ?_ (Kp.new _ _)))
  have n2:h2.next=h1.next+1:=by rw [← eh2]; rfl
  have gz:(h1.new (.cells Z .rw)).get h1.next=some (.cells Z .rw):=z1g _ _
  have g2:h2.get h1.next=some (.cells (ofI .u8 s) .rw):=by rw [← eh2]; exact z1f _ _ _
  obtain ⟨h3,r3,k3⟩:=rof_goz e x K s (by rw [← es]; exact byt_shaV l) (by omega) (by omega) (some (h1.next,0)) (some 32) 1 h2 (.inr ⟨h1.next,0,ofI .u8 s,.rw,rfl,rfl,by omega,g2,by rw [z1a]; omega,by rw [List.drop_zero]; exact List.take_of_length_le (by rw [z1a]; omega)⟩)
  rw [hs] at r3
  have kn3:=k3.1
  obtain ⟨s2,es2⟩:∃ s2,shaV s=s2:=⟨_,rfl⟩
  have hs2:s2.length=32:=by rw [← es2]; exact z47 s
  obtain ⟨st2,pu2,ld2⟩:=z5u s2 hs2 Z eZ
  rw [es2] at r3 ⊢
  have g3:h3.get h.next=some (.cells Z .rw):=by rw [k3.2 _ (by omega),k2.2 _ (by omega),k1.2 _ (by omega),g0]
  refine ⟨h3.put h.next (.cells (ofI .u8 s2) .rw),?_,⟨by show h.next≤h3.next; omega,fun j hj=>by rw [z1o _ _ (by omega),k3.2 _ (by omega),k2.2 _ (by omega),k1.2 _ (by omega),kA.2 _ hj]⟩⟩
  have sB:∀ h i,slcB (some (.cells (ofI .u8 s) .rw)) 32 1 i 0 none none h=some (.slice (some (i,0)) 32 (some 32) 1,h):=fun h i=>z80 _ _ _ _ _ _ (by rw [z1a]; omega)
  generalize ofI .u8 s2=S2 at *
  generalize ofI .u8 s=S1 at *
  generalize l.length=n at *
  simp (config:={maxSteps:=2000000}) (disch:=first | omega | (simp only [List.length_cons,List.length_nil,List.length_append,List.length_drop]; omega)) only [eA,r1,st,pu,eh2,g2,r3,g3,st2,pu2,ld2,↓z6w,z53,sB,x_M0,↓z1k,↓z19,z1c,↓m_st,z2p,↓z2d,z49,z3d,zo,↓zw,↓zy,↓z1t,↓zu,↓s_op,↓zf,zf,↓zd,zd,zk,↓zb,↓zm,↓z1s,↓z24,↓z26,↓z11,↓z13,↓z12,↓z1z,z1x,zo,z1n,↓za,↓z9,za,z9,Nat.reduceEqDiff,decide_true,decide_false]
  try rfl
theorem rid_go (e:EnRo E) (x:NoRo X) (et:E k_purserref04_Twice=some f_purserref04_Twice) (xt:∀ a h,X (.fn k_purserref04_Twice) a h=none) (de:EnDe E) (xde:NoDe X) (ei:E k_purserref06_Id=some f_purserref06_Id) (xi:∀ a h,X (.fn k_purserref06_Id) a h=none) (K:Nat) (hK:10000<K) (t:TxQ) (ok:t.ok) (g:gtOk t) (P:List V) (h:H) (tc:TxC (fun j=>j<h.next) h t P) :
    ∃ (s:List Nat) (z:Int) (h':H),callX E X (K+302) (.fn k_purserref06_Id) [.agg P] h=some (.tup [.agg (ofI .u8 s),.int .i64 z],h')∧Kp h h'∧s.length=32∧((ckOk t∧s=shaV (shaV (txB t))∧z=0)∨(¬ ckOk t∧s=List.replicate 32 0∧z=60)):=by
  rw [z2c ei _ _ (Nat.le_of_ble_eq_true rfl) (xi _ _)]
  rw [← z32e]
  obtain ⟨Z,eZ⟩:∃ Z,ofI .u8 (List.replicate 32 0)=Z:=⟨_,rfl⟩
  rw [eZ]
  have ca':∀ l:List V,(V.agg l).cells=l:=fun _=>rfl
  obtain ⟨hb,ehb⟩:∃ hb,(h.new (.cells P .rw)).new (.cells Z .rw)=hb:=⟨_,rfl⟩
  have kb:Kp h hb:=by rw [← ehb]; (repeat (first | exact Kp.refl _ | refine Kp.put ?_ _ (by first | omega | (simp only [zr,zh,zq]; omega)) | refine Kp.del ?_ (by first | omega | (simp only [zr,zh,zq]; omega)) | refine Kp.trans ?_ (Kp.new _ _)))
  have nb:hb.next=h.next+2:=by rw [← ehb]; rfl
  have g0:hb.get h.next=some (.cells P .rw):=by rw [← ehb]; (simp (disch:=omega) only [z19,zh,Nat.add_eq_left,decide_true,decide_false,za,z9,reduceCtorEq,]; try rfl)
  have gz:hb.get (h.next+1)=some (.cells Z .rw):=by rw [← ehb]; (simp (disch:=omega) only [z19,zh,decide_true,za,]; try rfl)
  have fP:=tc.fit
  have lP:=fun m=>z3u fP m
  have z0:decide ((0:Int)=0)=true:=rfl
  have z6:decide ((60:Int)=0)=false:=rfl
  rcases z6m de xde (K+277) (by omega) t ok g P hb (tc.kp kb) with ⟨ck,h1,a1,c1,e1,r1,nw1⟩ | ⟨no,h1,r1,k1⟩
  · replace r1:callX E X (K+301) (.fn k_purserref06_Encode) _ hb=_:=r1
    have k1:=nw1.kp
    have kn1:=k1.1
    have lB:=txB_le t ok g
    obtain ⟨h2,r2,k2⟩:=rtw2_go e x et xt K (by omega) (txB t) (z6r t ok) (by omega) a1 c1 e1 h1 nw1.wb.src
    have kn2:=k2.1
    obtain ⟨s,es⟩:∃ s,shaV (shaV (txB t))=s:=⟨_,rfl⟩
    have hs:s.length=32:=by rw [← es]; exact z47 _
    obtain ⟨st,pu,ld⟩:=z5u s hs Z eZ
    rw [es] at r2
    have g2:h2.get (h.next+1)=some (.cells Z .rw):=by rw [k2.2 _ (by omega),k1.2 _ (by omega),gz]
    refine ⟨s,0,h2.put (h.next+1) (.cells (ofI .u8 s) .rw),?_,⟨by show h.next≤h2.next; omega,fun j hj=>by rw [z1o _ _ (by omega),k2.2 _ (by omega),k1.2 _ (by omega),kb.2 _ hj]⟩,hs,.inl ⟨ck,es.symm,rfl⟩⟩
    generalize ofI .u8 s=S1 at *
    generalize (txB t).length=n at *
    simp (config:={maxSteps:=2000000}) (disch:=first | omega | (simp only [List.length_cons,List.length_nil,List.length_append,List.length_drop]; omega)) only [ca',ehb,g0,lP,r1,Bool.not_true,r2,g2,st,pu,ld,↓z2x,↓z1k,zh,↓z1e,z1c,↓m_st,z2p,↓z2d,z49,z3d,zo,↓z1p,↓zw,↓zy,↓z10,↓z1t,↓zu,↓s_op,↓zf,zf,↓zd,zd,zk,↓zg,zg,↓zb,↓zm,↓z1s,↓z17,↓z24,↓z26,↓z11,↓z13,↓z12,↓z1h,↓z1z,↓s_ext,zp,z3j,z1x,zo,z1m,z4y,↓za,↓z9,za,z9,Nat.reduceEqDiff,decide_true,decide_false,Bool.not_true,List.getElem?_cons_zero,List.getElem?_cons_succ]
    try rfl
  · replace r1:callX E X (K+301) (.fn k_purserref06_Encode) _ hb=_:=r1
    have kn1:=k1.1
    obtain ⟨st,pu,ld⟩:=z5u (List.replicate 32 0) (List.length_replicate) Z eZ
    rw [eZ] at st pu ld
    have g2:h1.get (h.next+1)=some (.cells Z .rw):=by rw [k1.2 _ (by omega),gz]
    refine ⟨List.replicate 32 0,60,h1.put (h.next+1) (.cells Z .rw),?_,⟨by show h.next≤h1.next; omega,fun j hj=>by rw [z1o _ _ (by omega),k1.2 _ (by omega),kb.2 _ hj]⟩,List.length_replicate,.inr ⟨no,rfl,rfl⟩⟩
    rw [eZ]
    simp (config:={maxSteps:=2000000}) (disch:=first | omega | (simp only [List.length_cons,List.length_nil,List.length_append,List.length_drop]; omega)) only [ca',ehb,g0,lP,r1,Bool.not_false,g2,st,pu,ld,↓z54,z71,z2y,↓z2x,↓z1k,zh,↓z1e,z1c,↓m_st,z2p,↓z2d,↓x_P0,z2y,Int.reduceEq,z49,z3d,zo,↓zw,↓zy,↓z10,↓z1t,↓zu,↓s_op,↓zf,zf,↓zd,zd,z1d,zk,↓zg,zg,↓zb,↓zm,↓z1s,↓z17,↓z24,↓z26,↓z11,↓z13,↓z12,↓z1h,↓z1z,↓s_ext,zp,z3j,z1x,zo,z1m,z4y,↓za,↓z9,za,z9,Nat.reduceEqDiff,decide_true,decide_false,Bool.not_false,List.getElem?_cons_zero,List.getElem?_cons_succ]
    try rfl
theorem siz_inj (m n:Nat) (hm:m<18446744073709551616) (hn:n<18446744073709551616) (r s:List Nat) (h:sizV m++r=sizV n++s):m=n∧r=s:=by
  have h1:=siz_com m hm r
  rw [h,siz_com n hn s] at h1
  have e:n=m:=(Prod.mk.inj (Option.some.inj h1)).1
  subst e
  exact ⟨rfl,List.append_cancel_left h⟩
theorem z84 (k a b:Nat) (ha:a<256 ^ k) (hb:b<256 ^ k) (e:leN k a=leN k b):a=b:=by
  rw [← numV_leN k a ha,← numV_leN k b hb,e]
theorem inB_inj (a b:InQ) (oa:a.ok) (ob:b.ok) (la:a.l.length<18446744073709551616) (lb:b.l.length<18446744073709551616) (r s:List Nat) (h:inB a++r=inB b++s):a=b∧r=s:=by
  unfold inB at h
  simp only [List.append_assoc] at h
  obtain ⟨h1,h⟩:=List.append_inj h (by rw [oa.lt,ob.lt])
  obtain ⟨h2,h⟩:=List.append_inj h (by rw [z20,z20])
  obtain ⟨h3,h⟩:=siz_inj _ _ la lb _ _ h
  obtain ⟨h4,h⟩:=List.append_inj h h3
  obtain ⟨h5,h⟩:=List.append_inj h (by rw [z20,z20])
  have q2:=z84 4 _ _ (by have:=oa.n1; simpa using this) (by have:=ob.n1; simpa using this) h2
  have q5:=z84 4 _ _ (by have:=oa.q1; simpa using this) (by have:=ob.q1; simpa using this) h5
  refine ⟨?_,h⟩
  obtain ⟨x1,x2,x3,x4⟩:=a
  obtain ⟨y1,y2,y3,y4⟩:=b
  simp only at h1 q2 h4 q5
  rw [h1,q2,h4,q5]
theorem outB_inj (a b:OutQ) (oa:a.ok) (ob:b.ok) (la:a.l.length<18446744073709551616) (lb:b.l.length<18446744073709551616) (r s:List Nat) (h:outB a++r=outB b++s):a=b∧r=s:=by
  unfold outB at h
  simp only [List.append_assoc] at h
  obtain ⟨h1,h⟩:=List.append_inj h (by rw [z20,z20])
  obtain ⟨h3,h⟩:=siz_inj _ _ la lb _ _ h
  obtain ⟨h4,h⟩:=List.append_inj h h3
  have q1:=z84 8 _ _ (by have:(256:Nat) ^ 8=18446744073709551616:=rfl; omega) (by have:(256:Nat) ^ 8=18446744073709551616:=rfl; omega) h1
  refine ⟨?_,h⟩
  have qa:=oa.v0
  have qa':=oa.v1
  have qb:=ob.v0
  have qb':=ob.v1
  obtain ⟨x1,x2⟩:=a
  obtain ⟨y1,y2⟩:=b
  simp only at q1 h4 qa qa' qb qb'
  have:x1=y1:=by omega
  rw [this,h4]
theorem list_inj {α:Type} (f:α→List Nat) (ok:α→Prop) (inj:∀ a b,ok a→ok b→∀ r s,f a++r=f b++s→a=b∧r=s):∀ (as bs:List α),as.length=bs.length→(∀ a ∈ as,ok a)→(∀ b ∈ bs,ok b)→∀ r s,(as.map f).flatten++r=(bs.map f).flatten++s→as=bs∧r=s:=by
  intro as
  induction as with
  | nil =>
    intro bs hl _ _ r s h
    cases bs with
    | nil=>exact ⟨rfl,h⟩
    | cons=>cases hl
  | cons a as ih =>
    intro bs hl ha hb r s h
    cases bs with
    | nil=>cases hl
    | cons b bs =>
      simp only [List.map_cons,List.flatten_cons,List.append_assoc] at h
      obtain ⟨e1,h⟩:=inj a b (ha a List.mem_cons_self) (hb b List.mem_cons_self) _ _ h
      obtain ⟨e2,h⟩:=ih bs (by simpa using hl) (fun x hx=>ha x (List.mem_cons_of_mem _ hx)) (fun x hx=>hb x (List.mem_cons_of_mem _ hx)) r s h
      exact ⟨by rw [e1,e2],h⟩
theorem txB_injG (a b:TxQ) (oa:a.ok) (ob:b.ok) (ga:gtOk a) (gb:gtOk b) (h:txB a=txB b):a=b:=by
  unfold txB at h
  simp only [List.append_assoc] at h
  obtain ⟨h1,h⟩:=List.append_inj h (by rw [z20,z20])
  obtain ⟨h2,h⟩:=siz_inj _ _ (by have:=ga.1; omega) (by have:=gb.1; omega) _ _ h
  obtain ⟨h3,h⟩:=list_inj inB (fun o=>o.ok∧o.l.length≤2100) (fun x y ox oy r s h=>inB_inj x y ox.1 oy.1 (by have:=ox.2; omega) (by have:=oy.2; omega) r s h) _ _ h2 (fun o ho=>⟨oa.io o ho,ga.2.2.1 o ho⟩) (fun o ho=>⟨ob.io o ho,gb.2.2.1 o ho⟩) _ _ h
  obtain ⟨h4,h⟩:=siz_inj _ _ (by have:=ga.2.1; omega) (by have:=gb.2.1; omega) _ _ h
  obtain ⟨h5,h⟩:=list_inj outB (fun o=>o.ok∧o.l.length≤2100) (fun x y ox oy r s h=>outB_inj x y ox.1 oy.1 (by have:=ox.2; omega) (by have:=oy.2; omega) r s h) _ _ h4 (fun o ho=>⟨oa.oo o ho,ga.2.2.2 o ho⟩) (fun o ho=>⟨ob.oo o ho,gb.2.2.2 o ho⟩) _ _ h
  have q1:=z84 4 _ _ (by have:=oa.v1; simpa using this) (by have:=ob.v1; simpa using this) h1
  have q6:=z84 4 _ _ (by have:=oa.l1; simpa using this) (by have:=ob.l1; simpa using this) h
  obtain ⟨x1,x2,x3,x4⟩:=a
  obtain ⟨y1,y2,y3,y4⟩:=b
  simp only at q1 h3 h5 q6
  rw [q1,h3,h5,q6]
end Go.Eng
