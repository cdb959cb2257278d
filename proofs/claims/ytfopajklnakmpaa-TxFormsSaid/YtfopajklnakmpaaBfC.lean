import Derived.Test.YtfopajklnakmpaaBfB
namespace Go.Eng
open Go
variable {E:Nat→Option Fn} {X:Orc}
set_option linter.unusedSimpArgs false
set_option linter.unusedVariables false
theorem cy_go (xy:∀ l a h,X (.yld l) a h=none) (M L p3 D:Nat) (T0:Tr V) (t3:evO T0 (.t 3)=.ptr (some (p3,0))) (zL3:L≠p3) (h:H) (n0:Int)
    (g3:h.get p3=some (.cells [.int .i64 n0] .rw)) (gL:h.get L=some (.loop 0 none 24 T0 [19] A_tx_Check_0 B_tx_Check_0 D)) (b:Option (Nat × Nat)) (l:Nat) (hl:l<9223372036854775807) (cb:Option Nat) (eb:Nat) :
    ∃ h',h'.next=h.next∧(∀ i,i≠p3→i≠L→h'.get i=h.get i)∧(l≤2000→callX E X (M+1) (.yld L) [.slice b l cb eb] h=some (.bool true,h')∧h'.get p3=some (.cells [.int .i64 n0] .rw)∧h'.get L=some (.loop 0 none 24 T0 [19] A_tx_Check_0 B_tx_Check_0 D)) ∧
      (2000<l→callX E X (M+1) (.yld L) [.slice b l cb eb] h=some (.bool false,h')∧h'.get p3=some (.cells [.int .i64 60] .rw)∧h'.get L=some (.loop 2 (some (.exit 0)) 24 T0 [19] A_tx_Check_0 B_tx_Check_0 D)):=by
  have yx:callX E X (M+1) (.yld L) [.slice b l cb eb] h=cYld (callX E X M) M L [.slice b l cb eb] h:=x_yld (xy _ _ _)
  rw [yx]
  have y3:(L=p3)=False:=by simp; omega
  have y3':(p3=L)=False:=by simp; omega
  obtain ⟨hB,eB⟩:∃ hB,h.put L (.loop 1 none 24 T0 [19] A_tx_Check_0 B_tx_Check_0 D)=hB:=⟨_,rfl⟩
  have nB:hB.next=h.next:=by rw [← eB]; rfl
  have fB:∀ i,i≠L→hB.get i=h.get i:=fun i hne=>by rw [← eB,z1o _ _ (Ne.symm hne)]
  have gB3:hB.get p3=some (.cells [.int .i64 n0] .rw):=by rw [fB _ (Ne.symm zL3),g3]
  have gBL:hB.get L=some (.loop 1 none 24 T0 [19] A_tx_Check_0 B_tx_Check_0 D):=by rw [← eB]; exact z1f _ _ _
  by_cases hc:l≤2000
  · have c0:decide ((2000:Int)<(l:Int))=false:=decide_eq_false (by omega)
    obtain ⟨hE,eE⟩:∃ hE,hB.put L (.loop 0 none 24 T0 [19] A_tx_Check_0 B_tx_Check_0 D)=hE:=⟨_,rfl⟩
    refine ⟨hE,by rw [← eE]; exact nB,fun i n3 nL=>by rw [← eE,z1o _ _ (Ne.symm nL),fB _ nL],fun _=>⟨?_,by rw [← eE,z1o _ _ zL3,gB3],by rw [← eE]; exact z1f _ _ _⟩,fun h=>by omega⟩
    simp (config:={maxSteps:=2000000}) (disch:=first | omega | (simp only [List.length_cons,List.length_nil,List.length_append,List.length_drop]; omega)) only [gL,eB,gBL,eE,c0,z81,z5m,y_set1,y_mid,z7o,y_end,z7r,y_jn,Option.isNone_none,↓z5h,↓z5g,↓z1q,z18,z18,↓z1q,↓z1p,↓zw,↓zy,↓z10,↓z15,↓zu,↓s_op,↓zf,zf,↓zd,zd,zk,↓zg,zg,zt,↓zb,↓z1s,↓z17,↓z12,↓z1h,zp,z3g,↓za,↓z9,za,z9,decide_true]
  · have c0:decide ((2000:Int)<(l:Int))=true:=decide_eq_true (by omega)
    obtain ⟨hE,eE⟩:∃ hE,(hB.put p3 (.cells [.int .i64 60] .rw)).put L (.loop 2 (some (.exit 0)) 24 T0 [19] A_tx_Check_0 B_tx_Check_0 D)=hE:=⟨_,rfl⟩
    refine ⟨hE,by rw [← eE]; exact nB,fun i n3 nL=>by rw [← eE,z1o _ _ (Ne.symm nL),z1o _ _ (Ne.symm n3),fB _ nL],fun h=>absurd h hc,fun _=>⟨?_,by rw [← eE]; (simp (disch:=omega) only [z1k,decide_true,decide_false,za,z9,y3]; try rfl),by rw [← eE]; exact z1f _ _ _⟩⟩
    simp (config:={maxSteps:=2000000}) (disch:=first | omega | (simp only [List.length_cons,List.length_nil,List.length_append,List.length_drop]; omega)) only [gL,t3,y3',eB,gB3,gBL,eE,c0,z81,z5m,y_set1,y_mid,z7o,y_end,z7r,y_je,Option.isNone_some,↓z5h,↓z5g,↓z1q,z18,Nat.zero_add,↓z1k,↓m_st,z2p,z2f,z1v,z2q,z18,↓z1q,List.length_cons,List.length_nil,List.drop_succ_cons,List.drop_nil,↓zw,↓zy,↓z10,↓z15,↓z2b,↓zu,↓s_op,↓zf,zf,↓zd,zd,zk,↓zg,zg,z1b,↓zb,↓z1s,↓z17,↓z12,↓z1h,zp,z3g,↓za,↓z9,za,z9,Nat.zero_add,List.append_nil,Nat.reduceEqDiff,decide_true,decide_false,if_false]
structure ScI (S:Nat→Prop) (hB:H) (L p3 D:Nat) (T0:Tr V) (h:H):Prop where
  g3:h.get p3=some (.cells [.int .i64 0] .rw)
  gL:h.get L=some (.loop 0 none 24 T0 [19] A_tx_Check_0 B_tx_Check_0 D)
  nx:hB.next≤h.next
  fr:∀ j,j<hB.next→j≠p3→j≠L→h.get j=hB.get j
structure ScE (hB:H) (L p3 D:Nat) (T0:Tr V) (h:H):Prop where
  g3:h.get p3=some (.cells [.int .i64 60] .rw)
  gL:h.get L=some (.loop 2 (some (.exit 0)) 24 T0 [19] A_tx_Check_0 B_tx_Check_0 D)
  nx:hB.next≤h.next
  fr:∀ j,j<hB.next→j≠p3→j≠L→h.get j=hB.get j
structure S0T (L:Nat) (v1 v8:V) (n i:Nat) (T:Tr V):Prop where
  il:i≤n
  t0:evO T (.t 0)=.yld L
  t1:evO T (.t 1)=v1
  t8:evO T (.t 8)=v8
  t9:evO T (.t 9)=.int .i64 (n:Int)
  t10:evO T (.t 10)=.int .i64 (i:Int)
theorem sc0_round (xy:∀ l a h,X (.yld l) a h=none) (M m:Nat) (ins:List InQ) (hl:ins.length≤100000000) (S:Nat→Prop) (hB:H) (L p3 D:Nat) (T0:Tr V) (t3:evO T0 (.t 3)=.ptr (some (p3,0))) (zL3:L≠p3) (h3:p3<hB.next) (hL:L<hB.next) (hS:∀ j,S j→j<hB.next∧j≠p3∧j≠L) (v1:V) (a:Option (Nat × Nat)) (c:Option Nat) (e:Nat) (row:RowG S 35 InC hB ins a e) (i:Nat) (o:InQ) (ho:ins[i]?=some o) (hol:o.l.length<9223372036854775807) (T:Tr V) (h:H) (I:S0T L v1 (.slice a ins.length c e) ins.length i T) (J:ScI S hB L p3 D T0 h) :
    (o.l.length≤2000→∃ T' h',evC (callX E X (M+1)) 33 m none L_tx_scripts_1_0 ⟨T,[],h⟩=some (.normal,⟨T',[],h'⟩)∧S0T L v1 (.slice a ins.length c e) ins.length (i+1) T'∧ScI S hB L p3 D T0 h') ∧
    (2000<o.l.length→∃ T' h',evC (callX E X (M+1)) 33 m none L_tx_scripts_1_0 ⟨T,[],h⟩=some (.ret,⟨T',[],h'⟩)∧ScE hB L p3 D T0 h'):=by
  obtain ⟨_,t0,t1,t8,t9,t10⟩:=I
  obtain ⟨g3,gL,nx,fr⟩:=J
  have hi:=(List.getElem?_eq_some_iff.1 ho).1
  have kS:∀ j,S j→h.get j=hB.get j:=fun j hj=>fr j (hS j hj).1 (hS j hj).2.1 (hS j hj).2.2
  have row':RowG S 35 InC h ins a e:=row.mono nx kS (fun _ h=>h) (fun o p r=>r.mono nx kS (fun _ h=>h))
  obtain ⟨q,off,vs,md,P,rfl,rfl,hsq,gq,⟨b,cb,eb,rfl,sb,l32⟩,ld⟩:=z4z row' i _ ho
  have c0:decide ((i:Int)<(ins.length:Int))=true:=decide_eq_true (by omega)
  have wi:wr .i64 ((i:Int)+1)=((i+1:Nat):Int):=by rw [z1u (by omega)]; omega
  have ix:idx (i:Int) ins.length=some i:=idxn hi
  obtain ⟨_,p33,_⟩:=inV_n o b cb eb l32
  have st:=inV_st o b cb eb l32
  obtain ⟨h1,eh1⟩:∃ h1,(h.new (.cells [.int .u8 0,.int .u8 0,.int .u8 0,.int .u8 0,.int .u8 0,.int .u8 0,.int .u8 0,.int .u8 0,.int .u8 0,.int .u8 0,.int .u8 0,.int .u8 0,.int .u8 0,.int .u8 0,.int .u8 0,.int .u8 0,.int .u8 0,.int .u8 0,.int .u8 0,.int .u8 0,.int .u8 0,.int .u8 0,.int .u8 0,.int .u8 0,.int .u8 0,.int .u8 0,.int .u8 0,.int .u8 0,.int .u8 0,.int .u8 0,.int .u8 0,.int .u8 0,.int .u32 0,.slice none 0 (some 0) 0,.int .u32 0] .rw)).put h.next (.cells (inV o b cb eb) .rw)=h1:=⟨_,rfl⟩
  have pu:=fun (h:H) (j:Nat)=>inV_put o b cb eb l32 h j [.int .u8 0,.int .u8 0,.int .u8 0,.int .u8 0,.int .u8 0,.int .u8 0,.int .u8 0,.int .u8 0,.int .u8 0,.int .u8 0,.int .u8 0,.int .u8 0,.int .u8 0,.int .u8 0,.int .u8 0,.int .u8 0,.int .u8 0,.int .u8 0,.int .u8 0,.int .u8 0,.int .u8 0,.int .u8 0,.int .u8 0,.int .u8 0,.int .u8 0,.int .u8 0,.int .u8 0,.int .u8 0,.int .u8 0,.int .u8 0,.int .u8 0,.int .u8 0,.int .u32 0,.slice none 0 (some 0) 0,.int .u32 0] rfl
  have k1:Kp h h1:=by rw [← eh1]; (repeat (first | exact Kp.refl _ | refine Kp.put ?_ _ (by first | omega | (simp only [zr,zh,zq]; omega)) | refine Kp.del ?_ (by first | omega | (simp only [zr,zh,zq]; omega)) | refine Kp.trans ?_ (Kp.new _ _)))
  have kn1:=k1.1
  have g1:h1.get h.next=some (.cells (inV o b cb eb) .rw):=by rw [← eh1]; exact z1f _ _ _
  obtain ⟨h2,n2,f2,y1,y2⟩:=cy_go (E:=E) xy M L p3 D T0 t3 zL3 h1 0 (by rw [k1.2 _ (by omega),g3]) (by rw [k1.2 _ (by omega),gL]) b o.l.length hol cb eb
  have fr2:∀ j,j<hB.next→j≠p3→j≠L→h2.get j=hB.get j:=fun j hj j1 j2=>by rw [f2 j j1 j2,k1.2 _ (by omega),fr j hj j1 j2]
  have i1:i+1≤ins.length:=hi
  obtain ⟨n,en⟩:∃ n,ins.length=n:=⟨_,rfl⟩
  rw [en] at t8 t9 c0 ix
  constructor
  · intro hc
    obtain ⟨yr,y3,yL⟩:=y1 hc
    obtain ⟨T',r,u0,u1,u8,u9,u10⟩:∃ T',evC (callX E X (M+1)) 33 m none L_tx_scripts_1_0 ⟨T,[],h⟩=some (.normal,⟨T',[],h2⟩)∧evO T' (.t 0)=.yld L∧evO T' (.t 1)=v1∧evO T' (.t 8)=.slice (some (q,off)) n c 35∧evO T' (.t 9)=.int .i64 (n:Int)∧evO T' (.t 10)=.int .i64 ((i+1:Nat):Int):=by
      generalize inV o b cb eb=P at *
      generalize o.l.length=LL at *
      exact ⟨_,by
        simp (config:={maxSteps:=2000000}) (disch:=first | omega | (simp only [List.length_cons,List.length_nil,List.length_append,List.length_drop]; omega)) only [L_tx_scripts_1_0,t0,t8,t9,t10,gq,ld,c0,wi,ix,st,pu,eh1,g1,p33,yr,z3z,Bool.not_true,↓zn,z14,Nat.zero_add,↓z19,↓z1e,z1c,↓zj,zj,↓m_st,z2p,↓z2d,↓z2g,z23,z21,↓z1p,↓zw,↓zy,↓z10,↓z15,↓zu,↓s_op,↓zf,zf,↓zd,zd,zk,↓zg,zg,zt,↓zb,↓zm,↓z17,↓z24,↓z26,↓z12,↓z1h,↓s_un,↓z3l,zp,z1y,z2z,z4f,↓za,↓z9,za,z9,Nat.zero_add,Nat.reduceEqDiff,decide_true,decide_false,Bool.not_true]
        exact rfl,(by (simp only [zb,zm,Nat.reduceEqDiff,decide_false,z9,t0]; try rfl)),(by (simp only [zb,zm,Nat.reduceEqDiff,decide_false,z9,t1]; try rfl)),(by (simp only [zb,zm,Nat.reduceEqDiff,decide_false,z9,t8]; try rfl)),(by (simp only [zb,zm,Nat.reduceEqDiff,decide_false,z9,t9]; try rfl)),(by (simp only [zb,decide_true,za]; try rfl))⟩
    exact ⟨T',h2,r,⟨i1,u0,u1,by rw [en]; exact u8,by rw [en]; exact u9,u10⟩,y3,yL,by omega,fr2⟩
  · intro hc
    obtain ⟨yr,y3,yL⟩:=y2 hc
    obtain ⟨T',r⟩:∃ T',evC (callX E X (M+1)) 33 m none L_tx_scripts_1_0 ⟨T,[],h⟩=some (.ret,⟨T',[],h2⟩):=by
      generalize inV o b cb eb=P at *
      generalize o.l.length=LL at *
      exact ⟨_,by
        simp (config:={maxSteps:=2000000}) (disch:=first | omega | (simp only [List.length_cons,List.length_nil,List.length_append,List.length_drop]; omega)) only [L_tx_scripts_1_0,t0,t8,t9,t10,gq,ld,c0,ix,st,pu,eh1,g1,p33,yr,z3z,Bool.not_false,↓zn,z14,Nat.zero_add,↓z19,↓z1e,z1c,↓zj,zj,↓m_st,z2p,↓z2d,↓z2g,z23,z21,↓z1p,↓zw,↓zy,↓z10,↓z15,↓z1t,↓zu,↓s_op,↓zf,zf,↓zd,zd,z1d,zk,↓zg,zg,z27,↓zb,↓zm,↓z24,↓z26,↓z12,↓z1h,↓s_un,↓z3l,zp,z1y,z4f,↓za,↓z9,za,z9,Nat.zero_add,Nat.reduceEqDiff,decide_true,decide_false,Bool.not_false]
        exact rfl⟩
    exact ⟨T',h2,r,y3,yL,by omega,fr2⟩
structure S1T (L:Nat) (v1 v8:V) (n i:Nat) (T:Tr V):Prop where
  il:i≤n
  t0:evO T (.t 0)=.yld L
  t1:evO T (.t 1)=v1
  t21:evO T (.t 21)=v8
  t22:evO T (.t 22)=.int .i64 (n:Int)
  t23:evO T (.t 23)=.int .i64 (i:Int)
theorem sc1_round (xy:∀ l a h,X (.yld l) a h=none) (M m:Nat) (outs:List OutQ) (hl:outs.length≤100000000) (S:Nat→Prop) (hB:H) (L p3 D:Nat) (T0:Tr V) (t3:evO T0 (.t 3)=.ptr (some (p3,0))) (zL3:L≠p3) (h3:p3<hB.next) (hL:L<hB.next) (hS:∀ j,S j→j<hB.next∧j≠p3∧j≠L) (v1:V) (a:Option (Nat × Nat)) (c:Option Nat) (e:Nat) (row:RowG S 2 OutC hB outs a e) (i:Nat) (o:OutQ) (ho:outs[i]?=some o) (hol:o.l.length<9223372036854775807) (T:Tr V) (h:H) (I:S1T L v1 (.slice a outs.length c e) outs.length i T) (J:ScI S hB L p3 D T0 h) :
    (o.l.length≤2000→∃ T' h',evC (callX E X (M+1)) 33 m none L_tx_scripts_1_1 ⟨T,[],h⟩=some (.normal,⟨T',[],h'⟩)∧S1T L v1 (.slice a outs.length c e) outs.length (i+1) T'∧ScI S hB L p3 D T0 h') ∧
    (2000<o.l.length→∃ T' h',evC (callX E X (M+1)) 33 m none L_tx_scripts_1_1 ⟨T,[],h⟩=some (.ret,⟨T',[],h'⟩)∧ScE hB L p3 D T0 h'):=by
  obtain ⟨_,t0,t1,t21,t22,t23⟩:=I
  obtain ⟨g3,gL,nx,fr⟩:=J
  have hi:=(List.getElem?_eq_some_iff.1 ho).1
  have kS:∀ j,S j→h.get j=hB.get j:=fun j hj=>fr j (hS j hj).1 (hS j hj).2.1 (hS j hj).2.2
  have row':RowG S 2 OutC h outs a e:=row.mono nx kS (fun _ h=>h) (fun o p r=>r.mono nx kS (fun _ h=>h))
  obtain ⟨q,off,vs,md,P,rfl,rfl,hsq,gq,⟨b,cb,eb,rfl,sb⟩,ld⟩:=z4z row' i _ ho
  have c0:decide ((i:Int)<(outs.length:Int))=true:=decide_eq_true (by omega)
  have wi:wr .i64 ((i:Int)+1)=((i+1:Nat):Int):=by rw [z1u (by omega)]; omega
  have ix:idx (i:Int) outs.length=some i:=idxn hi
  obtain ⟨h1,eh1⟩:∃ h1,(h.new (.cells [.int .i64 0,.slice none 0 (some 0) 0] .rw)).put h.next (.cells [.int .i64 o.v,.slice b o.l.length cb eb] .rw)=h1:=⟨_,rfl⟩
  have k1:Kp h h1:=by rw [← eh1]; (repeat (first | exact Kp.refl _ | refine Kp.put ?_ _ (by first | omega | (simp only [zr,zh,zq]; omega)) | refine Kp.del ?_ (by first | omega | (simp only [zr,zh,zq]; omega)) | refine Kp.trans ?_ (Kp.new _ _)))
  have kn1:=k1.1
  have g1:h1.get h.next=some (.cells [.int .i64 o.v,.slice b o.l.length cb eb] .rw):=by rw [← eh1]; exact z1f _ _ _
  obtain ⟨h2,n2,f2,y1,y2⟩:=cy_go (E:=E) xy M L p3 D T0 t3 zL3 h1 0 (by rw [k1.2 _ (by omega),g3]) (by rw [k1.2 _ (by omega),gL]) b o.l.length hol cb eb
  have fr2:∀ j,j<hB.next→j≠p3→j≠L→h2.get j=hB.get j:=fun j hj j1 j2=>by rw [f2 j j1 j2,k1.2 _ (by omega),fr j hj j1 j2]
  have i1:i+1≤outs.length:=hi
  obtain ⟨n,en⟩:∃ n,outs.length=n:=⟨_,rfl⟩
  rw [en] at t21 t22 c0 ix
  constructor
  · intro hc
    obtain ⟨yr,y3,yL⟩:=y1 hc
    obtain ⟨T',r,u0,u1,u21,u22,u23⟩:∃ T',evC (callX E X (M+1)) 33 m none L_tx_scripts_1_1 ⟨T,[],h⟩=some (.normal,⟨T',[],h2⟩)∧evO T' (.t 0)=.yld L∧evO T' (.t 1)=v1∧evO T' (.t 21)=.slice (some (q,off)) n c 2∧evO T' (.t 22)=.int .i64 (n:Int)∧evO T' (.t 23)=.int .i64 ((i+1:Nat):Int):=by
      generalize o.v=ov at *
      generalize o.l.length=LL at *
      exact ⟨_,by
        simp (config:={maxSteps:=2000000}) (disch:=first | omega | (simp only [List.length_cons,List.length_nil,List.length_append,List.length_drop]; omega)) only [L_tx_scripts_1_1,t0,t21,t22,t23,gq,ld,c0,wi,ix,sto2,eh1,g1,yr,z3z,Bool.not_true,↓zn,z14,Nat.zero_add,↓z19,↓z1e,z1c,↓zj,zj,↓m_st,z2p,z1v,z2q,↓z2d,↓z2g,z23,z21,List.length_cons,List.length_nil,List.drop_succ_cons,List.drop_nil,Nat.reduceAdd,↓z1p,↓zw,↓zy,↓z10,↓z15,↓zu,↓s_op,↓zf,zf,↓zd,zd,zk,↓zg,zg,zt,↓zb,↓zm,↓z17,↓z24,↓z26,↓z12,↓z1h,↓s_un,↓z3l,zp,z1y,z2z,z4f,↓za,↓z9,za,z9,Nat.zero_add,List.append_nil,Nat.reduceEqDiff,decide_true,decide_false,Bool.not_true,List.getElem?_cons_zero,List.getElem?_cons_succ]
        exact rfl,(by (simp only [zb,zm,Nat.reduceEqDiff,decide_false,z9,t0]; try rfl)),(by (simp only [zb,zm,Nat.reduceEqDiff,decide_false,z9,t1]; try rfl)),(by (simp only [zb,zm,Nat.reduceEqDiff,decide_false,z9,t21]; try rfl)),(by (simp only [zb,zm,Nat.reduceEqDiff,decide_false,z9,t22]; try rfl)),(by (simp only [zb,decide_true,za]; try rfl))⟩
    exact ⟨T',h2,r,⟨i1,u0,u1,by rw [en]; exact u21,by rw [en]; exact u22,u23⟩,y3,yL,by omega,fr2⟩
  · intro hc
    obtain ⟨yr,y3,yL⟩:=y2 hc
    obtain ⟨T',r⟩:∃ T',evC (callX E X (M+1)) 33 m none L_tx_scripts_1_1 ⟨T,[],h⟩=some (.ret,⟨T',[],h2⟩):=by
      generalize o.v=ov at *
      generalize o.l.length=LL at *
      exact ⟨_,by
        simp (config:={maxSteps:=2000000}) (disch:=first | omega | (simp only [List.length_cons,List.length_nil,List.length_append,List.length_drop]; omega)) only [L_tx_scripts_1_1,t0,t21,t22,t23,gq,ld,c0,ix,sto2,eh1,g1,yr,z3z,Bool.not_false,↓zn,z14,Nat.zero_add,↓z19,↓z1e,z1c,↓zj,zj,↓m_st,z2p,z1v,z2q,↓z2d,↓z2g,z23,z21,List.length_cons,List.length_nil,List.drop_succ_cons,List.drop_nil,Nat.reduceAdd,↓z1p,↓zw,↓zy,↓z10,↓z15,↓z1t,↓zu,↓s_op,↓zf,zf,↓zd,zd,z1d,zk,↓zg,zg,z27,↓zb,↓zm,↓z24,↓z26,↓z12,↓z1h,↓s_un,↓z3l,zp,z1y,z4f,↓za,↓z9,za,z9,Nat.zero_add,List.append_nil,Nat.reduceEqDiff,decide_true,decide_false,Bool.not_false,List.getElem?_cons_zero,List.getElem?_cons_succ]
        exact rfl⟩
    exact ⟨T',h2,r,y3,yL,by omega,fr2⟩
theorem bad_or {α:Type} (f:α→Nat) (l:List α):(∀ o ∈ l,f o≤2000)∨∃ (j:Nat) (o:α),l[j]?=some o∧2000<f o∧∀ (i:Nat) (o':α),i<j→l[i]?=some o'→f o'≤2000:=by
  induction l with
  | nil=>exact .inl (fun o ho=>by cases ho)
  | cons a r ih =>
    by_cases ha:2000<f a
    · exact .inr ⟨0,a,rfl,ha,fun i o' hi=>by omega⟩
    · rcases ih with ih | ⟨j,o,h1,h2,h3⟩
      · exact .inl (fun o ho=>by rcases List.mem_cons.1 ho with rfl | ho; omega; exact ih o ho)
      · refine .inr ⟨j+1,o,by simpa using h1,h2,fun i o' hi ho=>?_⟩
        cases i with
        | zero=>simp at ho; subst ho; omega
        | succ i=>simp at ho; exact h3 i o' (by omega) ho
def scOk (t:TxQ):Prop:=(∀ o ∈ t.ins,o.l.length≤2000)∧∀ o ∈ t.outs,o.l.length≤2000
theorem scr1_go (e1:E k_tx_scripts_1=some f_tx_scripts_1) (x1:∀ a h,X (.fn k_tx_scripts_1) a h=none) (xy:∀ l a h,X (.yld l) a h=none) (M:Nat) (t:TxQ) (li:t.ins.length<M) (lo:t.outs.length<M) (li2:t.ins.length≤100000000) (lo2:t.outs.length≤100000000) (hi:∀ o ∈ t.ins,o.l.length<9223372036854775807) (ho:∀ o ∈ t.outs,o.l.length<9223372036854775807) (S:Nat→Prop) (hB:H) (L p3 D pb:Nat) (T0:Tr V) (t3:evO T0 (.t 3)=.ptr (some (p3,0))) (zL3:L≠p3) (h3:p3<hB.next) (hL:L<hB.next) (hS:∀ j,S j→j<hB.next∧j≠p3∧j≠L) (hpb:S pb) (a b:Option (Nat × Nat)) (ca cb:Option Nat) (ea eb:Nat) (u v:V) (md:Md)
    (gb:hB.get pb=some (.cells [u,.slice a t.ins.length ca ea,.slice b t.outs.length cb eb,v] md)) (ra:RowG S 35 InC hB t.ins a ea) (rb:RowG S 2 OutC hB t.outs b eb) (J:ScI S hB L p3 D T0 hB) :
    ∃ h',callX E X (M+2) (.fn k_tx_scripts_1) [.yld L,.ptr (some (pb,0))] hB=some (.tup [],h')∧((scOk t∧ScI S hB L p3 D T0 h')∨(¬ scOk t∧ScE hB L p3 D T0 h')):=by
  rw [z2c e1 _ _ (Nat.le_of_ble_eq_true rfl) (x1 _ _)]
  have fin1:(∀ o ∈ t.ins,o.l.length≤2000)→∀ T h,S1T L (.ptr (some (pb,0))) (.slice b t.outs.length cb eb) t.outs.length 0 T→ScI S hB L p3 D T0 h→∃ h',fnEnd [] (blockE 2 (loopN (evC (callX E X (M+1)) 33 (M+1) none L_tx_scripts_1_1) (M+1) ⟨T,[],h⟩))=some (.tup [],h')∧((scOk t∧ScI S hB L p3 D T0 h')∨(¬ scOk t∧ScE hB L p3 D T0 h')):=by
    intro hA T h I J
    have rnd:=fun i T h o ho' (I:S1T L (.ptr (some (pb,0))) (.slice b t.outs.length cb eb) t.outs.length i T∧ScI S hB L p3 D T0 h)=>sc1_round (E:=E) xy M (M+1) t.outs lo2 S hB L p3 D T0 t3 zL3 h3 hL hS _ b cb eb rb i o ho' (ho o (List.mem_of_getElem? ho')) T h I.1 I.2
    rcases bad_or (fun o:OutQ=>o.l.length) t.outs with hall | ⟨j,o,j1,j2,j3⟩
    · obtain ⟨T',h',rr,J'⟩:=z22 (f:=evC (callX E X (M+1)) 33 (M+1) none L_tx_scripts_1_1) (fun i T h=>S1T L (.ptr (some (pb,0))) (.slice b t.outs.length cb eb) t.outs.length i T∧ScI S hB L p3 D T0 h) t.outs.length (.exit 2) (by intro h; cases h) (fun _ h=>ScI S hB L p3 D T0 h) (fun i T h' hi' I=>(rnd i T h' _ (List.getElem?_eq_getElem hi') I).1 (hall _ (List.getElem_mem hi'))) (fun T h' I=>by
        obtain ⟨⟨il,t0,t1,t21,t22,t23⟩,J⟩:=I
        have c0:decide ((t.outs.length:Int)<(t.outs.length:Int))=false:=decide_eq_false (by omega)
        generalize t.outs.length=n at *
        exact ⟨_,_,by
          simp (config:={maxSteps:=2000000}) (disch:=first | omega | (simp only [List.length_cons,List.length_nil,List.length_append,List.length_drop]; omega)) only [L_tx_scripts_1_1,t22,t23,c0,↓zw,↓zy,↓z10,↓z2b,↓zu,↓s_op,↓zf,zf,↓zd,zd,z16,zk,↓zg,zg,↓zb,↓z1h,zp,z1y,↓za,↓z9,za,z9,decide_true]
          exact rfl,J⟩) t.outs.length 0 (by omega) (M+1) (by omega) T h ⟨I,J⟩
      rw [rr]
      exact ⟨h',rfl,.inl ⟨⟨hA,hall⟩,J'⟩⟩
    · have hj:=(List.getElem?_eq_some_iff.1 j1).1
      obtain ⟨T',h',rr,J'⟩:=z22 (f:=evC (callX E X (M+1)) 33 (M+1) none L_tx_scripts_1_1) (fun i T h=>S1T L (.ptr (some (pb,0))) (.slice b t.outs.length cb eb) t.outs.length i T∧ScI S hB L p3 D T0 h) j .ret (by intro h; cases h) (fun _ h=>ScE hB L p3 D T0 h) (fun i T h' hi' I=>(rnd i T h' _ (List.getElem?_eq_getElem (by omega)) I).1 (j3 i _ hi' (List.getElem?_eq_getElem (by omega)))) (fun T h' I=>(rnd j T h' o j1 I).2 j2) j 0 (by omega) (M+1) (by omega) T h ⟨I,J⟩
      rw [rr]
      exact ⟨h',rfl,.inr ⟨fun ok=>by have:=ok.2 o (List.mem_of_getElem? j1); omega,J'⟩⟩
  have fin0:∀ T,S0T L (.ptr (some (pb,0))) (.slice a t.ins.length ca ea) t.ins.length 0 T→∃ h',fnEnd [] (bindE (blockE 0 (loopN (evC (callX E X (M+1)) 33 (M+1) none L_tx_scripts_1_0) (M+1) ⟨T,[],hB⟩)) (evC (callX E X (M+1)) 33 (M+1) none R_tx_scripts_1_0))=some (.tup [],h')∧((scOk t∧ScI S hB L p3 D T0 h')∨(¬ scOk t∧ScE hB L p3 D T0 h')):=by
    intro T I
    have rnd:=fun i T h o ho' (I:S0T L (.ptr (some (pb,0))) (.slice a t.ins.length ca ea) t.ins.length i T∧ScI S hB L p3 D T0 h)=>sc0_round (E:=E) xy M (M+1) t.ins li2 S hB L p3 D T0 t3 zL3 h3 hL hS _ a ca ea ra i o ho' (hi o (List.mem_of_getElem? ho')) T h I.1 I.2
    rcases bad_or (fun o:InQ=>o.l.length) t.ins with hall | ⟨j,o,j1,j2,j3⟩
    · obtain ⟨T',h',rr,u0,u1,J'⟩:=z22 (f:=evC (callX E X (M+1)) 33 (M+1) none L_tx_scripts_1_0) (fun i T h=>S0T L (.ptr (some (pb,0))) (.slice a t.ins.length ca ea) t.ins.length i T∧ScI S hB L p3 D T0 h) t.ins.length (.exit 0) (by intro h; cases h) (fun T h=>evO T (.t 0)=.yld L∧evO T (.t 1)=.ptr (some (pb,0))∧ScI S hB L p3 D T0 h) (fun i T h' hi' I=>(rnd i T h' _ (List.getElem?_eq_getElem hi') I).1 (hall _ (List.getElem_mem hi'))) (fun T h' I=>by
        obtain ⟨⟨il,t0,t1,t8,t9,t10⟩,J⟩:=I
        have c0:decide ((t.ins.length:Int)<(t.ins.length:Int))=false:=decide_eq_false (by omega)
        generalize t.ins.length=n at *
        exact ⟨_,_,by
          simp (config:={maxSteps:=2000000}) (disch:=first | omega | (simp only [List.length_cons,List.length_nil,List.length_append,List.length_drop]; omega)) only [L_tx_scripts_1_0,t9,t10,c0,↓zw,↓zy,↓z10,↓z2b,↓zu,↓s_op,↓zf,zf,↓zd,zd,z16,zk,↓zg,zg,↓zb,↓z1h,zp,z1y,↓za,↓z9,za,z9,decide_true]
          exact rfl,(by (simp only [zb,Nat.reduceEqDiff,decide_false,z9,t0]; try rfl)),(by (simp only [zb,Nat.reduceEqDiff,decide_false,z9,t1]; try rfl)),J⟩) t.ins.length 0 (by omega) (M+1) (by omega) T hB ⟨I,J⟩
      rw [rr]
      have gb':h'.get pb=some (.cells [u,.slice a t.ins.length ca ea,.slice b t.outs.length cb eb,v] md):=by
        rw [J'.fr pb (hS pb hpb).1 (hS pb hpb).2.1 (hS pb hpb).2.2,gb]
      have fin1:=fin1 hall
      obtain ⟨Lo,eL⟩:∃ R,L_tx_scripts_1_1=R:=⟨_,rfl⟩
      rw [eL] at fin1
      have fin2:=fun T q0 q1 q21 q22 q23=>fin1 T h' ⟨Nat.zero_le _,q0,q1,q21,q22,q23⟩ J'
      clear fin1
      generalize t.ins.length=n1 at *
      generalize t.outs.length=n2 at *
      simp (config:={maxSteps:=2000000}) (disch:=first | omega | (simp only [List.length_cons,List.length_nil,List.length_append,List.length_drop]; omega)) only [R_tx_scripts_1_0,eL,u1,gb',↓z1q,z18,↓zn,z14,Nat.zero_add,↓z2k,↓z2e,↓z1e,z1c,↓zj,zj,z18,↓z1q,↓zw,↓zy,↓z15,↓zu,↓s_op,↓zf,zf,↓zd,zd,zk,z1b,↓zb,↓z17,↓z12,zp,↓za,za,Nat.zero_add,decide_true,List.getElem?_cons_zero,List.getElem?_cons_succ,if_true]
      exact fin2 _ (by (simp only [zb,Nat.reduceEqDiff,decide_false,z9,u0]; try rfl)) (by (simp only [zb,Nat.reduceEqDiff,decide_false,z9,u1]; try rfl)) (by (simp only [zb,Nat.reduceEqDiff,decide_false,decide_true,z9,za]; try rfl)) (by (simp only [zb,Nat.reduceEqDiff,decide_false,decide_true,z9,za]; try rfl)) (by (simp only [zb,decide_true,za]; try rfl))
    · have hj:=(List.getElem?_eq_some_iff.1 j1).1
      obtain ⟨T',h',rr,J'⟩:=z22 (f:=evC (callX E X (M+1)) 33 (M+1) none L_tx_scripts_1_0) (fun i T h=>S0T L (.ptr (some (pb,0))) (.slice a t.ins.length ca ea) t.ins.length i T∧ScI S hB L p3 D T0 h) j .ret (by intro h; cases h) (fun _ h=>ScE hB L p3 D T0 h) (fun i T h' hi' I=>(rnd i T h' _ (List.getElem?_eq_getElem (by omega)) I).1 (j3 i _ hi' (List.getElem?_eq_getElem (by omega)))) (fun T h' I=>(rnd j T h' o j1 I).2 j2) j 0 (by omega) (M+1) (by omega) T hB ⟨I,J⟩
      rw [rr]
      exact ⟨h',rfl,.inr ⟨fun ok=>by have:=ok.1 o (List.mem_of_getElem? j1); omega,J'⟩⟩
  obtain ⟨R,eR⟩:∃ R,R_tx_scripts_1_0=R:=⟨_,rfl⟩
  obtain ⟨Lo,eL⟩:∃ R,L_tx_scripts_1_0=R:=⟨_,rfl⟩
  rw [eR,eL] at fin0 ⊢
  have fin':=fun T q0 q1 q8 q9 q10=>fin0 T ⟨Nat.zero_le _,q0,q1,q8,q9,q10⟩
  clear fin0 fin1
  generalize t.ins.length=n1 at *
  generalize t.outs.length=n2 at *
  simp (config:={maxSteps:=2000000}) (disch:=first | omega | (simp only [List.length_cons,List.length_nil,List.length_append,List.length_drop]; omega)) only [gb,↓z1q,z18,↓zn,z14,Nat.zero_add,↓z2k,↓z2e,↓z1e,z1c,↓zj,zj,z18,↓z1q,↓zw,↓zy,↓z15,↓zu,↓s_op,↓zf,zf,↓zd,zd,zk,↓zb,↓z1s,↓z17,↓z11,↓z13,↓z12,zp,↓za,za,Nat.zero_add,decide_true,List.getElem?_cons_zero,List.getElem?_cons_succ]
  exact fin' _ (by (simp only [zb,Nat.reduceEqDiff,decide_false,z9]; try rfl)) (by (simp only [zb,Nat.reduceEqDiff,decide_false,z9]; try rfl)) (by (simp only [zb,Nat.reduceEqDiff,decide_false,decide_true,z9,za]; try rfl)) (by (simp only [zb,Nat.reduceEqDiff,decide_false,decide_true,z9,za]; try rfl)) (by (simp only [zb,decide_true,za]; try rfl))
structure EnTc (E:Nat→Option Fn):Prop where
  ck:E k_tx_Check=some f_tx_Check
  ct:E k_tx_counted=some f_tx_counted
  sc:E k_tx_scripts=some f_tx_scripts
  s1:E k_tx_scripts_1=some f_tx_scripts_1
structure NoTc (X:Orc):Prop where
  y:∀ l a h,X (.yld l) a h=none
  ck:∀ a h,X (.fn k_tx_Check) a h=none
  ct:∀ a h,X (.fn k_tx_counted) a h=none
  sc:∀ a h,X (.fn k_tx_scripts) a h=none
  s1:∀ a h,X (.fn k_tx_scripts_1) a h=none
theorem z8m (e:EnTc E) (x:NoTc X) (N:Nat) (n:Nat) (h:H):callX E X (N+1) (.fn k_tx_counted) [.int .i64 (n:Int)] h=some (.bool (decide (1≤n∧n≤50)),h):=by
  rw [z2c e.ct _ _ (Nat.le_of_ble_eq_true rfl) (x.ct _ _)]
  by_cases c1:1≤n
  · have d1:decide ((1:Int)≤(n:Int))=true:=decide_eq_true (by omega)
    by_cases c2:n≤50
    · have d2:decide ((n:Int)≤50)=true:=decide_eq_true (by omega)
      rw [decide_eq_true (show 1≤n∧n≤50 from ⟨c1,c2⟩)]
      simp (config:={maxSteps:=2000000}) (disch:=first | omega | (simp only [List.length_cons,List.length_nil,List.length_append,List.length_drop]; omega)) only [d1,d2,zo,↓zw,↓zy,↓z1t,↓zu,↓s_op,↓z33,↓z1r,↓z1i,z1i,↓zf,zf,↓zd,zd,zk,↓zb,↓z1s,↓z17,↓z11,↓z13,↓z12,↓z2m,↓z1j,z1j,↓z1h,zp,b_leq,z86,z1x,zo,z1m,z1n,↓za,↓z9,za,z9,Nat.reduceEqDiff,decide_true,decide_false,beq_self_eq_true]
      try rfl
    · have d2:decide ((n:Int)≤50)=false:=decide_eq_false (by omega)
      rw [decide_eq_false (show ¬ (1≤n∧n≤50) by omega)]
      simp (config:={maxSteps:=2000000}) (disch:=first | omega | (simp only [List.length_cons,List.length_nil,List.length_append,List.length_drop]; omega)) only [d1,d2,zo,↓zw,↓zy,↓z1t,↓zu,↓s_op,↓z33,↓z1r,↓z1i,z1i,↓zf,zf,↓zd,zd,zk,↓zb,↓z1s,↓z17,↓z11,↓z13,↓z12,↓z2m,↓z1j,z1j,↓z1h,zp,b_leq,z86,z1x,zo,z1m,z1n,↓za,↓z9,za,z9,Nat.reduceEqDiff,decide_true,decide_false,beq_self_eq_true]
      try rfl
  · have d1:decide ((1:Int)≤(n:Int))=false:=decide_eq_false (by omega)
    rw [decide_eq_false (show ¬ (1≤n∧n≤50) by omega)]
    simp (config:={maxSteps:=2000000}) (disch:=first | omega | (simp only [List.length_cons,List.length_nil,List.length_append,List.length_drop]; omega)) only [d1,zo,↓zw,↓zy,↓z1t,↓zu,↓s_op,↓z33,↓z1r,↓z1i,z1i,beq_true,↓zf,zf,↓zd,zd,zk,↓zb,↓z1s,↓z17,↓z11,↓z13,↓z12,↓z2m,↓z1j,z1j,↓z1h,zp,z86,z1x,zo,z1m,z1n,↓za,↓z9,za,z9,Nat.reduceEqDiff,decide_true,decide_false]
    try rfl
theorem scripts_go (e:EnTc E) (x:NoTc X) (N:Nat) (u v w z:V) (h:H):callX E X (N+1) (.fn k_tx_scripts) [.agg [u,v,w,z]] h=some (.fn k_tx_scripts_1 [] [.ptr (some (h.next,0))],h.new (.cells [u,v,w,z] .rw)):=by
  rw [z2c e.sc _ _ (Nat.le_of_ble_eq_true rfl) (x.sc _ _)]
  have ca:∀ l:List V,(V.agg l).cells=l:=fun _=>rfl
  simp (config:={maxSteps:=2000000}) (disch:=first | omega | (simp only [List.length_cons,List.length_nil,List.length_append,List.length_drop]; omega)) only [ca,↓z2x,↓zw,↓zy,↓zu,↓s_op,↓zf,zf,↓zd,zd,zk,↓zb,↓z1s,↓z17,↓z11,↓z13,↓z12,↓za,za,decide_true]
  try rfl
def ckOk (t:TxQ):Prop:=(1≤t.ins.length∧t.ins.length≤50)∧(1≤t.outs.length∧t.outs.length≤50)∧scOk t
theorem check_go (e:EnTc E) (x:NoTc X) (M:Nat) (hM:100<M) (t:TxQ) (hi:∀ o ∈ t.ins,o.l.length<9223372036854775807) (ho:∀ o ∈ t.outs,o.l.length<9223372036854775807) (a b:Option (Nat × Nat)) (ca cb:Option Nat) (ea eb:Nat) (h:H) (ra:RowG (fun j=>j<h.next) 35 InC h t.ins a ea) (rb:RowG (fun j=>j<h.next) 2 OutC h t.outs b eb) :
    ∃ (h':H) (r:Int),callX E X (M+3) (.fn k_tx_Check) [.agg [.int .u32 (t.ver:Int),.slice a t.ins.length ca ea,.slice b t.outs.length cb eb,.int .u32 (t.lock:Int)]] h=some (.int .i64 r,h')∧Kp h h'∧((ckOk t∧r=0)∨(¬ ckOk t∧r=60)):=by
  rw [z2c e.ck _ _ (Nat.le_of_ble_eq_true rfl) (x.ck _ _)]
  have c1:=fun h=>z8m e x (M+1) t.ins.length h
  have c2:=fun h=>z8m e x (M+1) t.outs.length h
  obtain ⟨u,eu⟩:∃ u:V,V.int .u32 (t.ver:Int)=u:=⟨_,rfl⟩
  obtain ⟨v,ev⟩:∃ u:V,V.int .u32 (t.lock:Int)=u:=⟨_,rfl⟩
  rw [eu,ev]
  have ca':∀ l:List V,(V.agg l).cells=l:=fun _=>rfl
  have g0:(h.new (.cells [u,.slice a t.ins.length ca ea,.slice b t.outs.length cb eb,v] .rw)).get h.next=some (.cells [u,.slice a t.ins.length ca ea,.slice b t.outs.length cb eb,v] .rw):=z1g _ _
  by_cases d1:¬ (1≤t.ins.length∧t.ins.length≤50)
  · rw [decide_eq_false d1] at c1
    refine ⟨_,60,?_,Kp.new h (.cells [u,.slice a t.ins.length ca ea,.slice b t.outs.length cb eb,v] .rw),.inr ⟨fun k=>d1 k.1,rfl⟩⟩
    generalize t.ins.length=n1 at *
    generalize t.outs.length=n2 at *
    simp (config:={maxSteps:=2000000}) (disch:=first | omega | (simp only [List.length_cons,List.length_nil,List.length_append,List.length_drop]; omega)) only [ca',c1,Bool.not_false,↓z2x,↓z1q,z18,↓zn,z14,Nat.zero_add,↓z19,↓z1e,z1c,↓zj,zj,z18,↓z1q,zo,↓zw,↓zy,↓z10,↓z1t,↓z6s,↓zu,↓s_op,↓z33,↓z1r,↓z1i,z1i,beq_false,↓zf,zf,↓zd,zd,z1d,zk,↓zg,zg,↓zb,↓z1s,↓z17,↓z24,↓z26,↓z11,↓z13,↓z12,↓z2m,↓z1j,z1j,↓s_un,↓z1z,zp,z4f,z1x,zo,z1m,z1n,↓za,↓z9,za,z9,Nat.zero_add,Nat.reduceEqDiff,decide_true,decide_false,Bool.not_true,Bool.not_false,List.getElem?_cons_zero,List.getElem?_cons_succ]
    try rfl
  replace d1:=Classical.not_not.1 d1
  rw [decide_eq_true d1] at c1
  by_cases d2:¬ (1≤t.outs.length∧t.outs.length≤50)
  · rw [decide_eq_false d2] at c2
    refine ⟨_,60,?_,Kp.new h (.cells [u,.slice a t.ins.length ca ea,.slice b t.outs.length cb eb,v] .rw),.inr ⟨fun k=>d2 k.2.1,rfl⟩⟩
    generalize t.ins.length=n1 at *
    generalize t.outs.length=n2 at *
    simp (config:={maxSteps:=2000000}) (disch:=first | omega | (simp only [List.length_cons,List.length_nil,List.length_append,List.length_drop]; omega)) only [ca',c1,c2,Bool.not_false,Bool.not_true,↓z2x,↓z1q,z18,↓zn,z14,Nat.zero_add,↓z19,↓z1e,z1c,↓zj,zj,z18,↓z1q,zo,↓zw,↓zy,↓z10,↓z1t,↓z6s,↓zu,↓s_op,↓z33,↓z1r,↓z1i,z1i,↓zf,zf,↓zd,zd,z1d,zk,↓zg,zg,↓zb,↓z1s,↓z17,↓z24,↓z26,↓z11,↓z13,↓z12,↓z2m,↓z1j,z1j,↓s_un,↓z1z,zp,z4f,z1x,zo,z1m,z1n,↓za,↓z9,za,z9,Nat.zero_add,Nat.reduceEqDiff,decide_true,decide_false,Bool.not_true,Bool.not_false,List.getElem?_cons_zero,List.getElem?_cons_succ,beq_self_eq_true]
    try rfl
  replace d2:=Classical.not_not.1 d2
  rw [decide_eq_true d2] at c2
  obtain ⟨C,eC⟩:∃ C:List V,[u,.slice a t.ins.length ca ea,.slice b t.outs.length cb eb,v]=C:=⟨_,rfl⟩
  have sg:=fun h=>scripts_go e x (M+1) u (.slice a t.ins.length ca ea) (.slice b t.outs.length cb eb) v h
  rw [eC] at sg g0
  obtain ⟨hA,eA⟩:∃ hA,(((h.new (.cells C .rw)).new (.cells [.int .i64 0] .rw)).put (h.next+1) (.cells [.int .i64 0] .rw)).new (.cells C .rw)=hA:=⟨_,rfl⟩
  have nA:hA.next=h.next+3:=by rw [← eA]; rfl
  have gA1:hA.get (h.next+1)=some (.cells [.int .i64 0] .rw):=by rw [← eA]; (simp (disch:=omega) only [z1k,z19,zr,zh,Nat.add_assoc,Nat.add_left_cancel_iff,Nat.reduceAdd,decide_true,decide_false,za,z9,Nat.reduceEqDiff,Nat.reduceAdd,]; try rfl)
  have gA2:hA.get (h.next+2)=some (.cells C .rw):=by rw [← eA]; (simp (disch:=omega) only [z19,zr,zh,Nat.add_assoc,Nat.reduceAdd,decide_true,za,Nat.reduceAdd,]; try rfl)
  have kA:Kp h hA:=by rw [← eA]; (repeat (first | exact Kp.refl _ | refine Kp.put ?_ _ (by first | omega | (simp only [zr,zh,zq]; omega)) | refine Kp.del ?_ (by first | omega | (simp only [zr,zh,zq]; omega)) | refine Kp.trans ?_ (Kp.new _ _)))
  have fin:∀ T0,evO T0 (.t 3)=.ptr (some (h.next+1,0))→∃ (h':H) (r:Int),fnEnd [.tmp 2] (bindE (blockE 0 (rangeEnd (h.next+4) T0 [h.next+3] (callF (callX E X (M+2)) (.yld (h.next+4)) (.fn k_tx_scripts_1 [] [.ptr (some (h.next+2,0))]) ((hA.new .defers).new (.loop 0 none 24 T0 [19] A_tx_Check_0 B_tx_Check_0 (h.next+3)))))) (evC (callX E X (M+2)) 24 (M+2) none R_tx_Check_0))=some (.int .i64 r,h')∧Kp h h'∧((ckOk t∧r=0)∨(¬ ckOk t∧r=60)):=by
    intro T0 t3
    obtain ⟨hB,eB⟩:∃ hB,(hA.new .defers).new (.loop 0 none 24 T0 [19] A_tx_Check_0 B_tx_Check_0 (h.next+3))=hB:=⟨_,rfl⟩
    have nB:hB.next=h.next+5:=by rw [← eB]; simp only [zh,nA]
    have kB:Kp hA hB:=by rw [← eB]; exact (Kp.new _ _).trans (Kp.new _ _)
    have gB3:hB.get (h.next+3)=some .defers:=by rw [← eB,z1w _ _ (by rw [zh,nA]; omega)]; exact z2a _ _ nA
    have gB4:hB.get (h.next+4)=some (.loop 0 none 24 T0 [19] A_tx_Check_0 B_tx_Check_0 (h.next+3)):=by rw [← eB]; exact z2a _ _ (by rw [zh,nA])
    have gB1:hB.get (h.next+1)=some (.cells [.int .i64 0] .rw):=by rw [kB.2 _ (by omega),gA1]
    have gB2:hB.get (h.next+2)=some (.cells C .rw):=by rw [kB.2 _ (by omega),gA2]
    have kAB:=kA.trans kB
    have sS:∀ j,j<h.next→hB.get j=h.get j:=fun j hj=>kAB.2 j hj
    have sW:∀ j,j<h.next→(j<h.next∨j=h.next+2):=fun j hj=>.inl hj
    have raB:RowG (fun j=>j<h.next∨j=h.next+2) 35 InC hB t.ins a ea:=ra.mono (by omega) sS sW (fun o p r=>r.mono (by omega) sS sW)
    have rbB:RowG (fun j=>j<h.next∨j=h.next+2) 2 OutC hB t.outs b eb:=rb.mono (by omega) sS sW (fun o p r=>r.mono (by omega) sS sW)
    rw [← eC] at gB2
    obtain ⟨hC,r,I⟩:=scr1_go e.s1 x.s1 x.y M t (by omega) (by omega) (by omega) (by omega) hi ho (fun j=>j<h.next∨j=h.next+2) hB (h.next+4) (h.next+1) (h.next+3) (h.next+2) T0 t3 (by omega) (by omega) (by omega) (fun j hj=>by omega) (.inr rfl) a b ca cb ea eb u v .rw gB2 raB rbB ⟨gB1,gB4,Nat.le_refl _,fun _ _ _ _=>rfl⟩
    have z2:(h.next+4=h.next+3)=False:=by simp
    have z2':(h.next+3=h.next+4)=False:=by simp
    have z3:(h.next+4=h.next+1)=False:=by simp
    have z4:(h.next+3=h.next+1)=False:=by simp
    rw [eB]
    obtain ⟨hD,eD⟩:∃ hD,(hC.del (h.next+4)).del (h.next+3)=hD:=⟨_,rfl⟩
    have nD:hD.next=hC.next:=by rw [← eD]; rfl
    rcases I with ⟨sk,gC1,gC4,nx,fr⟩ | ⟨sk,gC1,gC4,nx,fr⟩
    · have gC3:hC.get (h.next+3)=some .defers:=by rw [fr _ (by omega) (by omega) (by omega),gB3]
      have kD:Kp h hD:=⟨by omega,fun i hi=>by rw [← eD,z2u _ (by omega),z2u _ (by omega),fr _ (by omega) (by omega) (by omega),sS _ hi]⟩
      refine ⟨hD,0,?_,kD,.inl ⟨⟨d1,d2,sk⟩,rfl⟩⟩
      simp (config:={maxSteps:=2000000}) (disch:=first | omega | (simp only [List.length_cons,List.length_nil,List.length_append,List.length_drop]; omega)) only [z6o,List.nil_append,List.cons_append,r,t3,gC1,gC3,gC4,z2,z3,eD,R_tx_Check_0,r_end,r_0,r_jn,e_ret,z8d,d_yes,d_nil,z8p,↓z4n,↓z1e,z1c,↓zj,zj,List.cons_append,List.nil_append,zo,↓zw,↓zy,↓z1t,↓zu,↓s_op,↓zf,zf,↓zd,zd,zk,zt,↓zb,↓z12,zp,zo,z1m,z1n,↓za,↓z9,za,z9,List.nil_append,decide_true,decide_false,List.getElem?_cons_zero]
      try rfl
    · have gC3:hC.get (h.next+3)=some .defers:=by rw [fr _ (by omega) (by omega) (by omega),gB3]
      have kD:Kp h hD:=⟨by omega,fun i hi=>by rw [← eD,z2u _ (by omega),z2u _ (by omega),fr _ (by omega) (by omega) (by omega),sS _ hi]⟩
      refine ⟨hD,60,?_,kD,.inr ⟨fun k=>sk k.2.2,rfl⟩⟩
      simp (config:={maxSteps:=2000000}) (disch:=first | omega | (simp only [List.length_cons,List.length_nil,List.length_append,List.length_drop]; omega)) only [z6o,List.nil_append,List.cons_append,r,t3,gC1,gC3,gC4,z2,z3,eD,R_tx_Check_0,r_end,r_2,r_je,e_ret,z8d,d_yes,d_nil,z8p,↓z4n,↓z1e,z1c,↓zj,zj,List.cons_append,List.nil_append,zo,↓zw,↓zy,↓z1t,↓zu,↓s_op,↓zf,zf,↓zd,zd,zk,z1b,↓zb,↓z12,zp,zo,z1m,z1n,↓za,↓z9,za,z9,List.nil_append,decide_true,decide_false,List.getElem?_cons_zero,if_true]
      try rfl
  obtain ⟨R,eR⟩:∃ R,R_tx_Check_0=R:=⟨_,rfl⟩
  rw [eR] at fin ⊢
  rw [← eC] at g0 sg eA
  generalize t.ins.length=n1 at *
  generalize t.outs.length=n2 at *
  simp (config:={maxSteps:=2000000}) (disch:=first | omega | (simp only [List.length_cons,List.length_nil,List.length_append,List.length_drop]; omega)) only [ca',c1,c2,Bool.not_true,sg,eA,nA,z6s,↓s_range,↓z2x,↓z1q,z18,↓zn,z14,Nat.zero_add,↓z1k,↓z19,zr,zh,Nat.add_assoc,Nat.add_eq_left,↓z1e,z1c,↓zj,zj,↓m_st,z2p,z2f,z1v,z2q,↓z2d,z18,↓z1q,List.length_cons,List.length_nil,List.drop_succ_cons,List.drop_nil,Nat.reduceAdd,m_load4,↓z1p,↓zw,↓zy,↓z10,↓z15,↓z6s,↓zu,↓s_op,↓z33,↓z1r,↓z1i,z1i,↓zf,zf,↓zd,zd,zk,↓zg,zg,↓zb,↓zm,↓z1s,↓z17,↓z24,↓z26,↓z11,↓z13,↓z12,↓z2m,↓z1j,z1j,↓s_un,↓z1z,zp,z4f,↓za,↓z9,za,z9,Nat.zero_add,List.append_nil,Nat.reduceEqDiff,decide_true,decide_false,Bool.not_true,List.getElem?_cons_zero,List.getElem?_cons_succ,beq_self_eq_true]
  exact fin _ (by (simp only [zb,zm,Nat.reduceEqDiff,decide_false,decide_true,z9,za]; try rfl))
theorem tencode_go (e:EnTe E) (x:NoTe X) (ec:EnTc E) (xc:NoTc X) (M:Nat) (hM:100<M) (t:TxQ) (ok:t.ok) (li:t.ins.length≤60) (lo:t.outs.length≤60) (hi:∀ o ∈ t.ins,o.l.length≤2100) (ho:∀ o ∈ t.outs,o.l.length≤2100) (a b:Option (Nat × Nat)) (ca cb:Option Nat) (ea eb:Nat) (h:H) (ra:RowG (fun j=>j<h.next) 35 InC h t.ins a ea) (rb:RowG (fun j=>j<h.next) 2 OutC h t.outs b eb) :
    (ckOk t∧∃ h' a2 c2 e2,callX E X (M+7) (.fn k_tx_Encode) [.agg [.int .u32 (t.ver:Int),.slice a t.ins.length ca ea,.slice b t.outs.length cb eb,.int .u32 (t.lock:Int)]] h=some (.tup [.slice a2 (txB t).length c2 e2,.int .i64 0],h')∧Nw h h' (txB t) a2 c2 e2) ∨
    (¬ ckOk t∧∃ h',callX E X (M+7) (.fn k_tx_Encode) [.agg [.int .u32 (t.ver:Int),.slice a t.ins.length ca ea,.slice b t.outs.length cb eb,.int .u32 (t.lock:Int)]] h=some (.tup [.slice none 0 (some 0) 0,.int .i64 60],h')∧Kp h h'):=by
  obtain ⟨hb,ehb⟩:∃ hb,h.new (.cells [.int .u32 (t.ver:Int),.slice a t.ins.length ca ea,.slice b t.outs.length cb eb,.int .u32 (t.lock:Int)] .rw)=hb:=⟨_,rfl⟩
  have kb:Kp h hb:=by rw [← ehb]; exact Kp.new _ _
  have kn:=kb.1
  have sW:∀ j,j<h.next→j<hb.next:=fun j hj=>by omega
  have ra':RowG (fun j=>j<hb.next) 35 InC hb t.ins a ea:=ra.mono kn kb.2 sW (fun o p r=>r.mono kn kb.2 sW)
  have rb':RowG (fun j=>j<hb.next) 2 OutC hb t.outs b eb:=rb.mono kn kb.2 sW (fun o p r=>r.mono kn kb.2 sW)
  obtain ⟨h1,r,ck,kc,hr⟩:=check_go ec xc (M+3) (by omega) t (fun o h=>by have:=hi o h; omega) (fun o h=>by have:=ho o h; omega) a b ca cb ea eb hb ra' rb'
  replace ck:callX E X (M+6) (.fn k_tx_Check) [.agg [.int .u32 (t.ver:Int),.slice a t.ins.length ca ea,.slice b t.outs.length cb eb,.int .u32 (t.lock:Int)]] hb=_:=ck
  rcases hr with ⟨ok',rfl⟩ | ⟨no,rfl⟩
  · rw [← ehb] at ck kc
    exact .inl ⟨ok',tenc_go e x M hM t ok li lo hi ho a b ca cb ea eb h ra rb h1 ck kc⟩
  · refine .inr ⟨no,h1,?_,kb.trans kc⟩
    rw [z2c e.en _ _ (Nat.le_of_ble_eq_true rfl) (x.en _ _)]
    have ca':∀ l:List V,(V.agg l).cells=l:=fun _=>rfl
    have z1:decide ((60:Int)=0)=false:=rfl
    have g0:hb.get h.next=some (.cells [.int .u32 (t.ver:Int),.slice a t.ins.length ca ea,.slice b t.outs.length cb eb,.int .u32 (t.lock:Int)] .rw):=by rw [← ehb]; exact z1g _ _
    obtain ⟨R,eR⟩:∃ R,R_tx_Encode_1=R:=⟨_,rfl⟩
    obtain ⟨Lo,eL⟩:∃ R,L_tx_Encode_0=R:=⟨_,rfl⟩
    rw [eR,eL]
    generalize t.ins.length=n1 at *
    generalize t.outs.length=n2 at *
    simp (config:={maxSteps:=2000000}) (disch:=first | omega | (simp only [List.length_cons,List.length_nil,List.length_append,List.length_drop]; omega)) only [ca',ehb,g0,ck,Bool.not_false,↓z2x,↓z1e,z1c,Int.reduceEq,m_load4,zo,↓zw,↓zy,↓z10,↓z1t,↓zu,↓s_op,↓zf,zf,↓zd,zd,z1d,zk,↓zg,zg,↓zb,↓z1s,↓z17,↓z24,↓z26,↓z11,↓z13,↓z12,↓z1h,↓z1z,zp,z3j,z1x,zo,z1m,z4y,↓za,↓z9,za,z9,Nat.reduceEqDiff,decide_true,decide_false,Bool.not_false]
    try rfl
theorem z61 {α:Type} {S:Nat→Prop} {sz:Nat} {A:(Nat→Prop)→H→α→List V→Prop} {h:H} {ops:List α} {a:Option (Nat × Nat)} {e:Nat} (r:RowG S sz A h ops a e) (i:Nat) (o:α) (ho:ops[i]?=some o):∃ q off vs md P,a=some (q,off)∧e=sz∧h.get q=some (.cells vs md)∧A S h o P∧∀ k,k<sz→vs[off+(i*sz+k)]?=P[k]?:=by
  rcases r with r | ⟨q,off,vs,md,e1,e2,hs,hq,g,hl,at_⟩
  · rw [r] at ho; simp at ho
  · refine ⟨q,off,vs,md,_,e1,e2,g,at_ i o ho,fun k hk=>?_⟩
    rw [List.getElem?_take,if_pos hk,List.getElem?_drop,Nat.add_assoc]
structure TgI (v1:V) (n i:Nat) (h0:H) (T:Tr V) (h:H):Prop where
  il:i≤n
  t1:evO T (.t 1)=v1
  t3:evO T (.t 3)=.int .i64 (i:Int)
  hh:h=h0
theorem tg0_round (Q:Orc) (m:Nat) (ins:List InQ) (hl:ins.length≤100000000) (S:Nat→Prop) (pb:Nat) (a:Option (Nat × Nat)) (c:Option Nat) (e:Nat) (u w v:V) (md:Md) (h0:H) (gb:h0.get pb=some (.cells [u,.slice a ins.length c e,w,v] md)) (row:RowG S 35 InC h0 ins a e) (i:Nat) (o:InQ) (ho:ins[i]?=some o) (T:Tr V) (h:H) (I:TgI (.ptr (some (pb,0))) ins.length i h0 T h) :
    (o.l.length≤2100→∃ T' h',evC Q 45 m none L_purserref06_Great_0 ⟨T,[],h⟩=some (.normal,⟨T',[],h'⟩)∧TgI (.ptr (some (pb,0))) ins.length (i+1) h0 T' h') ∧
    (2100<o.l.length→∃ T' h',evC Q 45 m none L_purserref06_Great_0 ⟨T,[],h⟩=some (.ret,⟨T',[],h'⟩)∧evO T' (.t 2)=.int .i64 1∧h'=h0):=by
  obtain ⟨_,t1,t3,hh⟩:=I
  subst hh
  have hi:=(List.getElem?_eq_some_iff.1 ho).1
  obtain ⟨q,off,vs,mdv,P,rfl,rfl,gq,⟨b,cb,eb,rfl,sb,l32⟩,cell⟩:=z61 row i _ ho
  have c0:decide ((i:Int)<(ins.length:Int))=true:=decide_eq_true (by omega)
  have wi:wr .i64 ((i:Int)+1)=((i+1:Nat):Int):=by rw [z1u (by omega)]; omega
  have ix:idx (i:Int) ins.length=some i:=idxn hi
  have cg:=cell 33 (by omega)
  rw [(inV_n o b cb eb l32).2.1] at cg
  have i1:i+1≤ins.length:=hi
  obtain ⟨n,en⟩:∃ n,ins.length=n:=⟨_,rfl⟩
  rw [en] at gb c0 ix
  constructor
  · intro hc
    have d0:decide ((2100:Int)<(o.l.length:Int))=false:=decide_eq_false (by omega)
    generalize o.l.length=LL at *
    exact ⟨_,h,by
      simp (config:={maxSteps:=2000000}) (disch:=first | omega | (simp only [List.length_cons,List.length_nil,List.length_append,List.length_drop]; omega)) only [L_purserref06_Great_0,t1,t3,gb,gq,cg,c0,wi,ix,d0,↓z1q,z18,↓zn,z14,Nat.zero_add,Nat.add_assoc,↓z1e,z1c,↓zj,zj,↓z2g,z23,z21,z18,↓z1q,↓z1p,↓zw,↓zy,↓z10,↓z15,↓zu,↓s_op,↓zf,zf,↓zd,zd,zk,↓zg,zg,zt,↓zb,↓z17,↓z12,↓z1h,zp,z1y,z3g,z2z,↓za,↓z9,za,z9,Nat.zero_add,Nat.reduceEqDiff,decide_true,decide_false,List.getElem?_cons_zero,List.getElem?_cons_succ]
      exact rfl,⟨i1,(by (simp only [zb,Nat.reduceEqDiff,decide_false,z9,t1]; try rfl)),(by (simp only [zb,decide_true,za]; try rfl)),rfl⟩⟩
  · intro hc
    have d0:decide ((2100:Int)<(o.l.length:Int))=true:=decide_eq_true (by omega)
    generalize o.l.length=LL at *
    exact ⟨_,h,by
      simp (config:={maxSteps:=2000000}) (disch:=first | omega | (simp only [List.length_cons,List.length_nil,List.length_append,List.length_drop]; omega)) only [L_purserref06_Great_0,t1,t3,gb,gq,cg,c0,ix,d0,↓z1q,z18,↓zn,z14,Nat.zero_add,Nat.add_assoc,↓z1e,z1c,↓zj,zj,↓z2g,z23,z21,z18,↓z1q,↓z1p,↓zw,↓zy,↓z10,↓z15,↓z1t,↓zu,↓s_op,↓zf,zf,↓zd,zd,z1d,zk,↓zg,zg,z27,↓zb,↓z17,↓z12,↓z1h,zp,z1y,z3g,↓za,↓z9,za,z9,Nat.zero_add,Nat.reduceEqDiff,decide_true,decide_false,List.getElem?_cons_zero,List.getElem?_cons_succ]
      exact rfl,(by (simp only [zb,decide_true,za]; try rfl)),rfl⟩
structure TgJ (v1:V) (n i:Nat) (h0:H) (T:Tr V) (h:H):Prop where
  il:i≤n
  t1:evO T (.t 1)=v1
  t4:evO T (.t 4)=.int .i64 (i:Int)
  hh:h=h0
theorem tg1_round (Q:Orc) (m:Nat) (outs:List OutQ) (hl:outs.length≤100000000) (S:Nat→Prop) (pb:Nat) (a:Option (Nat × Nat)) (c:Option Nat) (e:Nat) (u w v:V) (md:Md) (h0:H) (gb:h0.get pb=some (.cells [u,w,.slice a outs.length c e,v] md)) (row:RowG S 2 OutC h0 outs a e) (i:Nat) (o:OutQ) (ho:outs[i]?=some o) (T:Tr V) (h:H) (I:TgJ (.ptr (some (pb,0))) outs.length i h0 T h) :
    (o.l.length≤2100→∃ T' h',evC Q 45 m none L_purserref06_Great_1 ⟨T,[],h⟩=some (.normal,⟨T',[],h'⟩)∧TgJ (.ptr (some (pb,0))) outs.length (i+1) h0 T' h') ∧
    (2100<o.l.length→∃ T' h',evC Q 45 m none L_purserref06_Great_1 ⟨T,[],h⟩=some (.ret,⟨T',[],h'⟩)∧evO T' (.t 2)=.int .i64 1∧h'=h0):=by
  obtain ⟨_,t1,t4,hh⟩:=I
  subst hh
  have hi:=(List.getElem?_eq_some_iff.1 ho).1
  obtain ⟨q,off,vs,mdv,P,rfl,rfl,gq,⟨b,cb,eb,rfl,sb⟩,cell⟩:=z61 row i _ ho
  have c0:decide ((i:Int)<(outs.length:Int))=true:=decide_eq_true (by omega)
  have wi:wr .i64 ((i:Int)+1)=((i+1:Nat):Int):=by rw [z1u (by omega)]; omega
  have ix:idx (i:Int) outs.length=some i:=idxn hi
  have cg:vs[off+(i*2+1)]?=some (.slice b o.l.length cb eb):=cell 1 (by omega)
  have i1:i+1≤outs.length:=hi
  obtain ⟨n,en⟩:∃ n,outs.length=n:=⟨_,rfl⟩
  rw [en] at gb c0 ix
  constructor
  · intro hc
    have d0:decide ((2100:Int)<(o.l.length:Int))=false:=decide_eq_false (by omega)
    generalize o.l.length=LL at *
    exact ⟨_,h,by
      simp (config:={maxSteps:=2000000}) (disch:=first | omega | (simp only [List.length_cons,List.length_nil,List.length_append,List.length_drop]; omega)) only [L_purserref06_Great_1,t1,t4,gb,gq,cg,c0,wi,ix,d0,↓z1q,z18,↓zn,z14,Nat.zero_add,Nat.add_assoc,↓z1e,z1c,↓zj,zj,↓z2g,z23,z21,z18,↓z1q,↓z1p,↓zw,↓zy,↓z10,↓z15,↓zu,↓s_op,↓zf,zf,↓zd,zd,zk,↓zg,zg,zt,↓zb,↓z17,↓z12,↓z1h,zp,z1y,z3g,z2z,↓za,↓z9,za,z9,Nat.zero_add,Nat.reduceEqDiff,decide_true,decide_false,List.getElem?_cons_zero,List.getElem?_cons_succ]
      exact rfl,⟨i1,(by (simp only [zb,Nat.reduceEqDiff,decide_false,z9,t1]; try rfl)),(by (simp only [zb,decide_true,za]; try rfl)),rfl⟩⟩
  · intro hc
    have d0:decide ((2100:Int)<(o.l.length:Int))=true:=decide_eq_true (by omega)
    generalize o.l.length=LL at *
    exact ⟨_,h,by
      simp (config:={maxSteps:=2000000}) (disch:=first | omega | (simp only [List.length_cons,List.length_nil,List.length_append,List.length_drop]; omega)) only [L_purserref06_Great_1,t1,t4,gb,gq,cg,c0,ix,d0,↓z1q,z18,↓zn,z14,Nat.zero_add,Nat.add_assoc,↓z1e,z1c,↓zj,zj,↓z2g,z23,z21,z18,↓z1q,↓z1p,↓zw,↓zy,↓z10,↓z15,↓z1t,↓zu,↓s_op,↓zf,zf,↓zd,zd,z1d,zk,↓zg,zg,z27,↓zb,↓z17,↓z12,↓z1h,zp,z1y,z3g,↓za,↓z9,za,z9,Nat.zero_add,Nat.reduceEqDiff,decide_true,decide_false,List.getElem?_cons_zero,List.getElem?_cons_succ]
      exact rfl,(by (simp only [zb,decide_true,za]; try rfl)),rfl⟩
def gtOk (t:TxQ):Prop:=t.ins.length≤60∧t.outs.length≤60∧(∀ o ∈ t.ins,o.l.length≤2100)∧∀ o ∈ t.outs,o.l.length≤2100
theorem bad2_or {α:Type} (f:α→Nat) (l:List α):(∀ o ∈ l,f o≤2100)∨∃ (j:Nat) (o:α),l[j]?=some o∧2100<f o∧∀ (i:Nat) (o':α),i<j→l[i]?=some o'→f o'≤2100:=by
  induction l with
  | nil=>exact .inl (fun o ho=>by cases ho)
  | cons a r ih =>
    by_cases ha:2100<f a
    · exact .inr ⟨0,a,rfl,ha,fun i o' hi=>by omega⟩
    · rcases ih with ih | ⟨j,o,h1,h2,h3⟩
      · exact .inl (fun o ho=>by rcases List.mem_cons.1 ho with rfl | ho; omega; exact ih o ho)
      · refine .inr ⟨j+1,o,by simpa using h1,h2,fun i o' hi ho=>?_⟩
        cases i with
        | zero=>simp at ho; subst ho; omega
        | succ i=>simp at ho; exact h3 i o' (by omega) ho
theorem great6_go (e6:E k_purserref06_Great=some f_purserref06_Great) (x6:∀ a h,X (.fn k_purserref06_Great) a h=none) (M:Nat) (hM:100<M) (t:TxQ) (hi:t.ins.length<9223372036854775807) (ho:t.outs.length<9223372036854775807) (a b:Option (Nat × Nat)) (ca cb:Option Nat) (ea eb:Nat) (h:H) (ra:RowG (fun j=>j<h.next) 35 InC h t.ins a ea) (rb:RowG (fun j=>j<h.next) 2 OutC h t.outs b eb) :
    ∃ (h':H) (r:Int),callX E X (M+1) (.fn k_purserref06_Great) [.agg [.int .u32 (t.ver:Int),.slice a t.ins.length ca ea,.slice b t.outs.length cb eb,.int .u32 (t.lock:Int)]] h=some (.int .i64 r,h')∧Kp h h'∧((gtOk t∧r=0)∨(¬ gtOk t∧r=1)):=by
  rw [z2c e6 _ _ (Nat.le_of_ble_eq_true rfl) (x6 _ _)]
  obtain ⟨u,eu⟩:∃ u:V,V.int .u32 (t.ver:Int)=u:=⟨_,rfl⟩
  obtain ⟨v,ev⟩:∃ u:V,V.int .u32 (t.lock:Int)=u:=⟨_,rfl⟩
  rw [eu,ev]
  have ca':∀ l:List V,(V.agg l).cells=l:=fun _=>rfl
  obtain ⟨hb,ehb⟩:∃ hb,h.new (.cells [u,.slice a t.ins.length ca ea,.slice b t.outs.length cb eb,v] .rw)=hb:=⟨_,rfl⟩
  have kb:Kp h hb:=by rw [← ehb]; exact Kp.new _ _
  have kn:=kb.1
  have g0:hb.get h.next=some (.cells [u,.slice a t.ins.length ca ea,.slice b t.outs.length cb eb,v] .rw):=by rw [← ehb]; exact z1g _ _
  have sW:∀ j,j<h.next→j<hb.next:=fun j hj=>by omega
  have ra':RowG (fun j=>j<hb.next) 35 InC hb t.ins a ea:=ra.mono kn kb.2 sW (fun o p r=>r.mono kn kb.2 sW)
  have rb':RowG (fun j=>j<hb.next) 2 OutC hb t.outs b eb:=rb.mono kn kb.2 sW (fun o p r=>r.mono kn kb.2 sW)
  by_cases c1:60<t.ins.length
  · have d1:decide ((60:Int)<(t.ins.length:Int))=true:=decide_eq_true (by omega)
    refine ⟨hb,1,?_,kb,.inr ⟨fun k=>by have:=k.1; omega,rfl⟩⟩
    generalize t.ins.length=n1 at *
    generalize t.outs.length=n2 at *
    simp (config:={maxSteps:=2000000}) (disch:=first | omega | (simp only [List.length_cons,List.length_nil,List.length_append,List.length_drop]; omega)) only [ca',ehb,g0,d1,↓z2x,↓z1q,z18,↓zn,z14,Nat.zero_add,↓z1e,z1c,↓zj,zj,z18,↓z1q,zo,↓zw,↓zy,↓z10,↓z1t,↓zu,↓s_op,↓z33,↓z1r,↓z1i,z1i,beq_false,↓zf,zf,↓zd,zd,z1d,zk,↓zg,zg,↓zb,↓z1s,↓z17,↓z11,↓z13,↓z12,↓z2m,↓z1j,z1j,↓z1h,zp,z3g,z1x,zo,z1m,z1n,↓za,↓z9,za,z9,Nat.zero_add,Nat.reduceEqDiff,decide_true,decide_false,Bool.not_true,List.getElem?_cons_zero,List.getElem?_cons_succ]
    try rfl
  have d1:decide ((60:Int)<(t.ins.length:Int))=false:=decide_eq_false (by omega)
  by_cases c2:60<t.outs.length
  · have d2:decide ((60:Int)<(t.outs.length:Int))=true:=decide_eq_true (by omega)
    refine ⟨hb,1,?_,kb,.inr ⟨fun k=>by have:=k.2.1; omega,rfl⟩⟩
    generalize t.ins.length=n1 at *
    generalize t.outs.length=n2 at *
    simp (config:={maxSteps:=2000000}) (disch:=first | omega | (simp only [List.length_cons,List.length_nil,List.length_append,List.length_drop]; omega)) only [ca',ehb,g0,d1,d2,↓z2x,↓z1q,z18,↓zn,z14,Nat.zero_add,↓z1e,z1c,↓zj,zj,z18,↓z1q,zo,↓zw,↓zy,↓z10,↓z1t,↓zu,↓s_op,↓z33,↓z1r,↓z1i,z1i,↓zf,zf,↓zd,zd,z1d,zk,↓zg,zg,↓zb,↓z1s,↓z17,↓z11,↓z13,↓z12,↓z2m,↓z1j,z1j,↓z1h,zp,z3g,z1x,zo,z1m,z1n,↓za,↓z9,za,z9,Nat.zero_add,Nat.reduceEqDiff,decide_true,decide_false,List.getElem?_cons_zero,List.getElem?_cons_succ,beq_self_eq_true]
    try rfl
  have d2:decide ((60:Int)<(t.outs.length:Int))=false:=decide_eq_false (by omega)
  have fin1:(∀ o ∈ t.ins,o.l.length≤2100)→∀ T,TgJ (.ptr (some (h.next,0))) t.outs.length 0 hb T hb→∃ (h':H) (r:Int),fnEnd [.tmp 2] (bindE (blockE 2 (loopN (evC (callX E X M) 45 M none L_purserref06_Great_1) M ⟨T,[],hb⟩)) (evC (callX E X M) 45 M none R_purserref06_Great_0))=some (.int .i64 r,h')∧Kp h h'∧((gtOk t∧r=0)∨(¬ gtOk t∧r=1)):=by
    intro hA T I
    have rnd:=fun i T h' o ho' I=>tg1_round (callX E X M) M t.outs (by omega) _ h.next b cb eb u _ v .rw hb g0 rb' i o ho' T h' I
    rcases bad2_or (fun o:OutQ=>o.l.length) t.outs with hall | ⟨j,o,j1,j2,j3⟩
    · obtain ⟨T',h',rr,hh⟩:=z22 (f:=evC (callX E X M) 45 M none L_purserref06_Great_1) (fun i T h'=>TgJ (.ptr (some (h.next,0))) t.outs.length i hb T h') t.outs.length (.exit 2) (by intro h; cases h) (fun _ h'=>h'=hb) (fun i T h' hi' I=>(rnd i T h' _ (List.getElem?_eq_getElem hi') I).1 (hall _ (List.getElem_mem hi'))) (fun T h' I=>by
        obtain ⟨il,t1,t4,hh⟩:=I
        subst hh
        have c0:decide ((t.outs.length:Int)<(t.outs.length:Int))=false:=decide_eq_false (by omega)
        generalize t.outs.length=n at *
        exact ⟨_,_,by
          simp (config:={maxSteps:=2000000}) (disch:=first | omega | (simp only [List.length_cons,List.length_nil,List.length_append,List.length_drop]; omega)) only [L_purserref06_Great_1,t1,t4,g0,c0,↓z1q,z18,↓zn,z14,Nat.zero_add,↓z1e,z1c,↓zj,zj,z18,↓z1q,↓zw,↓zy,↓z10,↓z2b,↓zu,↓s_op,↓zf,zf,↓zd,zd,z16,zk,↓zg,zg,↓zb,↓z12,↓z1h,zp,z1y,↓za,↓z9,za,z9,Nat.zero_add,Nat.reduceEqDiff,decide_true,decide_false,List.getElem?_cons_zero,List.getElem?_cons_succ]
          exact rfl,rfl⟩) t.outs.length 0 (by omega) M (by omega) T hb I
      rw [rr,hh]
      refine ⟨hb,0,?_,kb,.inl ⟨⟨by omega,by omega,hA,hall⟩,rfl⟩⟩
      simp (config:={maxSteps:=2000000}) (disch:=first | omega | (simp only [List.length_cons,List.length_nil,List.length_append,List.length_drop]; omega)) only [R_purserref06_Great_0,zo,↓zw,↓zy,↓z1t,↓zu,↓s_op,↓zf,zf,↓zd,zd,zk,z1b,↓zb,↓z17,↓z12,z1x,zo,z1m,z1n,↓za,za,decide_true,if_true]
      try rfl
    · have hj:=(List.getElem?_eq_some_iff.1 j1).1
      obtain ⟨T',h',rr,t2,hh⟩:=z22 (f:=evC (callX E X M) 45 M none L_purserref06_Great_1) (fun i T h'=>TgJ (.ptr (some (h.next,0))) t.outs.length i hb T h') j .ret (by intro h; cases h) (fun T h'=>evO T (.t 2)=.int .i64 1∧h'=hb) (fun i T h' hi' I=>(rnd i T h' _ (List.getElem?_eq_getElem (by omega)) I).1 (j3 i _ hi' (List.getElem?_eq_getElem (by omega)))) (fun T h' I=>(rnd j T h' o j1 I).2 j2) j 0 (by omega) M (by omega) T hb I
      rw [rr,hh]
      refine ⟨hb,1,?_,kb,.inr ⟨fun k=>by have:=k.2.2.2 o (List.mem_of_getElem? j1); omega,rfl⟩⟩
      simp (config:={maxSteps:=2000000}) (disch:=first | omega | (simp only [List.length_cons,List.length_nil,List.length_append,List.length_drop]; omega)) only [t2,zo,z1d,z27,z1x,zo,z1m,z1n]
      try rfl
  have fin0:∀ T,TgI (.ptr (some (h.next,0))) t.ins.length 0 hb T hb→∃ (h':H) (r:Int),fnEnd [.tmp 2] (bindE (blockE 0 (loopN (evC (callX E X M) 45 M none L_purserref06_Great_0) M ⟨T,[],hb⟩)) (evC (callX E X M) 45 M none R_purserref06_Great_1))=some (.int .i64 r,h')∧Kp h h'∧((gtOk t∧r=0)∨(¬ gtOk t∧r=1)):=by
    intro T I
    have rnd:=fun i T h' o ho' I=>tg0_round (callX E X M) M t.ins (by omega) _ h.next a ca ea u _ v .rw hb g0 ra' i o ho' T h' I
    rcases bad2_or (fun o:InQ=>o.l.length) t.ins with hall | ⟨j,o,j1,j2,j3⟩
    · obtain ⟨T',h',rr,u1,hh⟩:=z22 (f:=evC (callX E X M) 45 M none L_purserref06_Great_0) (fun i T h'=>TgI (.ptr (some (h.next,0))) t.ins.length i hb T h') t.ins.length (.exit 0) (by intro h; cases h) (fun T h'=>evO T (.t 1)=.ptr (some (h.next,0))∧h'=hb) (fun i T h' hi' I=>(rnd i T h' _ (List.getElem?_eq_getElem hi') I).1 (hall _ (List.getElem_mem hi'))) (fun T h' I=>by
        obtain ⟨il,t1,t3,hh⟩:=I
        subst hh
        have c0:decide ((t.ins.length:Int)<(t.ins.length:Int))=false:=decide_eq_false (by omega)
        generalize t.ins.length=n at *
        exact ⟨_,_,by
          simp (config:={maxSteps:=2000000}) (disch:=first | omega | (simp only [List.length_cons,List.length_nil,List.length_append,List.length_drop]; omega)) only [L_purserref06_Great_0,t1,t3,g0,c0,↓z1q,z18,↓zn,z14,Nat.zero_add,↓z1e,z1c,↓zj,zj,z18,↓z1q,↓zw,↓zy,↓z10,↓z2b,↓zu,↓s_op,↓zf,zf,↓zd,zd,z16,zk,↓zg,zg,↓zb,↓z12,↓z1h,zp,z1y,↓za,↓z9,za,z9,Nat.zero_add,Nat.reduceEqDiff,decide_true,decide_false,List.getElem?_cons_zero,List.getElem?_cons_succ]
          exact rfl,(by (simp only [zb,Nat.reduceEqDiff,decide_false,z9,t1]; try rfl)),rfl⟩) t.ins.length 0 (by omega) M (by omega) T hb I
      rw [rr,hh]
      have fin1:=fin1 hall
      obtain ⟨R,eR⟩:∃ R,R_purserref06_Great_0=R:=⟨_,rfl⟩
      obtain ⟨Lo,eL⟩:∃ R,L_purserref06_Great_1=R:=⟨_,rfl⟩
      rw [eR,eL] at fin1
      simp (config:={maxSteps:=2000000}) (disch:=first | omega | (simp only [List.length_cons,List.length_nil,List.length_append,List.length_drop]; omega)) only [R_purserref06_Great_1,eR,eL,↓z2k,↓zw,↓zy,↓z15,↓zu,↓s_op,↓zf,zf,↓zd,zd,zk,z1b,↓z17,↓z12,if_true]
      exact fin1 _ ⟨Nat.zero_le _,(by (simp only [zb,Nat.reduceEqDiff,decide_false,z9,u1]; try rfl)),(by (simp only [zb,decide_true,za]; try rfl)),rfl⟩
    · have hj:=(List.getElem?_eq_some_iff.1 j1).1
      obtain ⟨T',h',rr,t2,hh⟩:=z22 (f:=evC (callX E X M) 45 M none L_purserref06_Great_0) (fun i T h'=>TgI (.ptr (some (h.next,0))) t.ins.length i hb T h') j .ret (by intro h; cases h) (fun T h'=>evO T (.t 2)=.int .i64 1∧h'=hb) (fun i T h' hi' I=>(rnd i T h' _ (List.getElem?_eq_getElem (by omega)) I).1 (j3 i _ hi' (List.getElem?_eq_getElem (by omega)))) (fun T h' I=>(rnd j T h' o j1 I).2 j2) j 0 (by omega) M (by omega) T hb I
      rw [rr,hh]
      refine ⟨hb,1,?_,kb,.inr ⟨fun k=>by have:=k.2.2.1 o (List.mem_of_getElem? j1); omega,rfl⟩⟩
      simp (config:={maxSteps:=2000000}) (disch:=first | omega | (simp only [List.length_cons,List.length_nil,List.length_append,List.length_drop]; omega)) only [t2,zo,z1d,z27,z1x,zo,z1m,z1n]
      try rfl
  obtain ⟨R,eR⟩:∃ R,R_purserref06_Great_1=R:=⟨_,rfl⟩
  obtain ⟨Lo,eL⟩:∃ R,L_purserref06_Great_0=R:=⟨_,rfl⟩
  rw [eR,eL] at fin0 ⊢
  have fin':=fun T q1 q3=>fin0 T ⟨Nat.zero_le _,q1,q3,rfl⟩
  clear fin0 fin1
  generalize t.ins.length=n1 at *
  generalize t.outs.length=n2 at *
  simp (config:={maxSteps:=2000000}) (disch:=first | omega | (simp only [List.length_cons,List.length_nil,List.length_append,List.length_drop]; omega)) only [ca',ehb,g0,d1,d2,↓z2x,↓z1q,z18,↓zn,z14,Nat.zero_add,↓z2k,↓z1e,z1c,↓zj,zj,z18,↓z1q,↓z1p,↓zw,↓zy,↓z10,↓z15,↓zu,↓s_op,↓z33,↓z1r,↓z1i,z1i,↓zf,zf,↓zd,zd,zk,↓zg,zg,↓zb,↓z1s,↓z17,↓z11,↓z13,↓z12,↓z2m,↓z1j,z1j,↓z1h,zp,z3g,↓za,↓z9,za,z9,Nat.zero_add,Nat.reduceEqDiff,decide_true,decide_false,List.getElem?_cons_zero,List.getElem?_cons_succ,beq_self_eq_true]
  exact fin' _ (by (simp only [zb,Nat.reduceEqDiff,decide_false,decide_true,z9,za]; try rfl)) (by (simp only [zb,decide_true,za]; try rfl))
theorem argV_str {P:Program} {t:TypeId} {fs:Array Field} (h:P.underlying t=some (.struct fs)) (vs:List V):argV P t vs=.agg vs:=by unfold argV; rw [h]
def sz6 (n:Nat):Nat:=if n<253 then 1 else 3
theorem sz6_le (n:Nat):sz6 n≤3:=by unfold sz6; split <;> omega
theorem sz6_siz (n:Nat) (h:n<65536):(sizV n).length=sz6 n:=by
  unfold sizV sz6
  split
  · rfl
  · rw [List.length_cons,z20]
theorem vbeq_slc (a:Option (Nat × Nat)) (l:Nat) (c:Option Nat) (e:Nat):V.beq (.slice a l c e) (.slice a l c e)=true:=by unfold V.beq; simp
def lnI (l:List InQ):Nat:=(l.map fun o=>40+sz6 o.l.length+o.l.length).sum
def lnO (l:List OutQ):Nat:=(l.map fun o=>8+sz6 o.l.length+o.l.length).sum
theorem lnI_eq (l:List InQ) (ok:∀ o ∈ l,o.ok∧o.l.length≤2100):(l.map inB).flatten.length=lnI l∧lnI l≤2143*l.length:=by
  induction l with
  | nil=>exact ⟨rfl,Nat.zero_le _⟩
  | cons a r ih =>
    obtain ⟨h1,h2⟩:=ok a (List.mem_cons_self ..)
    obtain ⟨i1,i2⟩:=ih (fun o h=>ok o (List.mem_cons_of_mem _ h))
    have e:lnI (a :: r)=40+sz6 a.l.length+a.l.length+lnI r:=by unfold lnI; rw [List.map_cons,List.sum_cons]
    have z:=sz6_le a.l.length
    have s:=sz6_siz a.l.length (by omega)
    have lt:=h1.lt
    rw [List.map_cons,List.flatten_cons,List.length_append,i1,e,List.length_cons]
    unfold inB
    simp only [List.length_append,z20]
    omega
theorem lnO_eq (l:List OutQ) (ok:∀ o ∈ l,o.l.length≤2100):(l.map outB).flatten.length=lnO l∧lnO l≤2111*l.length:=by
  induction l with
  | nil=>exact ⟨rfl,Nat.zero_le _⟩
  | cons a r ih =>
    have h2:=ok a (List.mem_cons_self ..)
    obtain ⟨i1,i2⟩:=ih (fun o h=>ok o (List.mem_cons_of_mem _ h))
    have e:lnO (a :: r)=8+sz6 a.l.length+a.l.length+lnO r:=by unfold lnO; rw [List.map_cons,List.sum_cons]
    have z:=sz6_le a.l.length
    have s:=sz6_siz a.l.length (by omega)
    rw [List.map_cons,List.flatten_cons,List.length_append,i1,e,List.length_cons]
    unfold outB
    simp only [List.length_append,z20]
    omega
theorem txB_ln (t:TxQ) (ok:t.ok) (h:gtOk t):(txB t).length=8+sz6 t.ins.length+sz6 t.outs.length+lnI t.ins+lnO t.outs:=by
  obtain ⟨h1,h2,h3,h4⟩:=h
  have i1:=(lnI_eq t.ins (fun o ho=>⟨ok.io o ho,h3 o ho⟩)).1
  have o1:=(lnO_eq t.outs h4).1
  have s1:=sz6_siz t.ins.length (by omega)
  have s2:=sz6_siz t.outs.length (by omega)
  unfold txB
  simp only [List.length_append,z20]; omega
end Go.Eng
