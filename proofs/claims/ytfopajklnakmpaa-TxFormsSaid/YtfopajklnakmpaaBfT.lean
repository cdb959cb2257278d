import Derived.Test.YtfopajklnakmpaaBfR
import Derived.Test.YtfopajklnakmpaaBfS
namespace Go.Eng
open Go
variable {E:Nat→Option Fn} {X:Orc}
set_option linter.unusedSimpArgs false
set_option linter.unusedVariables false
theorem dk0_round (Q:Orc) (m:Nat) (ins:List InQ) (hl:ins.length≤100000000) (S:Nat→Prop) (pb:Nat) (a:Option (Nat × Nat)) (c:Option Nat) (e:Nat) (u w v:V) (md:Md) (h0:H) (gb:h0.get pb=some (.cells [u,.slice a ins.length c e,w,v] md)) (row:RowG S 35 InC h0 ins a e) (i:Nat) (o:InQ) (ho:ins[i]?=some o) (T:Tr V) (h:H) (I:TgI (.ptr (some (pb,0))) ins.length i h0 T h) :
    (o.l.length≤2000→∃ T' h',evC Q 57 m none L_purserref06_Check_0 ⟨T,[],h⟩=some (.normal,⟨T',[],h'⟩)∧TgI (.ptr (some (pb,0))) ins.length (i+1) h0 T' h') ∧
    (2000<o.l.length→∃ T' h',evC Q 57 m none L_purserref06_Check_0 ⟨T,[],h⟩=some (.ret,⟨T',[],h'⟩)∧evO T' (.t 2)=.int .i64 60∧h'=h0):=by
  obtain ⟨_,t1,t3,hh⟩:=I
  subst hh
  have hi:=(List.getElem?_eq_some_iff.1 ho).1
  obtain ⟨q,off,vs,mdv,P,rfl,rfl,gq,⟨b,cb,eb,rfl,sb,l32⟩,cell⟩:=z61 row i _ ho
  have c0:decide ((i:Int)<(ins.length:Int))=true:=decide_eq_true (by omega)
  have wi:wr .i64 ((i:Int)+1)=((i+1:Nat):Int):=by rw [z1u (by omega)]; omega
  have ix:idx (i:Int) ins.length=some i:=idxn hi
  have cg:=cell 33 (by omega)
  rw [(inV_n o b cb eb l32).2.1] at cg
  have i1:i+1≤ins.length:=hi
  obtain ⟨n,en⟩:∃ n,ins.length=n:=⟨_,rfl⟩
  rw [en] at gb c0 ix
  constructor
  · intro hc
    have d0:decide ((2000:Int)<(o.l.length:Int))=false:=decide_eq_false (by omega)
    generalize o.l.length=LL at *
    exact ⟨_,h,by
      simp (config:={maxSteps:=2000000}) (disch:=first | omega | (simp only [List.length_cons,List.length_nil,List.length_append,List.length_drop]; omega)) only [L_purserref06_Check_0,t1,t3,gb,gq,cg,c0,wi,ix,d0,↓z1q,z18,↓zn,z14,Nat.zero_add,Nat.add_assoc,↓z1e,z1c,↓zj,zj,↓z2g,z23,z21,z18,↓z1q,↓z1p,↓zw,↓zy,↓z10,↓z15,↓zu,↓s_op,↓zf,zf,↓zd,zd,zk,↓zg,zg,zt,↓zb,↓z17,↓z12,↓z1h,zp,z1y,z3g,z2z,↓za,↓z9,za,z9,Nat.zero_add,Nat.reduceEqDiff,decide_true,decide_false,List.getElem?_cons_zero,List.getElem?_cons_succ]
      exact rfl,⟨i1,(by (simp only [zb,Nat.reduceEqDiff,decide_false,z9,t1]; try rfl)),(by (simp only [zb,decide_true,za]; try rfl)),rfl⟩⟩
  · intro hc
    have d0:decide ((2000:Int)<(o.l.length:Int))=true:=decide_eq_true (by omega)
    generalize o.l.length=LL at *
    exact ⟨_,h,by
      simp (config:={maxSteps:=2000000}) (disch:=first | omega | (simp only [List.length_cons,List.length_nil,List.length_append,List.length_drop]; omega)) only [L_purserref06_Check_0,t1,t3,gb,gq,cg,c0,ix,d0,↓z1q,z18,↓zn,z14,Nat.zero_add,Nat.add_assoc,↓z1e,z1c,↓zj,zj,↓z2g,z23,z21,z18,↓z1q,↓z1p,↓zw,↓zy,↓z10,↓z15,↓z1t,↓zu,↓s_op,↓zf,zf,↓zd,zd,z1d,zk,↓zg,zg,z27,↓zb,↓z17,↓z12,↓z1h,zp,z1y,z3g,↓za,↓z9,za,z9,Nat.zero_add,Nat.reduceEqDiff,decide_true,decide_false,List.getElem?_cons_zero,List.getElem?_cons_succ]
      exact rfl,(by (simp only [zb,decide_true,za]; try rfl)),rfl⟩
theorem dk1_round (Q:Orc) (m:Nat) (outs:List OutQ) (hl:outs.length≤100000000) (S:Nat→Prop) (pb:Nat) (a:Option (Nat × Nat)) (c:Option Nat) (e:Nat) (u w v:V) (md:Md) (h0:H) (gb:h0.get pb=some (.cells [u,w,.slice a outs.length c e,v] md)) (row:RowG S 2 OutC h0 outs a e) (i:Nat) (o:OutQ) (ho:outs[i]?=some o) (T:Tr V) (h:H) (I:TgJ (.ptr (some (pb,0))) outs.length i h0 T h) :
    (o.l.length≤2000→∃ T' h',evC Q 57 m none L_purserref06_Check_1 ⟨T,[],h⟩=some (.normal,⟨T',[],h'⟩)∧TgJ (.ptr (some (pb,0))) outs.length (i+1) h0 T' h') ∧
    (2000<o.l.length→∃ T' h',evC Q 57 m none L_purserref06_Check_1 ⟨T,[],h⟩=some (.ret,⟨T',[],h'⟩)∧evO T' (.t 2)=.int .i64 60∧h'=h0):=by
  obtain ⟨_,t1,t4,hh⟩:=I
  subst hh
  have hi:=(List.getElem?_eq_some_iff.1 ho).1
  obtain ⟨q,off,vs,mdv,P,rfl,rfl,gq,⟨b,cb,eb,rfl,sb⟩,cell⟩:=z61 row i _ ho
  have c0:decide ((i:Int)<(outs.length:Int))=true:=decide_eq_true (by omega)
  have wi:wr .i64 ((i:Int)+1)=((i+1:Nat):Int):=by rw [z1u (by omega)]; omega
  have ix:idx (i:Int) outs.length=some i:=idxn hi
  have cg:vs[off+(i*2+1)]?=some (.slice b o.l.length cb eb):=cell 1 (by omega)
  have i1:i+1≤outs.length:=hi
  obtain ⟨n,en⟩:∃ n,outs.length=n:=⟨_,rfl⟩
  rw [en] at gb c0 ix
  constructor
  · intro hc
    have d0:decide ((2000:Int)<(o.l.length:Int))=false:=decide_eq_false (by omega)
    generalize o.l.length=LL at *
    exact ⟨_,h,by
      simp (config:={maxSteps:=2000000}) (disch:=first | omega | (simp only [List.length_cons,List.length_nil,List.length_append,List.length_drop]; omega)) only [L_purserref06_Check_1,t1,t4,gb,gq,cg,c0,wi,ix,d0,↓z1q,z18,↓zn,z14,Nat.zero_add,Nat.add_assoc,↓z1e,z1c,↓zj,zj,↓z2g,z23,z21,z18,↓z1q,↓z1p,↓zw,↓zy,↓z10,↓z15,↓zu,↓s_op,↓zf,zf,↓zd,zd,zk,↓zg,zg,zt,↓zb,↓z17,↓z12,↓z1h,zp,z1y,z3g,z2z,↓za,↓z9,za,z9,Nat.zero_add,Nat.reduceEqDiff,decide_true,decide_false,List.getElem?_cons_zero,List.getElem?_cons_succ]
      exact rfl,⟨i1,(by (simp only [zb,Nat.reduceEqDiff,decide_false,z9,t1]; try rfl)),(by (simp only [zb,decide_true,za]; try rfl)),rfl⟩⟩
  · intro hc
    have d0:decide ((2000:Int)<(o.l.length:Int))=true:=decide_eq_true (by omega)
    generalize o.l.length=LL at *
    exact ⟨_,h,by
      simp (config:={maxSteps:=2000000}) (disch:=first | omega | (simp only [List.length_cons,List.length_nil,List.length_append,List.length_drop]; omega)) only [L_purserref06_Check_1,t1,t4,gb,gq,cg,c0,ix,d0,↓z1q,z18,↓zn,z14,Nat.zero_add,Nat.add_assoc,↓z1e,z1c,↓zj,zj,↓z2g,z23,z21,z18,↓z1q,↓z1p,↓zw,↓zy,↓z10,↓z15,↓z1t,↓zu,↓s_op,↓zf,zf,↓zd,zd,z1d,zk,↓zg,zg,z27,↓zb,↓z17,↓z12,↓z1h,zp,z1y,z3g,↓za,↓z9,za,z9,Nat.zero_add,Nat.reduceEqDiff,decide_true,decide_false,List.getElem?_cons_zero,List.getElem?_cons_succ]
      exact rfl,(by (simp only [zb,decide_true,za]; try rfl)),rfl⟩
theorem bad3_or {α:Type} (f:α→Nat) (l:List α):(∀ o ∈ l,f o≤2000)∨∃ (j:Nat) (o:α),l[j]?=some o∧2000<f o∧∀ (i:Nat) (o':α),i<j→l[i]?=some o'→f o'≤2000:=by
  induction l with
  | nil=>exact .inl (fun o ho=>by cases ho)
  | cons a r ih =>
    by_cases ha:2000<f a
    · exact .inr ⟨0,a,rfl,ha,fun i o' hi=>by omega⟩
    · rcases ih with ih | ⟨j,o,h1,h2,h3⟩
      · exact .inl (fun o ho=>by rcases List.mem_cons.1 ho with rfl | ho; omega; exact ih o ho)
      · refine .inr ⟨j+1,o,by simpa using h1,h2,fun i o' hi ho=>?_⟩
        cases i with
        | zero=>simp at ho; subst ho; omega
        | succ i=>simp at ho; exact h3 i o' (by omega) ho
theorem dcheck_go (e6:E k_purserref06_Check=some f_purserref06_Check) (x6:∀ a h,X (.fn k_purserref06_Check) a h=none) (M:Nat) (hM:100<M) (t:TxQ) (hi:t.ins.length<9223372036854775807) (ho:t.outs.length<9223372036854775807) (a b:Option (Nat × Nat)) (ca cb:Option Nat) (ea eb:Nat) (h:H) (ra:RowG (fun j=>j<h.next) 35 InC h t.ins a ea) (rb:RowG (fun j=>j<h.next) 2 OutC h t.outs b eb) :
    ∃ (h':H) (r:Int),callX E X (M+1) (.fn k_purserref06_Check) [.agg [.int .u32 (t.ver:Int),.slice a t.ins.length ca ea,.slice b t.outs.length cb eb,.int .u32 (t.lock:Int)]] h=some (.int .i64 r,h')∧Kp h h'∧((ckOk t∧r=0)∨(¬ ckOk t∧r=60)):=by
  rw [z2c e6 _ _ (Nat.le_of_ble_eq_true rfl) (x6 _ _)]
  obtain ⟨u,eu⟩:∃ u:V,V.int .u32 (t.ver:Int)=u:=⟨_,rfl⟩
  obtain ⟨v,ev⟩:∃ u:V,V.int .u32 (t.lock:Int)=u:=⟨_,rfl⟩
  rw [eu,ev]
  have ca':∀ l:List V,(V.agg l).cells=l:=fun _=>rfl
  obtain ⟨hb,ehb⟩:∃ hb,h.new (.cells [u,.slice a t.ins.length ca ea,.slice b t.outs.length cb eb,v] .rw)=hb:=⟨_,rfl⟩
  have kb:Kp h hb:=by rw [← ehb]; exact Kp.new _ _
  have kn:=kb.1
  have g0:hb.get h.next=some (.cells [u,.slice a t.ins.length ca ea,.slice b t.outs.length cb eb,v] .rw):=by rw [← ehb]; exact z1g _ _
  have sW:∀ j,j<h.next→j<hb.next:=fun j hj=>by omega
  have ra':RowG (fun j=>j<hb.next) 35 InC hb t.ins a ea:=ra.mono kn kb.2 sW (fun o p r=>r.mono kn kb.2 sW)
  have rb':RowG (fun j=>j<hb.next) 2 OutC hb t.outs b eb:=rb.mono kn kb.2 sW (fun o p r=>r.mono kn kb.2 sW)
  by_cases c0:t.ins.length<1
  · have d0:decide ((t.ins.length:Int)<1)=true:=decide_eq_true (by omega)
    refine ⟨hb,60,?_,kb,.inr ⟨fun k=>by have:=k.1.1; omega,rfl⟩⟩
    generalize t.ins.length=n1 at *
    generalize t.outs.length=n2 at *
    simp (config:={maxSteps:=2000000}) (disch:=first | omega | (simp only [List.length_cons,List.length_nil,List.length_append,List.length_drop]; omega)) only [ca',ehb,g0,d0,↓z2x,↓z1q,z18,↓zn,z14,Nat.zero_add,↓z1e,z1c,↓zj,zj,z18,↓z1q,zo,↓zw,↓zy,↓z10,↓z1t,↓zu,↓s_op,↓z33,↓z1r,↓z1i,z1i,beq_false,↓zf,zf,↓zd,zd,z1d,zk,↓zg,zg,↓zb,↓z1s,↓z17,↓z11,↓z13,↓z12,↓z2m,↓z1j,z1j,↓z1h,zp,z1y,z1x,zo,z1m,z1n,↓za,↓z9,za,z9,Nat.zero_add,Nat.reduceEqDiff,decide_true,decide_false,Bool.not_true,List.getElem?_cons_zero,List.getElem?_cons_succ]
    try rfl
  have d0:decide ((t.ins.length:Int)<1)=false:=decide_eq_false (by omega)
  by_cases c1:50<t.ins.length
  · have d1:decide ((50:Int)<(t.ins.length:Int))=true:=decide_eq_true (by omega)
    refine ⟨hb,60,?_,kb,.inr ⟨fun k=>by have:=k.1.2; omega,rfl⟩⟩
    generalize t.ins.length=n1 at *
    generalize t.outs.length=n2 at *
    simp (config:={maxSteps:=2000000}) (disch:=first | omega | (simp only [List.length_cons,List.length_nil,List.length_append,List.length_drop]; omega)) only [ca',ehb,g0,d0,d1,↓z2x,↓z1q,z18,↓zn,z14,Nat.zero_add,↓z1e,z1c,↓zj,zj,z18,↓z1q,zo,↓zw,↓zy,↓z10,↓z1t,↓zu,↓s_op,↓z33,↓z1r,↓z1i,z1i,beq_false,↓zf,zf,↓zd,zd,z1d,zk,↓zg,zg,↓zb,↓z1s,↓z17,↓z11,↓z13,↓z12,↓z2m,↓z1j,z1j,↓z1h,zp,z1y,z3g,z1x,zo,z1m,z1n,↓za,↓z9,za,z9,Nat.zero_add,Nat.reduceEqDiff,decide_true,decide_false,Bool.not_true,List.getElem?_cons_zero,List.getElem?_cons_succ,beq_self_eq_true]
    try rfl
  have d1:decide ((50:Int)<(t.ins.length:Int))=false:=decide_eq_false (by omega)
  by_cases c2:t.outs.length<1
  · have d2:decide ((t.outs.length:Int)<1)=true:=decide_eq_true (by omega)
    refine ⟨hb,60,?_,kb,.inr ⟨fun k=>by have:=k.2.1.1; omega,rfl⟩⟩
    generalize t.ins.length=n1 at *
    generalize t.outs.length=n2 at *
    simp (config:={maxSteps:=2000000}) (disch:=first | omega | (simp only [List.length_cons,List.length_nil,List.length_append,List.length_drop]; omega)) only [ca',ehb,g0,d0,d1,d2,↓z2x,↓z1q,z18,↓zn,z14,Nat.zero_add,↓z1e,z1c,↓zj,zj,z18,↓z1q,zo,↓zw,↓zy,↓z10,↓z1t,↓zu,↓s_op,↓z33,↓z1r,↓z1i,z1i,beq_false,↓zf,zf,↓zd,zd,z1d,zk,↓zg,zg,↓zb,↓z1s,↓z17,↓z11,↓z13,↓z12,↓z2m,↓z1j,z1j,↓z1h,zp,z1y,z3g,z1x,zo,z1m,z1n,↓za,↓z9,za,z9,Nat.zero_add,Nat.reduceEqDiff,decide_true,decide_false,Bool.not_true,List.getElem?_cons_zero,List.getElem?_cons_succ,beq_self_eq_true]
    try rfl
  have d2:decide ((t.outs.length:Int)<1)=false:=decide_eq_false (by omega)
  by_cases c3:50<t.outs.length
  · have d3:decide ((50:Int)<(t.outs.length:Int))=true:=decide_eq_true (by omega)
    refine ⟨hb,60,?_,kb,.inr ⟨fun k=>by have:=k.2.1.2; omega,rfl⟩⟩
    generalize t.ins.length=n1 at *
    generalize t.outs.length=n2 at *
    simp (config:={maxSteps:=2000000}) (disch:=first | omega | (simp only [List.length_cons,List.length_nil,List.length_append,List.length_drop]; omega)) only [ca',ehb,g0,d0,d1,d2,d3,↓z2x,↓z1q,z18,↓zn,z14,Nat.zero_add,↓z1e,z1c,↓zj,zj,z18,↓z1q,zo,↓zw,↓zy,↓z10,↓z1t,↓zu,↓s_op,↓z33,↓z1r,↓z1i,z1i,↓zf,zf,↓zd,zd,z1d,zk,↓zg,zg,↓zb,↓z1s,↓z17,↓z11,↓z13,↓z12,↓z2m,↓z1j,z1j,↓z1h,zp,z1y,z3g,z1x,zo,z1m,z1n,↓za,↓z9,za,z9,Nat.zero_add,Nat.reduceEqDiff,decide_true,decide_false,List.getElem?_cons_zero,List.getElem?_cons_succ,beq_self_eq_true]
    try rfl
  have d3:decide ((50:Int)<(t.outs.length:Int))=false:=decide_eq_false (by omega)
  have fin1:(∀ o ∈ t.ins,o.l.length≤2000)→∀ T,TgJ (.ptr (some (h.next,0))) t.outs.length 0 hb T hb→∃ (h':H) (r:Int),fnEnd [.tmp 2] (bindE (blockE 2 (loopN (evC (callX E X M) 57 M none L_purserref06_Check_1) M ⟨T,[],hb⟩)) (evC (callX E X M) 57 M none R_purserref06_Check_0))=some (.int .i64 r,h')∧Kp h h'∧((ckOk t∧r=0)∨(¬ ckOk t∧r=60)):=by
    intro hA T I
    have rnd:=fun i T h' o ho' I=>dk1_round (callX E X M) M t.outs (by omega) _ h.next b cb eb u _ v .rw hb g0 rb' i o ho' T h' I
    rcases bad3_or (fun o:OutQ=>o.l.length) t.outs with hall | ⟨j,o,j1,j2,j3⟩
    · obtain ⟨T',h',rr,hh⟩:=z22 (f:=evC (callX E X M) 57 M none L_purserref06_Check_1) (fun i T h'=>TgJ (.ptr (some (h.next,0))) t.outs.length i hb T h') t.outs.length (.exit 2) (by intro h; cases h) (fun _ h'=>h'=hb) (fun i T h' hi' I=>(rnd i T h' _ (List.getElem?_eq_getElem hi') I).1 (hall _ (List.getElem_mem hi'))) (fun T h' I=>by
        obtain ⟨il,t1,t4,hh⟩:=I
        subst hh
        have c0:decide ((t.outs.length:Int)<(t.outs.length:Int))=false:=decide_eq_false (by omega)
        generalize t.outs.length=n at *
        exact ⟨_,_,by
          simp (config:={maxSteps:=2000000}) (disch:=first | omega | (simp only [List.length_cons,List.length_nil,List.length_append,List.length_drop]; omega)) only [L_purserref06_Check_1,t1,t4,g0,c0,↓z1q,z18,↓zn,z14,Nat.zero_add,↓z1e,z1c,↓zj,zj,z18,↓z1q,↓zw,↓zy,↓z10,↓z2b,↓zu,↓s_op,↓zf,zf,↓zd,zd,z16,zk,↓zg,zg,↓zb,↓z12,↓z1h,zp,z1y,↓za,↓z9,za,z9,Nat.zero_add,Nat.reduceEqDiff,decide_true,decide_false,List.getElem?_cons_zero,List.getElem?_cons_succ]
          exact rfl,rfl⟩) t.outs.length 0 (by omega) M (by omega) T hb I
      rw [rr,hh]
      refine ⟨hb,0,?_,kb,.inl ⟨⟨⟨by omega,by omega⟩,⟨by omega,by omega⟩,hA,hall⟩,rfl⟩⟩
      simp (config:={maxSteps:=2000000}) (disch:=first | omega | (simp only [List.length_cons,List.length_nil,List.length_append,List.length_drop]; omega)) only [R_purserref06_Check_0,zo,↓zw,↓zy,↓z1t,↓zu,↓s_op,↓zf,zf,↓zd,zd,zk,z1b,↓zb,↓z17,↓z12,z1x,zo,z1m,z1n,↓za,za,decide_true,if_true]
      try rfl
    · have hj:=(List.getElem?_eq_some_iff.1 j1).1
      obtain ⟨T',h',rr,t2,hh⟩:=z22 (f:=evC (callX E X M) 57 M none L_purserref06_Check_1) (fun i T h'=>TgJ (.ptr (some (h.next,0))) t.outs.length i hb T h') j .ret (by intro h; cases h) (fun T h'=>evO T (.t 2)=.int .i64 60∧h'=hb) (fun i T h' hi' I=>(rnd i T h' _ (List.getElem?_eq_getElem (by omega)) I).1 (j3 i _ hi' (List.getElem?_eq_getElem (by omega)))) (fun T h' I=>(rnd j T h' o j1 I).2 j2) j 0 (by omega) M (by omega) T hb I
      rw [rr,hh]
      refine ⟨hb,60,?_,kb,.inr ⟨fun k=>by have:=k.2.2.2 o (List.mem_of_getElem? j1); omega,rfl⟩⟩
      simp (config:={maxSteps:=2000000}) (disch:=first | omega | (simp only [List.length_cons,List.length_nil,List.length_append,List.length_drop]; omega)) only [t2,zo,z1d,z27,z1x,zo,z1m,z1n]
      try rfl
  have fin0:∀ T,TgI (.ptr (some (h.next,0))) t.ins.length 0 hb T hb→∃ (h':H) (r:Int),fnEnd [.tmp 2] (bindE (blockE 0 (loopN (evC (callX E X M) 57 M none L_purserref06_Check_0) M ⟨T,[],hb⟩)) (evC (callX E X M) 57 M none R_purserref06_Check_1))=some (.int .i64 r,h')∧Kp h h'∧((ckOk t∧r=0)∨(¬ ckOk t∧r=60)):=by
    intro T I
    have rnd:=fun i T h' o ho' I=>dk0_round (callX E X M) M t.ins (by omega) _ h.next a ca ea u _ v .rw hb g0 ra' i o ho' T h' I
    rcases bad3_or (fun o:InQ=>o.l.length) t.ins with hall | ⟨j,o,j1,j2,j3⟩
    · obtain ⟨T',h',rr,u1,hh⟩:=z22 (f:=evC (callX E X M) 57 M none L_purserref06_Check_0) (fun i T h'=>TgI (.ptr (some (h.next,0))) t.ins.length i hb T h') t.ins.length (.exit 0) (by intro h; cases h) (fun T h'=>evO T (.t 1)=.ptr (some (h.next,0))∧h'=hb) (fun i T h' hi' I=>(rnd i T h' _ (List.getElem?_eq_getElem hi') I).1 (hall _ (List.getElem_mem hi'))) (fun T h' I=>by
        obtain ⟨il,t1,t3,hh⟩:=I
        subst hh
        have c0:decide ((t.ins.length:Int)<(t.ins.length:Int))=false:=decide_eq_false (by omega)
        generalize t.ins.length=n at *
        exact ⟨_,_,by
          simp (config:={maxSteps:=2000000}) (disch:=first | omega | (simp only [List.length_cons,List.length_nil,List.length_append,List.length_drop]; omega)) only [L_purserref06_Check_0,t1,t3,g0,c0,↓z1q,z18,↓zn,z14,Nat.zero_add,↓z1e,z1c,↓zj,zj,z18,↓z1q,↓zw,↓zy,↓z10,↓z2b,↓zu,↓s_op,↓zf,zf,↓zd,zd,z16,zk,↓zg,zg,↓zb,↓z12,↓z1h,zp,z1y,↓za,↓z9,za,z9,Nat.zero_add,Nat.reduceEqDiff,decide_true,decide_false,List.getElem?_cons_zero,List.getElem?_cons_succ]
          exact rfl,(by (simp only [zb,Nat.reduceEqDiff,decide_false,z9,t1]; try rfl)),rfl⟩) t.ins.length 0 (by omega) M (by omega) T hb I
      rw [rr,hh]
      have fin1:=fin1 hall
      obtain ⟨R,eR⟩:∃ R,R_purserref06_Check_0=R:=⟨_,rfl⟩
      obtain ⟨Lo,eL⟩:∃ R,L_purserref06_Check_1=R:=⟨_,rfl⟩
      rw [eR,eL] at fin1
      simp (config:={maxSteps:=2000000}) (disch:=first | omega | (simp only [List.length_cons,List.length_nil,List.length_append,List.length_drop]; omega)) only [R_purserref06_Check_1,eR,eL,↓z2k,↓zw,↓zy,↓z15,↓zu,↓s_op,↓zf,zf,↓zd,zd,zk,z1b,↓z17,↓z12,if_true]
      exact fin1 _ ⟨Nat.zero_le _,(by (simp only [zb,Nat.reduceEqDiff,decide_false,z9,u1]; try rfl)),(by (simp only [zb,decide_true,za]; try rfl)),rfl⟩
    · have hj:=(List.getElem?_eq_some_iff.1 j1).1
      obtain ⟨T',h',rr,t2,hh⟩:=z22 (f:=evC (callX E X M) 57 M none L_purserref06_Check_0) (fun i T h'=>TgI (.ptr (some (h.next,0))) t.ins.length i hb T h') j .ret (by intro h; cases h) (fun T h'=>evO T (.t 2)=.int .i64 60∧h'=hb) (fun i T h' hi' I=>(rnd i T h' _ (List.getElem?_eq_getElem (by omega)) I).1 (j3 i _ hi' (List.getElem?_eq_getElem (by omega)))) (fun T h' I=>(rnd j T h' o j1 I).2 j2) j 0 (by omega) M (by omega) T hb I
      rw [rr,hh]
      refine ⟨hb,60,?_,kb,.inr ⟨fun k=>by have:=k.2.2.1 o (List.mem_of_getElem? j1); omega,rfl⟩⟩
      simp (config:={maxSteps:=2000000}) (disch:=first | omega | (simp only [List.length_cons,List.length_nil,List.length_append,List.length_drop]; omega)) only [t2,zo,z1d,z27,z1x,zo,z1m,z1n]
      try rfl
  obtain ⟨R,eR⟩:∃ R,R_purserref06_Check_1=R:=⟨_,rfl⟩
  obtain ⟨Lo,eL⟩:∃ R,L_purserref06_Check_0=R:=⟨_,rfl⟩
  rw [eR,eL] at fin0 ⊢
  have fin':=fun T q1 q3=>fin0 T ⟨Nat.zero_le _,q1,q3,rfl⟩
  clear fin0 fin1
  generalize t.ins.length=n1 at *
  generalize t.outs.length=n2 at *
  simp (config:={maxSteps:=2000000}) (disch:=first | omega | (simp only [List.length_cons,List.length_nil,List.length_append,List.length_drop]; omega)) only [ca',ehb,g0,d0,d1,d2,d3,↓z2x,↓z1q,z18,↓zn,z14,Nat.zero_add,↓z2k,↓z1e,z1c,↓zj,zj,z18,↓z1q,↓z1p,↓zw,↓zy,↓z10,↓z15,↓zu,↓s_op,↓z33,↓z1r,↓z1i,z1i,↓zf,zf,↓zd,zd,zk,↓zg,zg,↓zb,↓z1s,↓z17,↓z11,↓z13,↓z12,↓z2m,↓z1j,z1j,↓z1h,zp,z1y,z3g,↓za,↓z9,za,z9,Nat.zero_add,Nat.reduceEqDiff,decide_true,decide_false,List.getElem?_cons_zero,List.getElem?_cons_succ,beq_self_eq_true]
  exact fin' _ (by (simp only [zb,Nat.reduceEqDiff,decide_false,decide_true,z9,za]; try rfl)) (by (simp only [zb,decide_true,za]; try rfl))
structure EnDe (E:Nat→Option Fn):Prop where
  db:EnDb E
  ck:E k_purserref06_Check=some f_purserref06_Check
  en:E k_purserref06_Encode=some f_purserref06_Encode
structure NoDe (X:Orc):Prop where
  db:NoDb X
  ck:∀ a h,X (.fn k_purserref06_Check) a h=none
  en:∀ a h,X (.fn k_purserref06_Encode) a h=none
theorem z6m (e:EnDe E) (x:NoDe X) (N:Nat) (hN:100<N) (t:TxQ) (ok:t.ok) (g:gtOk t) (P:List V) (h:H) (tc:TxC (fun j=>j<h.next) h t P) :
    (ckOk t∧∃ h' a c ez,callX E X (N+24) (.fn k_purserref06_Encode) [.agg P] h=some (.tup [.slice a (txB t).length c ez,.int .i64 0],h')∧Nw h h' (txB t) a c ez) ∨
    (¬ ckOk t∧∃ h',callX E X (N+24) (.fn k_purserref06_Encode) [.agg P] h=some (.tup [.slice none 0 (some 0) 0,.int .i64 60],h')∧Kp h h'):=by
  rw [z2c e.en _ _ (Nat.le_of_ble_eq_true rfl) (x.en _ _)]
  have ca':∀ l:List V,(V.agg l).cells=l:=fun _=>rfl
  obtain ⟨hb,ehb⟩:∃ hb,h.new (.cells P .rw)=hb:=⟨_,rfl⟩
  have kb:Kp h hb:=by rw [← ehb]; exact Kp.new _ _
  have nb:hb.next=h.next+1:=by rw [← ehb]; rfl
  have g0:hb.get h.next=some (.cells P .rw):=by rw [← ehb]; exact z1g _ _
  have fP:=tc.fit
  have lP:=fun m=>z3u fP m
  have tcb:=tc.kp kb
  have z0:decide ((0:Int)=0)=true:=rfl
  have z6:decide ((60:Int)=0)=false:=rfl
  obtain ⟨a,b,ca,cb,ea,eb,eP,ra,rb⟩:=tcb
  obtain ⟨h1,r,c1,k1,hr⟩:=dcheck_go e.ck x.ck (N+22) (by omega) t (by have:=g.1; omega) (by have:=g.2.1; omega) a b ca cb ea eb hb ra rb
  rw [← show P=[.int .u32 (t.ver:Int),.slice a t.ins.length ca ea,.slice b t.outs.length cb eb,.int .u32 (t.lock:Int)] from eP] at c1
  have kn1:=k1.1
  have g1:h1.get h.next=some (.cells P .rw):=by rw [k1.2 _ (by omega),g0]
  rcases hr with ⟨ck,rfl⟩ | ⟨no,rfl⟩
  · left
    obtain ⟨h2,a2,c2,e2,r2,nw2⟩:=z7n e.db x.db N hN t ok g P h1 ((tc.kp kb).kp k1)
    refine ⟨ck,h2,a2,c2,e2,?_,⟨(kb.trans k1).trans nw2.kp,nw2.wb,fun q o e=>by have:=nw2.ge q o e; omega⟩⟩
    generalize (txB t).length=n at *
    simp (config:={maxSteps:=2000000}) (disch:=first | omega | (simp only [List.length_cons,List.length_nil,List.length_append,List.length_drop]; omega)) only [ca',ehb,g0,g1,lP,c1,Bool.not_true,r2,↓z2x,↓z1e,z1c,zo,↓z1p,↓zw,↓zy,↓z10,↓z1t,↓zu,↓s_op,↓zf,zf,↓zd,zd,zk,↓zg,zg,↓zb,↓z1s,↓z17,↓z24,↓z26,↓z11,↓z13,↓z12,↓z1h,↓z1z,zp,z3j,z1x,zo,z1m,z4y,↓za,↓z9,za,z9,Nat.reduceEqDiff,decide_true,decide_false,Bool.not_true]
    try rfl
  · right
    refine ⟨no,h1,?_,kb.trans k1⟩
    simp (config:={maxSteps:=2000000}) (disch:=first | omega | (simp only [List.length_cons,List.length_nil,List.length_append,List.length_drop]; omega)) only [ca',ehb,g0,lP,c1,Bool.not_false,↓z2x,↓z1e,z1c,Int.reduceEq,zo,↓zw,↓zy,↓z10,↓z1t,↓zu,↓s_op,↓zf,zf,↓zd,zd,z1d,zk,↓zg,zg,↓zb,↓z1s,↓z17,↓z24,↓z26,↓z11,↓z13,↓z12,↓z1h,↓z1z,zp,z3j,z1x,zo,z1m,z4y,↓za,↓z9,za,z9,Nat.reduceEqDiff,decide_true,decide_false,Bool.not_false]
    try rfl
def cbV (t:TxQ):Bool:=match t.ins with
  | [o]=>decide (o.tx=List.replicate 32 0) && decide (o.n=4294967295)
  | _=>false
theorem cbV_no (t:TxQ) (h:t.ins.length≠1):cbV t=false:=by
  unfold cbV
  cases hh:t.ins with
  | nil=>rfl
  | cons a r=>cases r with
    | nil=>rw [hh] at h; exact absurd rfl h
    | cons=>rfl
theorem cbV_one (t:TxQ) (o:InQ) (h:t.ins=[o]):cbV t=(decide (o.tx=List.replicate 32 0) && decide (o.n=4294967295)):=by
  unfold cbV; rw [h]
theorem coin_go (e:E k_tx_Coinbase=some f_tx_Coinbase) (x:∀ a h,X (.fn k_tx_Coinbase) a h=none) (N:Nat) (t:TxQ) (ok:t.ok) (li:t.ins.length<9223372036854775807) (P:List V) (h:H) (tc:TxC (fun j=>j<h.next) h t P) :
    ∃ h',callX E X (N+1) (.fn k_tx_Coinbase) [.agg P] h=some (.bool (cbV t),h')∧Kp h h':=by
  rw [z2c e _ _ (Nat.le_of_ble_eq_true rfl) (x _ _)]
  have ca':∀ l:List V,(V.agg l).cells=l:=fun _=>rfl
  obtain ⟨hb,ehb⟩:∃ hb,h.new (.cells P .rw)=hb:=⟨_,rfl⟩
  have kb:Kp h hb:=by rw [← ehb]; exact Kp.new _ _
  have g0:hb.get h.next=some (.cells P .rw):=by rw [← ehb]; exact z1g _ _
  obtain ⟨a,b,ca,cb,ea,eb,eP,ra,rb⟩:=tc.kp kb
  have P1:P[1]?=some (.slice a t.ins.length ca ea):=by rw [eP]; rfl
  refine ⟨hb,?_,kb⟩
  by_cases h1:t.ins.length=1
  · obtain ⟨o,eo⟩:∃ o,t.ins=[o]:=by
      cases hh:t.ins with
      | nil=>rw [hh] at h1; cases h1
      | cons o r=>cases r with
        | nil=>exact ⟨o,rfl⟩
        | cons=>rw [hh] at h1; simp at h1
    rw [cbV_one t o eo]
    rw [eo] at ra
    rcases ra with r | ⟨q,off,vs,md,rfl,rfl,hq,hql,gq,hl,at_⟩
    · cases r
    obtain ⟨b',cb',eb',eI,_,l32⟩:=at_ 0 o rfl
    rw [Nat.zero_mul,Nat.add_zero] at eI
    have hl':off+35≤vs.length:=by simpa using hl
    have ld:loadE (some (.cells vs md)) (some 33) off=some (opV o.tx o.n):=by
      rw [z3n,z39 _ _ _ (by omega)]
      have:=congrArg (List.take 33) eI
      rw [List.take_take,Nat.min_eq_left (by omega)] at this
      rw [this]
      unfold inV opV
      rw [show (ofI .u8 o.tx++[.int .u32 (o.n:Int),.slice b' o.l.length cb' eb',.int .u32 (o.q:Int)])=(ofI .u8 o.tx++[.int .u32 (o.n:Int)])++[.slice b' o.l.length cb' eb',.int .u32 (o.q:Int)] by simp,List.take_left' (by rw [List.length_append,z1a,l32]; rfl)]
    have eq:=fun h=>eq33 h o.tx (List.replicate 32 0) o.n 4294967295 l32 (List.length_replicate)
    have eV:opV (List.replicate 32 0) 4294967295=.agg [.int .u8 0,.int .u8 0,.int .u8 0,.int .u8 0,.int .u8 0,.int .u8 0,.int .u8 0,.int .u8 0,.int .u8 0,.int .u8 0,.int .u8 0,.int .u8 0,.int .u8 0,.int .u8 0,.int .u8 0,.int .u8 0,.int .u8 0,.int .u8 0,.int .u8 0,.int .u8 0,.int .u8 0,.int .u8 0,.int .u8 0,.int .u8 0,.int .u8 0,.int .u8 0,.int .u8 0,.int .u8 0,.int .u8 0,.int .u8 0,.int .u8 0,.int .u8 0,.int .u32 4294967295]:=rfl
    rw [eV] at eq
    have d1:decide ((t.ins.length:Int)=1)=true:=decide_eq_true (by omega)
    have ix:idx 0 t.ins.length=some 0:=idxn (i:=0) (by omega)
    generalize (decide (o.tx=List.replicate 32 0) && decide (o.n=4294967295))=B at *
    generalize opV o.tx o.n=O at *
    generalize t.ins.length=n at *
    simp (config:={maxSteps:=2000000}) (disch:=first | omega | (simp only [List.length_cons,List.length_nil,List.length_append,List.length_drop]; omega)) only [ca',ehb,g0,P1,d1,ix,gq,ld,eq,Nat.zero_mul,↓z54,z71,↓z2x,↓z1q,z18,↓zn,z14,Nat.zero_add,Nat.add_zero,↓z1e,z1c,↓zj,zj,z2q,z7w,↓z2g,z23,z21,z18,↓z1q,↓x_P0,↓x_P1,z2y,z3m,List.length_cons,List.length_nil,List.drop_succ_cons,List.drop_nil,zo,↓zw,↓zy,↓z1t,↓zu,↓s_op,↓z33,↓z1r,↓z1i,z1i,↓zf,zf,↓zd,zd,zk,↓zb,↓z1s,↓z17,↓z11,↓z13,↓z12,↓z2m,↓z1j,z1j,↓z1h,zp,z5q,z1x,zo,z1m,z1n,↓za,↓z9,za,z9,Nat.zero_add,List.append_nil,Nat.reduceEqDiff,decide_true,decide_false,beq_self_eq_true]
    try rfl
  · rw [cbV_no t h1]
    have d1:decide ((t.ins.length:Int)=1)=false:=decide_eq_false (by omega)
    generalize t.ins.length=n at *
    simp (config:={maxSteps:=2000000}) (disch:=first | omega | (simp only [List.length_cons,List.length_nil,List.length_append,List.length_drop]; omega)) only [ca',ehb,g0,P1,d1,↓z2x,↓z1q,z18,↓zn,z14,Nat.zero_add,↓z1e,z1c,↓zj,zj,z18,↓z1q,zo,↓zw,↓zy,↓z1t,↓zu,↓s_op,↓z33,↓z1r,↓z1i,z1i,beq_true,↓zf,zf,↓zd,zd,zk,↓zb,↓z1s,↓z17,↓z11,↓z13,↓z12,↓z2m,↓z1j,z1j,↓z1h,zp,z5q,z1x,zo,z1m,z1n,↓za,↓z9,za,z9,Nat.zero_add,Nat.reduceEqDiff,decide_true,decide_false]
    try rfl
structure CbI (v1:V) (h0:H) (j:Nat) (T:Tr V) (h:H):Prop where
  t1:evO T (.t 1)=v1
  t3:evO T (.t 3)=.int .i64 (j:Int)
  hh:h=h0
theorem cb_round (Q:Orc) (m:Nat) (p q off n:Nat) (hn:0<n) (ca:Option Nat) (P vs:List V) (md:Md) (h0:H) (g0:h0.get p=some (.cells P .rw)) (P1:P[1]?=some (.slice (some (q,off)) n ca 35)) (gq:h0.get q=some (.cells vs md)) (j v:Nat) (hj:j<32) (cg:vs[off+j]?=some (.int .u8 (v:Int))) (T:Tr V) (h:H) (I:CbI (.ptr (some (p,0))) h0 j T h) :
    (v=0→∃ T' h',evC Q 30 m none L_purserref06_Coinbase_0 ⟨T,[],h⟩=some (.normal,⟨T',[],h'⟩)∧CbI (.ptr (some (p,0))) h0 (j+1) T' h') ∧
    (v≠0→∃ T' h',evC Q 30 m none L_purserref06_Coinbase_0 ⟨T,[],h⟩=some (.ret,⟨T',[],h'⟩)∧evO T' (.t 2)=.bool false∧h'=h0):=by
  obtain ⟨t1,t3,hh⟩:=I
  subst hh
  have c0:decide ((j:Int)<32)=true:=decide_eq_true (by omega)
  have wi:wr .i64 ((j:Int)+1)=((j+1:Nat):Int):=by rw [z1u (by omega)]; omega
  have ix0:idx 0 n=some 0:=idxn (i:=0) hn
  have ix:idx (j:Int) 32=some j:=idxn hj
  constructor
  · intro hv
    have dz:decide ((v:Int)=0)=true:=decide_eq_true (by omega)
    exact ⟨_,h,by
      simp (config:={maxSteps:=2000000}) (disch:=first | omega | (simp only [List.length_cons,List.length_nil,List.length_append,List.length_drop]; omega)) only [L_purserref06_Coinbase_0,t1,t3,g0,P1,gq,cg,c0,wi,ix0,ix,dz,Nat.zero_mul,Bool.not_true,↓zn,z14,Nat.zero_add,Nat.add_zero,Nat.mul_one,↓z1e,z1c,↓zj,zj,↓z6x,↓z2g,z59,z23,z21,↓z1p,↓zw,↓zy,↓z10,↓z15,↓zu,↓s_op,↓zf,zf,↓zd,zd,zk,↓zg,zg,zt,↓zb,↓z17,↓z12,↓z1h,zp,z3j,z1y,z2z,↓za,↓z9,za,z9,Nat.zero_add,Nat.reduceEqDiff,decide_true,decide_false,Bool.not_true]
      exact rfl,⟨(by (simp only [zb,Nat.reduceEqDiff,decide_false,z9,t1]; try rfl)),(by (simp only [zb,decide_true,za]; try rfl)),rfl⟩⟩
  · intro hv
    have dz:decide ((v:Int)=0)=false:=decide_eq_false (by omega)
    exact ⟨_,h,by
      simp (config:={maxSteps:=2000000}) (disch:=first | omega | (simp only [List.length_cons,List.length_nil,List.length_append,List.length_drop]; omega)) only [L_purserref06_Coinbase_0,t1,t3,g0,P1,gq,cg,c0,ix0,ix,dz,Nat.zero_mul,Bool.not_false,↓zn,z14,Nat.zero_add,Nat.add_zero,Nat.mul_one,↓z1e,z1c,↓zj,zj,↓z6x,↓z2g,z59,z23,z21,↓z1p,↓zw,↓zy,↓z10,↓z15,↓z1t,↓zu,↓s_op,↓zf,zf,↓zd,zd,z1d,zk,↓zg,zg,z27,↓zb,↓z17,↓z12,↓z1h,zp,z3j,z1y,↓za,↓z9,za,z9,Nat.zero_add,Nat.reduceEqDiff,decide_true,decide_false,Bool.not_false]
      exact rfl,(by (simp only [zb,decide_true,za]; try rfl)),rfl⟩
theorem dcoin_go (e:E k_purserref06_Coinbase=some f_purserref06_Coinbase) (x:∀ a h,X (.fn k_purserref06_Coinbase) a h=none) (N:Nat) (hN:100<N) (t:TxQ) (ok:t.ok) (li:t.ins.length<9223372036854775807) (P:List V) (h:H) (tc:TxC (fun j=>j<h.next) h t P) :
    ∃ h',callX E X (N+1) (.fn k_purserref06_Coinbase) [.agg P] h=some (.bool (cbV t),h')∧Kp h h':=by
  rw [z2c e _ _ (Nat.le_of_ble_eq_true rfl) (x _ _)]
  have ca':∀ l:List V,(V.agg l).cells=l:=fun _=>rfl
  obtain ⟨hb,ehb⟩:∃ hb,h.new (.cells P .rw)=hb:=⟨_,rfl⟩
  have kb:Kp h hb:=by rw [← ehb]; exact Kp.new _ _
  have g0:hb.get h.next=some (.cells P .rw):=by rw [← ehb]; exact z1g _ _
  obtain ⟨a,b,ca,cb,ea,eb,eP,ra,rb⟩:=tc.kp kb
  have P1:P[1]?=some (.slice a t.ins.length ca ea):=by rw [eP]; rfl
  refine ⟨hb,?_,kb⟩
  by_cases h1:t.ins.length=1
  · obtain ⟨o,eo⟩:∃ o,t.ins=[o]:=by
      cases hh:t.ins with
      | nil=>rw [hh] at h1; cases h1
      | cons o r=>cases r with
        | nil=>exact ⟨o,rfl⟩
        | cons=>rw [hh] at h1; simp at h1
    rw [cbV_one t o eo]
    rw [eo] at ra
    rcases ra with r | ⟨q,off,vs,md,rfl,rfl,hq,hql,gq,hl,at_⟩
    · cases r
    obtain ⟨b',cb',eb',eI,_,l32⟩:=at_ 0 o rfl
    rw [Nat.zero_mul,Nat.add_zero] at eI
    have cell:∀ k,k<35→vs[off+k]?=(inV o b' cb' eb')[k]?:=fun k hk=>by
      rw [← eI,List.getElem?_take_of_lt hk,List.getElem?_drop]
    have c32:vs[off+32]?=some (.int .u32 (o.n:Int)):=by rw [cell 32 (by omega),inV_32 o b' cb' eb' l32]
    have d1:decide ((t.ins.length:Int)=1)=true:=decide_eq_true (by omega)
    have ix:idx 0 t.ins.length=some 0:=idxn (i:=0) (by omega)
    by_cases hnn:o.n=4294967295
    · have dn:decide ((o.n:Int)=4294967295)=true:=decide_eq_true (by omega)
      rw [decide_eq_true hnn,Bool.and_true]
      have tx_at:∀ (j v:Nat),o.tx[j]?=some v→vs[off+j]?=some (.int .u8 (v:Int)):=fun j v hv=>by
        have hj:=(List.getElem?_eq_some_iff.1 hv).1
        rw [cell j (by omega)]
        unfold inV
        rw [List.getElem?_append_left (by rw [z1a]; exact hj),z36 _ _ _ hj,List.getD_eq_getElem?_getD,hv]; rfl
      have fin:∀ T,CbI (.ptr (some (h.next,0))) hb 0 T hb→fnEnd [.tmp 2] (bindE (blockE 0 (loopN (evC (callX E X N) 30 N none L_purserref06_Coinbase_0) N ⟨T,[],hb⟩)) (evC (callX E X N) 30 N none R_purserref06_Coinbase_0))=some (.bool (decide (o.tx=List.replicate 32 0)),hb):=by
        intro T I
        have rnd:=fun j v hj hv T h' I=>cb_round (callX E X N) N h.next q off t.ins.length (by omega) ca P vs md hb g0 P1 gq j v hj (tx_at j v hv) T h' I
        rcases first_bad (fun v:Nat=>v=0) (fun a=>Classical.em _) o.tx with hall | ⟨j,v,j1,j2,j3⟩
        · have hz:o.tx=List.replicate 32 0:=List.eq_replicate_iff.2 ⟨l32,hall⟩
          rw [decide_eq_true hz]
          obtain ⟨T',h',rr,hh⟩:=z22 (f:=evC (callX E X N) 30 N none L_purserref06_Coinbase_0) (fun i T h'=>CbI (.ptr (some (h.next,0))) hb i T h') 32 (.exit 0) (by intro h; cases h) (fun _ h'=>h'=hb) (fun i T h' hi I=>(rnd i _ hi (List.getElem?_eq_getElem (by omega)) T h' I).1 (hall _ (List.getElem_mem (by omega)))) (fun T h' I=>by
            obtain ⟨t1,t3,hh⟩:=I
            have c0:decide (((32:Nat):Int)<32)=false:=rfl
            exact ⟨_,_,by
              simp (config:={maxSteps:=2000000}) (disch:=first | omega | (simp only [List.length_cons,List.length_nil,List.length_append,List.length_drop]; omega)) only [L_purserref06_Coinbase_0,t3,Int.reduceLT,Int.cast_ofNat_Int,↓zw,↓zy,↓z10,↓z2b,↓zu,↓s_op,↓zf,zf,↓zd,zd,z16,zk,↓zg,zg,↓zb,↓z17,↓z12,↓z1h,zp,z1y,↓za,↓z9,za,z9,decide_true,decide_false]
              exact rfl,hh⟩) 32 0 (by omega) N (by omega) T hb I
          rw [rr,hh]
          simp (config:={maxSteps:=2000000}) (disch:=first | omega | (simp only [List.length_cons,List.length_nil,List.length_append,List.length_drop]; omega)) only [R_purserref06_Coinbase_0,zo,↓zw,↓zy,↓z1t,↓zu,↓s_op,↓zf,zf,↓zd,zd,zk,z1b,↓zb,↓z17,↓z12,z1x,zo,z1m,z1n,↓za,za,decide_true,if_true]
          try rfl
        · have hj:=(List.getElem?_eq_some_iff.1 j1).1
          have hz:o.tx≠List.replicate 32 0:=fun hz=>by
            rw [hz,List.getElem?_replicate,if_pos (by omega)] at j1
            exact j2 (Option.some.inj j1).symm
          rw [decide_eq_false hz]
          obtain ⟨T',h',rr,t2,hh⟩:=z22 (f:=evC (callX E X N) 30 N none L_purserref06_Coinbase_0) (fun i T h'=>CbI (.ptr (some (h.next,0))) hb i T h') j .ret (by intro h; cases h) (fun T h'=>evO T (.t 2)=.bool false∧h'=hb) (fun i T h' hi I=>(rnd i _ (by omega) (List.getElem?_eq_getElem (by omega)) T h' I).1 (j3 i _ hi (List.getElem?_eq_getElem (by omega)))) (fun T h' I=>(rnd j v (by omega) j1 T h' I).2 j2) j 0 (by omega) N (by omega) T hb I
          rw [rr,hh]
          simp (config:={maxSteps:=2000000}) (disch:=first | omega | (simp only [List.length_cons,List.length_nil,List.length_append,List.length_drop]; omega)) only [t2,zo,z1d,z27,z1x,zo,z1m,z1n]
          try rfl
      obtain ⟨R,eR⟩:∃ R,R_purserref06_Coinbase_0=R:=⟨_,rfl⟩
      obtain ⟨Lo,eL⟩:∃ R,L_purserref06_Coinbase_0=R:=⟨_,rfl⟩
      rw [eR,eL] at fin ⊢
      have fin':=fun T q1 q3=>fin T ⟨q1,q3,rfl⟩
      clear fin
      generalize t.ins.length=n at *
      simp (config:={maxSteps:=2000000}) (disch:=first | omega | (simp only [List.length_cons,List.length_nil,List.length_append,List.length_drop]; omega)) only [ca',ehb,g0,P1,d1,ix,gq,c32,dn,Nat.zero_mul,Bool.not_true,↓z2x,↓z1q,z18,↓zn,z14,Nat.zero_add,Nat.add_zero,↓z2k,↓z1e,z1c,↓zj,zj,↓z2g,z23,z21,z18,↓z1q,↓z1p,↓zw,↓zy,↓z10,↓z15,↓zu,↓s_op,↓z33,↓z1r,↓z1i,z1i,↓zf,zf,↓zd,zd,zk,↓zg,zg,↓zb,↓z1s,↓z17,↓z11,↓z13,↓z12,↓z2m,↓z1j,z1j,↓z1h,zp,z3j,↓za,↓z9,za,z9,Nat.zero_add,Nat.reduceEqDiff,decide_true,decide_false,Bool.not_true,beq_self_eq_true]
      exact fin' _ (by (simp only [zb,Nat.reduceEqDiff,decide_false,decide_true,z9,za]; try rfl)) (by (simp only [zb,decide_true,za]; try rfl))
    · have dn:decide ((o.n:Int)=4294967295)=false:=decide_eq_false (by omega)
      rw [decide_eq_false hnn,Bool.and_false]
      generalize t.ins.length=n at *
      simp (config:={maxSteps:=2000000}) (disch:=first | omega | (simp only [List.length_cons,List.length_nil,List.length_append,List.length_drop]; omega)) only [ca',ehb,g0,P1,d1,ix,gq,c32,dn,Nat.zero_mul,Bool.not_true,Bool.not_false,↓z2x,↓z1q,z18,↓zn,z14,Nat.zero_add,Nat.add_zero,↓z1e,z1c,↓zj,zj,↓z2g,z23,z21,z18,↓z1q,zo,↓zw,↓zy,↓z10,↓z1t,↓zu,↓s_op,↓z33,↓z1r,↓z1i,z1i,↓zf,zf,↓zd,zd,z1d,zk,↓zg,zg,↓zb,↓z1s,↓z17,↓z11,↓z13,↓z12,↓z2m,↓z1j,z1j,↓z1h,zp,z3j,z1x,zo,z1m,z1n,↓za,↓z9,za,z9,Nat.zero_add,Nat.reduceEqDiff,decide_true,decide_false,Bool.not_true,Bool.not_false,beq_self_eq_true]
      try rfl
  · rw [cbV_no t h1]
    have d1:decide ((t.ins.length:Int)=1)=false:=decide_eq_false (by omega)
    generalize t.ins.length=n at *
    simp (config:={maxSteps:=2000000}) (disch:=first | omega | (simp only [List.length_cons,List.length_nil,List.length_append,List.length_drop]; omega)) only [ca',ehb,g0,P1,d1,Bool.not_false,↓z2x,↓z1q,z18,↓zn,z14,Nat.zero_add,↓z1e,z1c,↓zj,zj,z18,↓z1q,zo,↓zw,↓zy,↓z10,↓z1t,↓zu,↓s_op,↓z33,↓z1r,↓z1i,z1i,beq_false,↓zf,zf,↓zd,zd,z1d,zk,↓zg,zg,↓zb,↓z1s,↓z17,↓z11,↓z13,↓z12,↓z2m,↓z1j,z1j,↓z1h,zp,z3j,z1x,zo,z1m,z1n,↓za,↓z9,za,z9,Nat.zero_add,Nat.reduceEqDiff,decide_true,decide_false,Bool.not_true,Bool.not_false]
    try rfl
theorem Nw.toS {h h':H} {l:List Nat} {a:Option (Nat × Nat)} {c:Option Nat} {e:Nat} (nw:Nw h h' l a c e) (S:Nat→Prop) (w:∀ j,h.next≤j→S j):SrcS S h' a e l:=nw.wb.src.toS S (fun q z hz=>w q (nw.ge q z hz))
structure DcInI (p w rc:Nat) (u s2 v:V) (ops:List InQ) (hB:H) (i:Nat) (T:Tr V) (h:H):Prop where
  t1:evO T (.t 1)=.ptr (some (p,0))
  t2:evO T (.t 2)=.ptr (some (rc,0))
  t3:evO T (.t 3)=.ptr (some (w,0))
  ti:evO T (.t 4)=.int .i64 (i:Int)
  row:∃ a c ez,h.get w=some (.cells [u,.slice a i c ez,s2,v] .rw)∧RowF (fun j=>hB.next≤j) hB.next 35 InC h (ops.take i) a c ez
  nx:hB.next≤h.next
  fr:∀ j,j<hB.next→j≠w→h.get j=hB.get j
theorem dcIn_round (e:E k_purserref01_Twin=some f_purserref01_Twin) (x:∀ a h,X (.fn k_purserref01_Twin) a h=none) (N m:Nat) (p w rc:Nat) (P:List V) (u s2 v:V) (ops:List InQ) (hl:ops.length≤1000) (sc:∀ o ∈ ops,o.l.length≤2100) (a0:Option (Nat × Nat)) (c0:Option Nat) (e0:Nat) (hP:P[1]?=some (.slice a0 ops.length c0 e0)) (hB:H) (gp:hB.get p=some (.cells P .rw)) (hw:w<hB.next) (hpw:p≠w) (hp:p<hB.next) (src:RowG (fun j=>j<hB.next∧j≠w) 35 InC hB ops a0 e0) (i:Nat) (hi:i<ops.length) (T:Tr V) (h:H) (I:DcInI p w rc u s2 v ops hB i T h) :
    ∃ T' h',evC (callX E X (N+1)) 58 m none L_purserref06_Copy_0 ⟨T,[],h⟩=some (.normal,⟨T',[],h'⟩)∧DcInI p w rc u s2 v ops hB (i+1) T' h':=by
  obtain ⟨t1,t2,t3,ti,⟨a,c,ez,gw,row⟩,nx,fr⟩:=I
  have ho:=List.getElem?_eq_getElem hi
  obtain ⟨o,eo⟩:∃ o,ops[i]=o:=⟨_,rfl⟩
  rw [eo] at ho
  have mem:=List.mem_of_getElem? ho
  have li:(ops.take i).length=i:=by rw [List.length_take]; omega
  obtain ⟨q,off,vs,md,Q,rfl,rfl,hq,gq,ic,ld⟩:=z4z src i o ho
  have gp':h.get p=some (.cells P .rw):=by rw [fr _ hp hpw,gp]
  have gq':h.get q=some (.cells vs md):=by rw [fr _ hq.1 hq.2,gq]
  have ic':InC (fun j=>j<hB.next∧j≠w) h o Q:=itIn.mono ic nx (fun j hj _=>fr j hj.1 hj.2) (fun _ hj _=>hj)
  have fQ:=itIn.fit ic'
  obtain ⟨b,cb,eb,eQ,ss,l32⟩:=ic'
  have Q33:Q[33]?=some (.slice b o.l.length cb eb):=by rw [eQ]; exact inV_33 o b cb eb l32
  obtain ⟨Z,eZ⟩:∃ Z:List V,[.int .u8 0,.int .u8 0,.int .u8 0,.int .u8 0,.int .u8 0,.int .u8 0,.int .u8 0,.int .u8 0,.int .u8 0,.int .u8 0,.int .u8 0,.int .u8 0,.int .u8 0,.int .u8 0,.int .u8 0,.int .u8 0,.int .u8 0,.int .u8 0,.int .u8 0,.int .u8 0,.int .u8 0,.int .u8 0,.int .u8 0,.int .u8 0,.int .u8 0,.int .u8 0,.int .u8 0,.int .u8 0,.int .u8 0,.int .u8 0,.int .u8 0,.int .u8 0,.int .u32 0,.slice none 0 (some 0) 0,.int .u32 0]=Z:=⟨_,rfl⟩
  have lZ:Z.length=35:=by rw [← eZ]; rfl
  have pZ:Z.all plainV=true:=by rw [← eZ]; rfl
  have stQ:=fun h i=>z4u fQ h i
  have puQ:=fun h i=>z3w fQ h i Z lZ
  have gz:(h.new (.cells Z .rw)).get h.next=some (.cells Z .rw):=z1g _ _
  obtain ⟨h1,eh1⟩:∃ h1,(h.new (.cells Z .rw)).put h.next (.cells Q .rw)=h1:=⟨_,rfl⟩
  have k1:Kp h h1:=by rw [← eh1]; (repeat (first | exact Kp.refl _ | refine Kp.put ?_ _ (by first | omega | (simp only [zr,zh,zq]; omega)) | refine Kp.del ?_ (by first | omega | (simp only [zr,zh,zq]; omega)) | refine Kp.trans ?_ (Kp.new _ _)))
  have n1:h1.next=h.next+1:=by rw [← eh1]; rfl
  have g1:h1.get h.next=some (.cells Q .rw):=by rw [← eh1]; exact z1f _ _ _
  obtain ⟨ao,co,eo',h2,r2,nw2⟩:=twinv_go e x N o.l (by have:=sc o mem; omega) b cb eb h1 (ss.src.mono k1)
  have k2:=nw2.kp
  have kn2:=k2.1
  have g2:h2.get h.next=some (.cells Q .rw):=by rw [k2.2 _ (by omega),g1]
  obtain ⟨Q2,eQ2⟩:∃ Q2,Q.set 33 (.slice ao o.l.length co eo')=Q2:=⟨_,rfl⟩
  have iQ2:inV o ao co eo'=Q2:=by rw [← eQ2,eQ]; exact (inV_s33 o b ao cb co eb eo' l32).symm
  have st:∀ h i o',storeV h 1 (.ptr (some (i,o'))) (.slice ao o.l.length co eo')=storeE (h.get i) h i o' [.slice ao o.l.length co eo']:=fun h i o'=>z3s h 1 i o' _ rfl
  have se:∀ h' i',storeE (some (.cells Q .rw)) h' i' 33 [.slice ao o.l.length co eo']=some (h'.put i' (.cells Q2 .rw)):=fun h' i'=>by
    rw [z1v _ _ _ _ _ (by rw [fQ.1]; simp only [List.length_cons,List.length_nil]; omega),z2w,eQ2]
    rw [fQ.1]; omega
  obtain ⟨h3,eh3⟩:∃ h3,h2.put h.next (.cells Q2 .rw)=h3:=⟨_,rfl⟩
  have n3:h3.next=h2.next:=by rw [← eh3]; rfl
  have f3:∀ j,j≠h.next→h3.get j=h2.get j:=fun j hj=>by rw [← eh3,z1o _ _ (Ne.symm hj)]
  have g3:h3.get h.next=some (.cells Q2 .rw):=by rw [← eh3]; exact z1f _ _ _
  have k13:∀ j,j<h.next→h3.get j=h.get j:=fun j hj=>by rw [f3 _ (by omega),k2.2 _ (by omega),k1.2 _ hj]
  have s3:SrcS (fun j=>h1.next≤j) h3 ao eo' o.l:=(nw2.toS (fun j=>h1.next≤j) (fun j hj=>hj)).mono2 (by omega) (fun j hj _=>f3 j (by omega)) (fun _ hj _=>hj)
  have ic3:InC (fun j=>h1.next≤j) h3 o Q2:=⟨ao,co,eo',iQ2.symm,s3,l32⟩
  have fQ2:=itIn.fit ic3
  have ldQ2:=fun m=>z3u fQ2 m
  have g3w:h3.get w=some (.cells [u,.slice a i c ez,s2,v] .rw):=by rw [k13 _ (by omega),gw]
  obtain ⟨h4,eh4⟩:∃ h4,h3.new (.cells Q2 .rw)=h4:=⟨_,rfl⟩
  have n4:h4.next=h3.next+1:=by rw [← eh4]; rfl
  have k4:Kp h3 h4:=by rw [← eh4]; exact Kp.new _ _
  have srcQ:=src_1 h3 fQ2 (by omega)
  rw [eh4] at srcQ
  have ff:=fit_fill fQ2 Z lZ
  have row4:RowF (fun j=>hB.next≤j) hB.next 35 InC h4 (ops.take i) a c ez:=row.mono itIn (by omega) (fun j hj hn=>by rw [k4.2 _ (by omega),k13 _ hn]) (fun q' o' eq=>by
    have:=row.lt eq
    rw [k4.2 _ (by omega),k13 _ (by omega)])
  have ic4:InC (fun j=>hB.next≤j∧a≠some (j,0)) h4 o Q2:=itIn.mono ic3 (by omega) (fun j _ hn=>k4.2 _ hn) (fun j hj _=>⟨by omega,fun eq=>by have:=row.lt eq; omega⟩)
  obtain ⟨h5,ap,row5,n5,f5⟩:=rowF_app itIn (by omega) 72 (by omega) (fun j=>hB.next≤j) hB.next h4 (by omega) (ops.take i) (by omega) a c ez row4 o Q2 ic4
  rw [li] at ap
  have aw:a≠some (w,0):=fun eq=>by have:=row.lt eq; omega
  have g5w:h5.get w=some (.cells [u,.slice a i c ez,s2,v] .rw):=by rw [f5 _ (by omega) aw,k4.2 _ (by omega),g3w]
  have cc:decide ((i:Int)<(ops.length:Int))=true:=decide_eq_true (by omega)
  have wi:wr .i64 ((i:Int)+1)=((i+1:Nat):Int):=by rw [z1u (by omega)]; omega
  have ix:idx (i:Int) ops.length=some i:=idxn hi
  obtain ⟨h6,eh6⟩:∃ h6,h5.put w (.cells [u,.slice (some (h4.next,0)) (i+1) none 35,s2,v] .rw)=h6:=⟨_,rfl⟩
  have n6:h6.next=h5.next:=by rw [← eh6]; rfl
  have g6:h6.get w=some (.cells [u,.slice (some (h4.next,0)) (i+1) none 35,s2,v] .rw):=by rw [← eh6]; exact z1f _ _ _
  have f6:∀ j,j≠w→h6.get j=h5.get j:=fun j hj=>by rw [← eh6,z1o _ _ (Ne.symm hj)]
  have et:ops.take (i+1)=ops.take i++[o]:=by rw [List.take_add_one,ho]; rfl
  have row6:RowF (fun j=>hB.next≤j) hB.next 35 InC h6 (ops.take (i+1)) (some (h4.next,0)) none 35:=by
    rw [et]
    exact row5.mono itIn (by omega) (fun j hj _=>f6 j (by omega)) (fun q' o' eq=>by cases eq; exact f6 _ (by omega))
  have stw:∀ h i' o',storeV h 1 (.ptr (some (i',o'))) (.slice (some (h4.next,0)) (i+1) none 35)=storeE (h.get i') h i' o' [.slice (some (h4.next,0)) (i+1) none 35]:=fun h i' o'=>z3s h 1 i' o' _ rfl
  have fr6:∀ j,j<hB.next→j≠w→h6.get j=hB.get j:=fun j hj1 hj2=>by
    rw [f6 _ hj2,f5 _ (by omega) (fun eq=>by have:=row.lt eq; omega),k4.2 _ (by omega),k13 _ (by omega),fr j hj1 hj2]
  clear eo ho et
  generalize ops.length=n at *
  generalize o.l.length=ol at *
  refine ⟨_,h6,by
    simp (config:={maxSteps:=2000000}) (disch:=first | omega | (simp only [List.length_cons,List.length_nil,List.length_append,List.length_drop]; omega)) only [L_purserref06_Copy_0,eZ,t1,t3,ti,gp',hP,cc,ix,gq',ld,stQ,puQ,eh1,g1,Q33,r2,g2,st,se,eh3,g3,g3w,ldQ2,ff,eh4,srcQ,ap,g5w,stw,eh6,wi,↓z2n,↓z1q,z18,↓zn,z14,Nat.zero_add,↓z19,↓z1e,z1c,↓zj,zj,↓m_st,z2p,z1v,z2q,z7w,↓z2d,↓z2g,z23,z21,z18,↓z1q,↓z2s,z2v,↓x_P0,↓x_P1,List.length_cons,List.length_nil,List.cons_append,List.drop_succ_cons,List.drop_zero,List.nil_append,↓z1p,↓zw,↓zy,↓z10,↓z15,↓zu,↓s_op,↓zf,zf,↓zd,zd,zk,↓zg,zg,zt,↓zb,↓zm,↓z17,↓z24,↓z26,↓z12,↓z1h,↓z1z,zp,z1y,z2z,↓za,↓z9,za,z9,Nat.zero_add,List.nil_append,Nat.reduceEqDiff,decide_true,decide_false,List.getElem?_cons_zero,List.getElem?_cons_succ]
    exact rfl,⟨(by (simp only [zb,zm,Nat.reduceEqDiff,decide_false,z9,t1]; try rfl)),(by (simp only [zb,zm,Nat.reduceEqDiff,decide_false,z9,t2]; try rfl)),(by (simp only [zb,zm,Nat.reduceEqDiff,decide_false,z9,t3]; try rfl)),(by (simp only [zb,decide_true,za]; try rfl)),⟨_,_,_,g6,row6⟩,by omega,fr6⟩⟩
structure DcOutI (p w rc:Nat) (u s1 v:V) (ops:List OutQ) (hB:H) (i:Nat) (T:Tr V) (h:H):Prop where
  t1:evO T (.t 1)=.ptr (some (p,0))
  t2:evO T (.t 2)=.ptr (some (rc,0))
  t3:evO T (.t 3)=.ptr (some (w,0))
  ti:evO T (.t 6)=.int .i64 (i:Int)
  row:∃ a c ez,h.get w=some (.cells [u,s1,.slice a i c ez,v] .rw)∧RowF (fun j=>hB.next≤j) hB.next 2 OutC h (ops.take i) a c ez
  nx:hB.next≤h.next
  fr:∀ j,j<hB.next→j≠w→h.get j=hB.get j
theorem dcOut_round (e:E k_purserref01_Twin=some f_purserref01_Twin) (x:∀ a h,X (.fn k_purserref01_Twin) a h=none) (N m:Nat) (p w rc:Nat) (P:List V) (u s1 v:V) (ops:List OutQ) (hl:ops.length≤1000) (sc:∀ o ∈ ops,o.l.length≤2100) (a0:Option (Nat × Nat)) (c0:Option Nat) (e0:Nat) (hP:P[2]?=some (.slice a0 ops.length c0 e0)) (hB:H) (gp:hB.get p=some (.cells P .rw)) (hw:w<hB.next) (hpw:p≠w) (hp:p<hB.next) (src:RowG (fun j=>j<hB.next∧j≠w) 2 OutC hB ops a0 e0) (i:Nat) (hi:i<ops.length) (T:Tr V) (h:H) (I:DcOutI p w rc u s1 v ops hB i T h) :
    ∃ T' h',evC (callX E X (N+1)) 58 m none L_purserref06_Copy_1 ⟨T,[],h⟩=some (.normal,⟨T',[],h'⟩)∧DcOutI p w rc u s1 v ops hB (i+1) T' h':=by
  obtain ⟨t1,t2,t3,ti,⟨a,c,ez,gw,row⟩,nx,fr⟩:=I
  have ho:=List.getElem?_eq_getElem hi
  obtain ⟨o,eo⟩:∃ o,ops[i]=o:=⟨_,rfl⟩
  rw [eo] at ho
  have mem:=List.mem_of_getElem? ho
  have li:(ops.take i).length=i:=by rw [List.length_take]; omega
  obtain ⟨q,off,vs,md,Q,rfl,rfl,hq,gq,ic,ld⟩:=z4z src i o ho
  have gp':h.get p=some (.cells P .rw):=by rw [fr _ hp hpw,gp]
  have gq':h.get q=some (.cells vs md):=by rw [fr _ hq.1 hq.2,gq]
  have ic':OutC (fun j=>j<hB.next∧j≠w) h o Q:=z4o.mono ic nx (fun j hj _=>fr j hj.1 hj.2) (fun _ hj _=>hj)
  have fQ:=z4o.fit ic'
  obtain ⟨b,cb,eb,eQ,ss⟩:=ic'
  have Q33:Q[1]?=some (.slice b o.l.length cb eb):=by rw [eQ]; rfl
  obtain ⟨Z,eZ⟩:∃ Z:List V,[.int .i64 0,.slice none 0 (some 0) 0]=Z:=⟨_,rfl⟩
  have lZ:Z.length=2:=by rw [← eZ]; rfl
  have pZ:Z.all plainV=true:=by rw [← eZ]; rfl
  have stQ:=fun h i=>z4u fQ h i
  have puQ:=fun h i=>z3w fQ h i Z lZ
  have gz:(h.new (.cells Z .rw)).get h.next=some (.cells Z .rw):=z1g _ _
  obtain ⟨h1,eh1⟩:∃ h1,(h.new (.cells Z .rw)).put h.next (.cells Q .rw)=h1:=⟨_,rfl⟩
  have k1:Kp h h1:=by rw [← eh1]; (repeat (first | exact Kp.refl _ | refine Kp.put ?_ _ (by first | omega | (simp only [zr,zh,zq]; omega)) | refine Kp.del ?_ (by first | omega | (simp only [zr,zh,zq]; omega)) | refine Kp.trans ?_ (Kp.new _ _)))
  have n1:h1.next=h.next+1:=by rw [← eh1]; rfl
  have g1:h1.get h.next=some (.cells Q .rw):=by rw [← eh1]; exact z1f _ _ _
  obtain ⟨ao,co,eo',h2,r2,nw2⟩:=twinv_go e x N o.l (by have:=sc o mem; omega) b cb eb h1 (ss.src.mono k1)
  have k2:=nw2.kp
  have kn2:=k2.1
  have g2:h2.get h.next=some (.cells Q .rw):=by rw [k2.2 _ (by omega),g1]
  obtain ⟨Q2,eQ2⟩:∃ Q2,Q.set 1 (.slice ao o.l.length co eo')=Q2:=⟨_,rfl⟩
  have iQ2:[.int .i64 o.v,.slice ao o.l.length co eo']=Q2:=by rw [← eQ2,eQ]; rfl
  have st:∀ h i o',storeV h 1 (.ptr (some (i,o'))) (.slice ao o.l.length co eo')=storeE (h.get i) h i o' [.slice ao o.l.length co eo']:=fun h i o'=>z3s h 1 i o' _ rfl
  have se:∀ h' i',storeE (some (.cells Q .rw)) h' i' 1 [.slice ao o.l.length co eo']=some (h'.put i' (.cells Q2 .rw)):=fun h' i'=>by
    rw [z1v _ _ _ _ _ (by rw [fQ.1]; simp only [List.length_cons,List.length_nil]; omega),z2w,eQ2]
    rw [fQ.1]; omega
  obtain ⟨h3,eh3⟩:∃ h3,h2.put h.next (.cells Q2 .rw)=h3:=⟨_,rfl⟩
  have n3:h3.next=h2.next:=by rw [← eh3]; rfl
  have f3:∀ j,j≠h.next→h3.get j=h2.get j:=fun j hj=>by rw [← eh3,z1o _ _ (Ne.symm hj)]
  have g3:h3.get h.next=some (.cells Q2 .rw):=by rw [← eh3]; exact z1f _ _ _
  have k13:∀ j,j<h.next→h3.get j=h.get j:=fun j hj=>by rw [f3 _ (by omega),k2.2 _ (by omega),k1.2 _ hj]
  have s3:SrcS (fun j=>h1.next≤j) h3 ao eo' o.l:=(nw2.toS (fun j=>h1.next≤j) (fun j hj=>hj)).mono2 (by omega) (fun j hj _=>f3 j (by omega)) (fun _ hj _=>hj)
  have ic3:OutC (fun j=>h1.next≤j) h3 o Q2:=⟨ao,co,eo',iQ2.symm,s3⟩
  have fQ2:=z4o.fit ic3
  have ldQ2:=fun m=>z3u fQ2 m
  have g3w:h3.get w=some (.cells [u,s1,.slice a i c ez,v] .rw):=by rw [k13 _ (by omega),gw]
  obtain ⟨h4,eh4⟩:∃ h4,h3.new (.cells Q2 .rw)=h4:=⟨_,rfl⟩
  have n4:h4.next=h3.next+1:=by rw [← eh4]; rfl
  have k4:Kp h3 h4:=by rw [← eh4]; exact Kp.new _ _
  have srcQ:=src_1 h3 fQ2 (by omega)
  rw [eh4] at srcQ
  have ff:=fit_fill fQ2 Z lZ
  have row4:RowF (fun j=>hB.next≤j) hB.next 2 OutC h4 (ops.take i) a c ez:=row.mono z4o (by omega) (fun j hj hn=>by rw [k4.2 _ (by omega),k13 _ hn]) (fun q' o' eq=>by
    have:=row.lt eq
    rw [k4.2 _ (by omega),k13 _ (by omega)])
  have ic4:OutC (fun j=>hB.next≤j∧a≠some (j,0)) h4 o Q2:=z4o.mono ic3 (by omega) (fun j _ hn=>k4.2 _ hn) (fun j hj _=>⟨by omega,fun eq=>by have:=row.lt eq; omega⟩)
  obtain ⟨h5,ap,row5,n5,f5⟩:=rowF_app z4o (by omega) 32 (by omega) (fun j=>hB.next≤j) hB.next h4 (by omega) (ops.take i) (by omega) a c ez row4 o Q2 ic4
  rw [li] at ap
  have aw:a≠some (w,0):=fun eq=>by have:=row.lt eq; omega
  have g5w:h5.get w=some (.cells [u,s1,.slice a i c ez,v] .rw):=by rw [f5 _ (by omega) aw,k4.2 _ (by omega),g3w]
  have cc:decide ((i:Int)<(ops.length:Int))=true:=decide_eq_true (by omega)
  have wi:wr .i64 ((i:Int)+1)=((i+1:Nat):Int):=by rw [z1u (by omega)]; omega
  have ix:idx (i:Int) ops.length=some i:=idxn hi
  obtain ⟨h6,eh6⟩:∃ h6,h5.put w (.cells [u,s1,.slice (some (h4.next,0)) (i+1) none 2,v] .rw)=h6:=⟨_,rfl⟩
  have n6:h6.next=h5.next:=by rw [← eh6]; rfl
  have g6:h6.get w=some (.cells [u,s1,.slice (some (h4.next,0)) (i+1) none 2,v] .rw):=by rw [← eh6]; exact z1f _ _ _
  have f6:∀ j,j≠w→h6.get j=h5.get j:=fun j hj=>by rw [← eh6,z1o _ _ (Ne.symm hj)]
  have et:ops.take (i+1)=ops.take i++[o]:=by rw [List.take_add_one,ho]; rfl
  have row6:RowF (fun j=>hB.next≤j) hB.next 2 OutC h6 (ops.take (i+1)) (some (h4.next,0)) none 2:=by
    rw [et]
    exact row5.mono z4o (by omega) (fun j hj _=>f6 j (by omega)) (fun q' o' eq=>by cases eq; exact f6 _ (by omega))
  have stw:∀ h i' o',storeV h 1 (.ptr (some (i',o'))) (.slice (some (h4.next,0)) (i+1) none 2)=storeE (h.get i') h i' o' [.slice (some (h4.next,0)) (i+1) none 2]:=fun h i' o'=>z3s h 1 i' o' _ rfl
  have fr6:∀ j,j<hB.next→j≠w→h6.get j=hB.get j:=fun j hj1 hj2=>by
    rw [f6 _ hj2,f5 _ (by omega) (fun eq=>by have:=row.lt eq; omega),k4.2 _ (by omega),k13 _ (by omega),fr j hj1 hj2]
  clear eo ho et
  generalize ops.length=n at *
  generalize o.l.length=ol at *
  refine ⟨_,h6,by
    simp (config:={maxSteps:=2000000}) (disch:=first | omega | (simp only [List.length_cons,List.length_nil,List.length_append,List.length_drop]; omega)) only [L_purserref06_Copy_1,eZ,t1,t3,ti,gp',hP,cc,ix,gq',ld,stQ,puQ,eh1,g1,Q33,r2,g2,st,se,eh3,g3,g3w,ldQ2,ff,eh4,srcQ,ap,g5w,stw,eh6,wi,↓z2n,↓z1q,z18,↓zn,z14,Nat.zero_add,↓z19,↓z1e,z1c,↓zj,zj,↓m_st,z2p,z1v,z2q,z7w,↓z2d,↓z2g,z23,z21,z18,↓z1q,↓z2s,z2v,↓x_P0,↓x_P1,List.length_cons,List.length_nil,List.cons_append,List.drop_succ_cons,List.drop_zero,List.nil_append,↓z1p,↓zw,↓zy,↓z10,↓z15,↓zu,↓s_op,↓zf,zf,↓zd,zd,zk,↓zg,zg,zt,↓zb,↓zm,↓z17,↓z24,↓z26,↓z12,↓z1h,↓z1z,zp,z1y,z2z,↓za,↓z9,za,z9,Nat.zero_add,List.nil_append,Nat.reduceEqDiff,decide_true,decide_false,List.getElem?_cons_zero,List.getElem?_cons_succ]
    exact rfl,⟨(by (simp only [zb,zm,Nat.reduceEqDiff,decide_false,z9,t1]; try rfl)),(by (simp only [zb,zm,Nat.reduceEqDiff,decide_false,z9,t2]; try rfl)),(by (simp only [zb,zm,Nat.reduceEqDiff,decide_false,z9,t3]; try rfl)),(by (simp only [zb,decide_true,za]; try rfl)),⟨_,_,_,g6,row6⟩,by omega,fr6⟩⟩
theorem RowF.weak {α:Type} {K K':Nat→Prop} {lo lo' sz:Nat} {A:(Nat→Prop)→H→α→List V→Prop} (it:ItA sz A) {h:H} {ops:List α} {a:Option (Nat × Nat)} {c:Option Nat} {e:Nat} (r:RowF K lo sz A h ops a c e) (hl:lo'≤lo) (k:∀ j,K j→K' j):RowF K' lo' sz A h ops a c e:=by
  rcases r with r | ⟨h1,q,md,ps,e1,e2,e3,g,al,hm,hl',hq⟩
  · exact .inl r
  · exact .inr ⟨h1,q,md,ps,e1,e2,e3,g,al.imp (fun _ _ x=>it.mono x (Nat.le_refl _) (fun i _ _=>rfl) (fun _ hk _=>⟨k _ hk.1,hk.2⟩)),hm,by omega,hq⟩
set_option maxHeartbeats 100000000 in
theorem dcopy_go (e:E k_purserref06_Copy=some f_purserref06_Copy) (x:∀ a h,X (.fn k_purserref06_Copy) a h=none) (et:E k_purserref01_Twin=some f_purserref01_Twin) (xt:∀ a h,X (.fn k_purserref01_Twin) a h=none) (N:Nat) (hN:1000<N) (t:TxQ) (g:gtOk t) (P:List V) (h:H) (tc:TxC (fun j=>j<h.next) h t P) :
    ∃ h' a b ca cb ea eb,callX E X (N+2) (.fn k_purserref06_Copy) [.agg P] h=some (.agg (txV t a b ca cb ea eb),h')∧Kp h h'∧RowF (fun j=>h.next≤j) h.next 35 InC h' t.ins a ca ea∧RowF (fun j=>h.next≤j) h.next 2 OutC h' t.outs b cb eb:=by
  rw [z2c e _ _ (Nat.le_of_ble_eq_true rfl) (x _ _)]
  rw [show ([.int .u32 0,.slice none 0 (some 0) 0,.slice none 0 (some 0) 0,.int .u32 0]:List V)=Z4 from rfl]
  have ca':∀ l:List V,(V.agg l).cells=l:=fun _=>rfl
  obtain ⟨hA,ehA⟩:∃ hA,(h.new (.cells P .rw)).new (.cells Z4 .rw)=hA:=⟨_,rfl⟩
  have kA:Kp h hA:=by rw [← ehA]; (repeat (first | exact Kp.refl _ | refine Kp.put ?_ _ (by first | omega | (simp only [zr,zh,zq]; omega)) | refine Kp.del ?_ (by first | omega | (simp only [zr,zh,zq]; omega)) | refine Kp.trans ?_ (Kp.new _ _)))
  have nA:hA.next=h.next+2:=by rw [← ehA]; rfl
  have gA0:hA.get h.next=some (.cells P .rw):=by rw [← ehA]; (simp (disch:=omega) only [z19,zh,Nat.add_eq_left,decide_true,decide_false,za,z9,reduceCtorEq,]; try rfl)
  have gAz:hA.get (h.next+1)=some (.cells Z4 .rw):=by rw [← ehA]; (simp (disch:=omega) only [z19,zh,decide_true,za,]; try rfl)
  obtain ⟨W0,eW0⟩:∃ W0:List V,[.int .u32 (t.ver:Int),.slice none 0 (some 0) 0,.slice none 0 (some 0) 0,.int .u32 (t.lock:Int)]=W0:=⟨_,rfl⟩
  have fW0:Fit 4 W0:=by rw [← eW0]; exact ⟨rfl,rfl⟩
  have fl:fillV Z4 [(0,1,.int .u32 (t.ver:Int)),(3,1,.int .u32 (t.lock:Int))]=some W0:=by rw [← eW0]; rfl
  have gz:(hA.new (.cells Z4 .rw)).get hA.next=some (.cells Z4 .rw):=z1g _ _
  have stW:=fun h i=>z4u fW0 h i
  have puW:=fun h i=>z3w fW0 h i Z4 rfl
  obtain ⟨hB,ehB⟩:∃ hB,(hA.new (.cells Z4 .rw)).put hA.next (.cells W0 .rw)=hB:=⟨_,rfl⟩
  have kB:Kp hA hB:=by rw [← ehB]; (repeat (first | exact Kp.refl _ | refine Kp.put ?_ _ (by first | omega | (simp only [zr,zh,zq]; omega)) | refine Kp.del ?_ (by first | omega | (simp only [zr,zh,zq]; omega)) | refine Kp.trans ?_ (Kp.new _ _)))
  have nB:hB.next=hA.next+1:=by rw [← ehB]; rfl
  obtain ⟨w,ew⟩:∃ w,hA.next=w:=⟨_,rfl⟩
  have gBw:hB.get w=some (.cells [.int .u32 (t.ver:Int),.slice none 0 (some 0) 0,.slice none 0 (some 0) 0,.int .u32 (t.lock:Int)] .rw):=by rw [eW0,← ehB,← ew]; exact z1f _ _ _
  have gB0:hB.get h.next=some (.cells P .rw):=by rw [kB.2 _ (by omega),gA0]
  have gBz:hB.get (h.next+1)=some (.cells Z4 .rw):=by rw [kB.2 _ (by omega),gAz]
  have tB:TxC (fun j=>j<hB.next∧j≠w) hB t P:=itTx.mono tc (by have:=kA.1; omega) (fun j _ hj=>by rw [kB.2 _ (by omega),kA.2 _ hj]) (fun j hj _=>by refine ⟨?_,?_⟩ <;> omega)
  obtain ⟨a,b,ca,cb,ea,eb,eP,ra,rb⟩:=tB
  obtain ⟨gi,go_,si,so⟩:=g
  have p0:P[0]?=some (.int .u32 (t.ver:Int)):=by rw [eP]; rfl
  have p3:P[3]?=some (.int .u32 (t.lock:Int)):=by rw [eP]; rfl
  have p1:P[1]?=some (.slice a t.ins.length ca ea):=by rw [eP]; rfl
  have p2:P[2]?=some (.slice b t.outs.length cb eb):=by rw [eP]; rfl
  obtain ⟨vv,evv⟩:∃ v:V,.int .u32 (t.ver:Int)=v:=⟨_,rfl⟩
  obtain ⟨vl,evl⟩:∃ v:V,.int .u32 (t.lock:Int)=v:=⟨_,rfl⟩
  obtain ⟨nl,enl⟩:∃ v:V,.slice none 0 (some 0) 0=v:=⟨_,rfl⟩
  have fin:∀ T,DcInI h.next w (h.next+1) (.int .u32 (t.ver:Int)) (.slice none 0 (some 0) 0) (.int .u32 (t.lock:Int)) t.ins hB 0 T hB→∃ h' a b ca cb ea eb,fnEnd [.cell 2 (some 4)] (bindE (blockE 0 (loopN (evC (callX E X (N+1)) 58 (N+1) none L_purserref06_Copy_0) (N+1) ⟨T,[],hB⟩)) (evC (callX E X (N+1)) 58 (N+1) none R_purserref06_Copy_1))=some (.agg (txV t a b ca cb ea eb),h')∧Kp h h'∧RowF (fun j=>h.next≤j) h.next 35 InC h' t.ins a ca ea∧RowF (fun j=>h.next≤j) h.next 2 OutC h' t.outs b cb eb:=by
    intro T I
    obtain ⟨T5,h5,rr,J⟩:=z22 (f:=evC (callX E X (N+1)) 58 (N+1) none L_purserref06_Copy_0) (DcInI h.next w (h.next+1) (.int .u32 (t.ver:Int)) (.slice none 0 (some 0) 0) (.int .u32 (t.lock:Int)) t.ins hB) t.ins.length (.exit 0) (by intro h; cases h) (DcInI h.next w (h.next+1) (.int .u32 (t.ver:Int)) (.slice none 0 (some 0) 0) (.int .u32 (t.lock:Int)) t.ins hB t.ins.length) (fun i T h' hi I=>dcIn_round et xt N (N+1) h.next w (h.next+1) P _ _ _ t.ins (by omega) si a ca ea p1 hB gB0 (by omega) (by omega) (by omega) ra i hi T h' I) (fun T h' I=>by
      obtain ⟨t1,t2,t3,ti,row,nx,fr⟩:=I
      have gp:h'.get h.next=some (.cells P .rw):=by rw [fr _ (by omega) (by omega),gB0]
      have c0:decide ((t.ins.length:Int)<(t.ins.length:Int))=false:=decide_eq_false (by omega)
      obtain ⟨n,en⟩:∃ n,t.ins.length=n:=⟨_,rfl⟩
      rw [en] at ti c0 row p1 ⊢
      exact ⟨_,h',by
        simp (config:={maxSteps:=2000000}) (disch:=first | omega | (simp only [List.length_cons,List.length_nil,List.length_append,List.length_drop]; omega)) only [L_purserref06_Copy_0,t1,ti,gp,p1,c0,↓z1q,z18,↓zn,z14,Nat.zero_add,↓z1e,z1c,↓zj,zj,z18,↓z1q,↓zw,↓zy,↓z10,↓z2b,↓zu,↓s_op,↓zf,zf,↓zd,zd,z16,zk,↓zg,zg,↓zb,↓z12,↓z1h,zp,z1y,↓za,↓z9,za,z9,Nat.zero_add,Nat.reduceEqDiff,decide_true,decide_false]
        exact rfl,⟨(by (simp only [zb,Nat.reduceEqDiff,decide_false,z9,t1]; try rfl)),(by (simp only [zb,Nat.reduceEqDiff,decide_false,z9,t2]; try rfl)),(by (simp only [zb,Nat.reduceEqDiff,decide_false,z9,t3]; try rfl)),(by (simp only [zb,Nat.reduceEqDiff,decide_false,z9,ti]; try rfl)),row,nx,fr⟩⟩) t.ins.length 0 (by omega) (N+1) (by omega) T hB I
    rw [rr]
    obtain ⟨t1,t2,t3,ti,⟨a1,c1,e1,g5,row5⟩,nx5,fr5⟩:=J
    rw [List.take_length] at row5
    have g50:h5.get h.next=some (.cells P .rw):=by rw [fr5 _ (by omega) (by omega),gB0]
    have rb5:RowG (fun j=>j<h5.next∧j≠w) 2 OutC h5 t.outs b eb:=rb.mono2 z4o nx5 (fun j hj hn=>fr5 j hj.1 hj.2) (fun j hj _=>by refine ⟨?_,hj.2⟩; have:=hj.1; omega)
    have fin1:∀ T,DcOutI h.next w (h.next+1) (.int .u32 (t.ver:Int)) (.slice a1 t.ins.length c1 e1) (.int .u32 (t.lock:Int)) t.outs h5 0 T h5→∃ h' a b ca cb ea eb,fnEnd [.cell 2 (some 4)] (bindE (blockE 2 (loopN (evC (callX E X (N+1)) 58 (N+1) none L_purserref06_Copy_1) (N+1) ⟨T,[],h5⟩)) (evC (callX E X (N+1)) 58 (N+1) none R_purserref06_Copy_0))=some (.agg (txV t a b ca cb ea eb),h')∧Kp h h'∧RowF (fun j=>h.next≤j) h.next 35 InC h' t.ins a ca ea∧RowF (fun j=>h.next≤j) h.next 2 OutC h' t.outs b cb eb:=by
      intro T I
      obtain ⟨T6,h6,rr,J⟩:=z22 (f:=evC (callX E X (N+1)) 58 (N+1) none L_purserref06_Copy_1) (DcOutI h.next w (h.next+1) (.int .u32 (t.ver:Int)) (.slice a1 t.ins.length c1 e1) (.int .u32 (t.lock:Int)) t.outs h5) t.outs.length (.exit 2) (by intro h; cases h) (DcOutI h.next w (h.next+1) (.int .u32 (t.ver:Int)) (.slice a1 t.ins.length c1 e1) (.int .u32 (t.lock:Int)) t.outs h5 t.outs.length) (fun i T h' hi I=>dcOut_round et xt N (N+1) h.next w (h.next+1) P _ _ _ t.outs (by omega) so b cb eb p2 h5 g50 (by omega) (by omega) (by omega) rb5 i hi T h' I) (fun T h' I=>by
        obtain ⟨t1,t2,t3,ti,row,nx,fr⟩:=I
        have gp:h'.get h.next=some (.cells P .rw):=by rw [fr _ (by omega) (by omega),g50]
        have c0:decide ((t.outs.length:Int)<(t.outs.length:Int))=false:=decide_eq_false (by omega)
        obtain ⟨n,en⟩:∃ n,t.outs.length=n:=⟨_,rfl⟩
        rw [en] at ti c0 row p2 ⊢
        exact ⟨_,h',by
          simp (config:={maxSteps:=2000000}) (disch:=first | omega | (simp only [List.length_cons,List.length_nil,List.length_append,List.length_drop]; omega)) only [L_purserref06_Copy_1,t1,ti,gp,p2,c0,↓z1q,z18,↓zn,z14,Nat.zero_add,↓z1e,z1c,↓zj,zj,z18,↓z1q,↓zw,↓zy,↓z10,↓z2b,↓zu,↓s_op,↓zf,zf,↓zd,zd,z16,zk,↓zg,zg,↓zb,↓z12,↓z1h,zp,z1y,↓za,↓z9,za,z9,Nat.zero_add,Nat.reduceEqDiff,decide_true,decide_false]
          exact rfl,⟨(by (simp only [zb,Nat.reduceEqDiff,decide_false,z9,t1]; try rfl)),(by (simp only [zb,Nat.reduceEqDiff,decide_false,z9,t2]; try rfl)),(by (simp only [zb,Nat.reduceEqDiff,decide_false,z9,t3]; try rfl)),(by (simp only [zb,Nat.reduceEqDiff,decide_false,z9,ti]; try rfl)),row,nx,fr⟩⟩) t.outs.length 0 (by omega) (N+1) (by omega) T h5 I
      rw [rr]
      obtain ⟨t1,t2,t3,_,⟨a2,c2,e2,g6,row6⟩,nx6,fr6⟩:=J
      rw [List.take_length] at row6
      have g6':h6.get w=some (.cells (txV t a1 a2 c1 c2 e1 e2) .rw):=g6
      have fV:Fit 4 (txV t a1 a2 c1 c2 e1 e2):=⟨rfl,rfl⟩
      have st:=fun h i=>z4u fV h i
      have pu:=fun h i=>z3w fV h i Z4 rfl
      have ld:=fun m=>z3u fV m
      have gz6:h6.get (h.next+1)=some (.cells Z4 .rw):=by rw [fr6 _ (by omega) (by omega),fr5 _ (by omega) (by omega),gBz]
      obtain ⟨V2,eV2⟩:∃ V2,txV t a1 a2 c1 c2 e1 e2=V2:=⟨_,rfl⟩
      rw [eV2] at g6' st pu ld
      obtain ⟨h7,eh7⟩:∃ h7,h6.put (h.next+1) (.cells V2 .rw)=h7:=⟨_,rfl⟩
      have n7:h7.next=h6.next:=by rw [← eh7]; rfl
      have f7:∀ j,j≠h.next+1→h7.get j=h6.get j:=fun j hj=>by rw [← eh7,z1o _ _ (Ne.symm hj)]
      have g7:h7.get (h.next+1)=some (.cells V2 .rw):=by rw [← eh7]; exact z1f _ _ _
      refine ⟨h7,a1,a2,c1,c2,e1,e2,?_,⟨by omega,fun j hj=>by rw [f7 _ (by omega),fr6 _ (by omega) (by omega),fr5 _ (by omega) (by omega),kB.2 _ (by omega),kA.2 _ hj]⟩,?_,?_⟩
      · rw [eV2]
        generalize Z4=z4 at *
        simp (config:={maxSteps:=2000000}) (disch:=first | omega | (simp only [List.length_cons,List.length_nil,List.length_append,List.length_drop]; omega)) only [R_purserref06_Copy_0,t2,t3,g6',ld,gz6,st,pu,eh7,g7,↓z1e,z1c,↓m_st,z2p,z49,z3d,zo,↓zw,↓zy,↓z1t,↓zu,↓s_op,↓zf,zf,↓zd,zd,zk,z1b,↓zb,↓zm,zp,z1x,zo,z1n,↓za,↓z9,za,z9,Nat.reduceEqDiff,decide_true,decide_false,if_true]
        try rfl
      · exact (row5.mono itIn (by omega) (fun j hj hn=>by
          have:hB.next≤j:=hj
          rw [f7 _ (by omega),fr6 _ hn (by omega)]) (fun q o eq=>by
          have:=row5.lt eq
          rw [f7 _ (by omega),fr6 _ (by omega) (by omega)])).weak itIn (by omega) (fun j hj=>by have:hB.next≤j:=hj; show h.next≤j; omega)
      · exact (row6.mono z4o (by omega) (fun j hj hn=>by
          have:h5.next≤j:=hj
          rw [f7 _ (by omega)]) (fun q o eq=>by
          have:=row6.lt eq
          rw [f7 _ (by omega)])).weak z4o (by omega) (fun j hj=>by have:h5.next≤j:=hj; show h.next≤j; omega)
    obtain ⟨R,eR⟩:∃ R,R_purserref06_Copy_0=R:=⟨_,rfl⟩
    obtain ⟨Lo,eL⟩:∃ R,L_purserref06_Copy_1=R:=⟨_,rfl⟩
    rw [eR,eL] at fin1
    have fin1':=fun T q1 q2 q3 qi=>fin1 T ⟨q1,q2,q3,qi,⟨none,some 0,0,g5,by rw [List.take_zero]; exact RowF.nil _ _ _ _ _⟩,Nat.le_refl _,fun _ _ _=>rfl⟩
    clear fin1
    simp (config:={maxSteps:=2000000}) (disch:=first | omega | (simp only [List.length_cons,List.length_nil,List.length_append,List.length_drop]; omega)) only [R_purserref06_Copy_1,eR,eL,↓z2k,↓z2e,↓zw,↓zy,↓z15,↓zu,↓s_op,↓zf,zf,↓zd,zd,zk,z1b,↓z17,↓z12,if_true]
    exact fin1' _ (by (simp only [zb,Nat.reduceEqDiff,decide_false,z9,t1]; try rfl)) (by (simp only [zb,Nat.reduceEqDiff,decide_false,z9,t2]; try rfl)) (by (simp only [zb,Nat.reduceEqDiff,decide_false,z9,t3]; try rfl)) (by (simp only [zb,decide_true,za]; try rfl))
  obtain ⟨R,eR⟩:∃ R,R_purserref06_Copy_1=R:=⟨_,rfl⟩
  obtain ⟨Lo,eL⟩:∃ R,L_purserref06_Copy_0=R:=⟨_,rfl⟩
  rw [eR,eL] at fin ⊢
  have fin':=fun T q1 q2 q3 qi=>fin T ⟨q1,q2,q3,qi,⟨none,some 0,0,gBw,by rw [List.take_zero]; exact RowF.nil _ _ _ _ _⟩,Nat.le_refl _,fun _ _ _=>rfl⟩
  clear fin
  rw [ew] at ehB gz
  generalize Z4=z4 at *
  simp (config:={maxSteps:=2000000}) (disch:=first | omega | (simp only [List.length_cons,List.length_nil,List.length_append,List.length_drop]; omega)) only [ca',ehA,gA0,p0,p3,fl,stW,puW,ehB,ew,↓z54,z71,↓z2x,↓zn,z14,Nat.zero_add,Nat.add_zero,↓z2k,↓z2e,↓z19,zh,↓z1e,z1c,↓zj,zj,↓m_st,z2p,↓z2d,↓x_P0,↓x_P1,↓zw,↓zy,↓z15,↓zu,↓s_op,↓zf,zf,↓zd,zd,zk,↓zb,↓z1s,↓z17,↓z11,↓z13,↓z12,zp,↓za,↓z9,za,z9,Nat.zero_add,Nat.reduceEqDiff,decide_true,decide_false]
  exact fin' _ (by (simp only [zb,zm,Nat.reduceEqDiff,decide_false,decide_true,z9,za]; try rfl)) (by (simp only [zb,zm,Nat.reduceEqDiff,decide_false,decide_true,z9,za]; try rfl)) (by (simp only [zb,zm,Nat.reduceEqDiff,decide_false,decide_true,z9,za]; try rfl)) (by (simp only [zb,decide_true,za]; try rfl))
end Go.Eng
