/- What functions of the program come to: own work. -/
import Derived.Test.YtnhjmgkmjgfiiaaSsB
namespace Go.Eng
open Go
variable {E:Nat→Option Fn} {X:Orc}
set_option linter.unusedSimpArgs false
set_option linter.unusedVariables false
/-! records -/
structure Rq where
  kind:Int
  l:List Nat
instance:DecidableEq Rq:=fun a b => if h:a.kind=b.kind∧a.l=b.l then .isTrue (by cases a; cases b; simp_all) else .isFalse (fun e => h (by rw [e]; exact ⟨rfl,rfl⟩))
structure Rq.ok (o:Rq):Prop where
  k0:-9223372036854775808≤o.kind
  k1:o.kind < 9223372036854775808
  bl:byt o.l=true
def RqAt (h:H) (o:Rq) (p:List V):Prop:=∃ a,p=[.int .i64 o.kind,.slice a o.l.length none 1]∧SrcH h a 1 o.l
/-- a row of records,as an argument -/
def RqsH (h:H) (a:Option (Nat × Nat)) (ops:List Rq):Prop:=∃ parts,Al2 (RqAt h) ops parts∧(ops=[]∨∃ k md,a=some (k,0)∧k < h.next∧h.get k=some (.cells parts.flatten md))
def RqsR (ops:List Rq) (h:H) (vs:List V):Prop:=∃ a,vs=[.slice a ops.length none 2]∧RqsH h a ops
theorem xs2 {α:Type} {xs:List α} (h:xs.length=2):∃ a b,xs=[a,b]:=by
  match xs,h with
  | [a,b],_ => exact ⟨a,b,rfl⟩
/-- may a record be -/
def rqOk (o:Rq):Bool:=decide (0≤o.kind) && decide (o.kind≤255) && decide (o.l.length≤200000)
/-- what a mark makes of bytes -/
def mkB4 (l:List Nat):List Nat:=l++leN 4 (onV 0 l)
/-- a record's bytes -/
def rqB (o:Rq):List Nat:=mkB4 (o.kind.toNat :: leN 4 o.l.length)++mkB4 o.l
theorem mkB4_len (l:List Nat):(mkB4 l).length=l.length+4:=by unfold mkB4; rw [List.length_append,leN_len]
theorem rqB_len (o:Rq):(rqB o).length=13+o.l.length:=by
  unfold rqB; rw [List.length_append,mkB4_len,mkB4_len,List.length_cons,leN_len]; omega
section
variable {Hh:Type} {enc:TypeId × Value→Hh} {P:Program} {W:World} {spare:Nat→Bool} {held:Bool} {base:Nat}
end
end Go.Eng
namespace Go.Eng
open Go
set_option linter.unusedSimpArgs false
set_option linter.unusedVariables false
theorem bar_mk (l:List Nat) (ho:onV 0 l < 4294967296):barE (mkB4 l)=0∧barB (mkB4 l)=l:=by
  have ll:=mkB4_len l
  have e1:(mkB4 l).take ((mkB4 l).length - 4)=l:=by rw [ll,Nat.add_sub_cancel]; unfold mkB4; exact List.take_left' rfl
  have e2:(mkB4 l).drop ((mkB4 l).length - 4)=leN 4 (onV 0 l):=by rw [ll,Nat.add_sub_cancel]; unfold mkB4; exact List.drop_left' rfl
  have e0:barE (mkB4 l)=0:=by
    unfold barE
    rw [if_neg (by omega),e1,e2,numV_leN 4 _ (by exact ho),if_pos rfl]
  exact ⟨e0,by unfold barB; rw [if_pos e0,e1]⟩
theorem bar_of (m:List Nat) (bm:byt m=true) (h:barE m=0):4≤m.length∧m=mkB4 (m.take (m.length - 4)):=by
  unfold barE at h
  by_cases h4:m.length < 4
  · rw [if_pos h4] at h; cases h
  · rw [if_neg h4] at h
    by_cases he:onV 0 (m.take (m.length - 4))=numV (m.drop (m.length - 4))
    · refine ⟨by omega,?_⟩
      unfold mkB4
      rw [he,leN_numV' _ (byt_drop bm _) 4 (by rw [List.length_drop]; omega),List.take_append_drop]
    · rw [if_neg he] at h; cases h
/-- the record that stands ahead -/
def dcV (b:List Nat):Option (Rq × Nat) :=
  if b.length < 13 then none else if barE (b.take 9)≠0 then none else
  if 200000 < numV ((b.drop 1).take 4) then none else if b.length < 13+numV ((b.drop 1).take 4) then none else
  if barE ((b.drop 9).take (numV ((b.drop 1).take 4)+4))≠0 then none else
  some (⟨(b.getD 0 0:Nat),(b.drop 9).take (numV ((b.drop 1).take 4))⟩,13+numV ((b.drop 1).take 4))
theorem dc_ok (o:Rq) (ho:rqOk o=true) (hl:∀ l,onV 0 l < 4294967296) (r:List Nat):dcV (rqB o++r)=some (o,(rqB o).length):=by
  unfold rqOk at ho
  simp only [Bool.and_eq_true,decide_eq_true_eq] at ho
  obtain ⟨⟨h1,h2⟩,h3⟩:=ho
  obtain ⟨hd,ehd⟩:∃ x,o.kind.toNat :: leN 4 o.l.length=x:=⟨_,rfl⟩
  have lhd:hd.length=5:=by rw [← ehd,List.length_cons,leN_len]
  have eb:rqB o++r=mkB4 hd++(mkB4 o.l++r):=by unfold rqB; rw [ehd,List.append_assoc]
  have l9:(mkB4 hd).length=9:=by rw [mkB4_len,lhd]
  have lb:(rqB o++r).length=13+o.l.length+r.length:=by rw [List.length_append,rqB_len]
  have t9:(rqB o++r).take 9=mkB4 hd:=by rw [eb]; exact List.take_left' l9
  have d9:(rqB o++r).drop 9=mkB4 o.l++r:=by rw [eb]; exact List.drop_left' l9
  have n4:((rqB o++r).drop 1).take 4=leN 4 o.l.length:=by
    rw [eb]
    unfold mkB4
    rw [← ehd]
    show (((leN 4 o.l.length++leN 4 _)++_).take 4)=_
    rw [List.append_assoc]
    exact List.take_left' (leN_len _ _)
  have nv:numV (leN 4 o.l.length)=o.l.length:=numV_leN 4 _ (by show o.l.length < 4294967296; omega)
  have g0:(rqB o++r).getD 0 0=o.kind.toNat:=by rw [eb]; unfold mkB4; rw [← ehd]; rfl
  unfold dcV
  rw [n4,nv,t9,d9,g0,if_neg (by omega),if_neg (by rw [(bar_mk hd (hl _)).1]; simp),if_neg (by omega),if_neg (by omega),List.take_left' (mkB4_len _),if_neg (by rw [(bar_mk o.l (hl _)).1]; simp)]
  have tk:(mkB4 o.l++r).take o.l.length=o.l:=by unfold mkB4; rw [List.append_assoc]; exact List.take_left' rfl
  rw [tk,rqB_len,Int.toNat_of_nonneg h1]
theorem dc_of (b:List Nat) (bb:byt b=true) (o:Rq) (k:Nat) (h:dcV b=some (o,k)):rqOk o=true∧o.ok∧b.take k=rqB o∧k=13+o.l.length∧k≤b.length:=by
  unfold dcV at h
  by_cases c1:b.length < 13
  · rw [if_pos c1] at h; cases h
  rw [if_neg c1] at h
  by_cases c2:barE (b.take 9)≠0
  · rw [if_pos c2] at h; cases h
  rw [if_neg c2] at h
  obtain ⟨n,en⟩:∃ n,numV ((b.drop 1).take 4)=n:=⟨_,rfl⟩
  rw [en] at h
  by_cases c3:200000 < n
  · rw [if_pos c3] at h; cases h
  rw [if_neg c3] at h
  by_cases c4:b.length < 13+n
  · rw [if_pos c4] at h; cases h
  rw [if_neg c4] at h
  by_cases c5:barE ((b.drop 9).take (n+4))≠0
  · rw [if_pos c5] at h; cases h
  rw [if_neg c5] at h
  cases h
  have g0:b.getD 0 0 < 256:=by
    rw [List.getD_eq_getElem?_getD]
    cases hh:b[0]? with
    | none => decide
    | some x => exact byt_iff.1 bb x (List.mem_of_getElem? hh)
  have ll:((b.drop 9).take n).length=n:=by rw [List.length_take,List.length_drop]; omega
  obtain ⟨_,e9⟩:=bar_of (b.take 9) (byt_take bb _) (Classical.not_not.1 c2)
  obtain ⟨_,eN⟩:=bar_of ((b.drop 9).take (n+4)) (byt_take (byt_drop bb _) _) (Classical.not_not.1 c5)
  have l9:(b.take 9).length=9:=by rw [List.length_take]; omega
  have lN:((b.drop 9).take (n+4)).length=n+4:=by rw [List.length_take,List.length_drop]; omega
  rw [l9,List.take_take] at e9
  rw [lN,Nat.add_sub_cancel,List.take_take,Nat.min_eq_left (by omega)] at eN
  have e5:b.take 5=b.getD 0 0 :: leN 4 n:=by
    match b,c1 with
    | x :: r,c1 =>
      show x :: r.take 4=x :: _
      rw [← en]
      show _=x :: leN 4 (numV (r.take 4))
      rw [leN_numV' (r.take 4) (byt_take (byt_tail bb) _) 4 (by rw [List.length_take]; simp at c1; omega)]
    | [],c1 => exact absurd (show ([]:List Nat).length < 13 by simp) c1
  refine ⟨?_,⟨by show (-9223372036854775808:Int)≤((b.getD 0 0:Nat):Int); omega,by show ((b.getD 0 0:Nat):Int) < _; omega,byt_take (byt_drop bb _) _⟩,?_,by rw [ll],by omega⟩
  · unfold rqOk
    simp only [Bool.and_eq_true,decide_eq_true_eq]
    exact ⟨⟨by omega,by omega⟩,by rw [ll]; omega⟩
  · rw [show 13+n=9+(n+4) by omega,List.take_add,eN,e9]
    unfold rqB
    simp only
    rw [ll,Int.toNat_natCast,← e5]
    rfl
end Go.Eng
namespace Go.Eng
open Go
variable {E:Nat→Option Fn} {X:Orc}
set_option linter.unusedSimpArgs false
set_option linter.unusedVariables false
end Go.Eng
namespace Go.Eng
open Go
variable {E:Nat→Option Fn} {X:Orc}
set_option linter.unusedSimpArgs false
set_option linter.unusedVariables false
def rhOk (b:List Nat):Bool:=decide (9≤b.length) && decide (barE (b.take 9)=0)
def rhK (b:List Nat):Nat:=if rhOk b=true then b.getD 0 0 else 0
def rhN (b:List Nat):Nat:=if rhOk b=true then numV ((b.drop 1).take 4) else 0
def rhV (b:List Nat):Bool:=rhOk b && decide (numV ((b.drop 1).take 4)≤200000)
theorem readHead_go (ef:E k_record_readHead=some f_record_readHead) (e:EnCm E) (x:NoCm X) (xh:∀ a h,X (.fn k_record_readHead) a h=none) (M:Nat) (hM:250100 < M) (b:List Nat) (bb:byt b=true) (hb:b.length≤1000000) (a:Option (Nat × Nat)) (c:Option Nat) (hc:b≠[]→c=none) (ez:Nat) (h:H) (src:SrcH h a ez b) :
    ∃ h',callX E X (M+21) (.fn k_record_readHead) [.slice a b.length c ez] h=some (.tup [.int .i64 (rhK b:Nat),.int .i64 (rhN b:Nat),.bool (rhV b)],h')∧Kp h h':=by
  rw [x_cfn ef _ _ (Nat.le_of_ble_eq_true rfl) (xh _ _)]
  unfold rhK rhN rhV
  by_cases c1:b.length < 9
  · have d1:decide ((b.length:Int) < 9)=true:=decide_eq_true (by omega)
    have r0:rhOk b=false:=by unfold rhOk; rw [decide_eq_false (by omega),Bool.false_and]
    refine ⟨h,?_,Kp.refl _⟩
    rw [r0,if_neg (by simp),if_neg (by simp),Bool.false_and]
    generalize b.length=n at *
    simp (config:={maxSteps:=2000000}) (disch:=first | omega | (simp only [List.length_cons,List.length_nil,List.length_append,List.length_drop]; omega)) only [d1,↓s_len,x_lenS,x_lenS,↓s_len,Int.cast_ofNat_Int,s_res0,↓s_ops,↓s_seq,↓s_cond,↓s_ret,↓s_nil,↓s_op,↓s_bindS,s_bindS,↓s_bindE,s_bindE,s_bindE_ret,s_norm,↓s_condV,s_condV,↓s_getp,↓s_get,↓s_con,↓s_list0,↓s_list1,↓s_mov,↓s_bin,s_same,b_lss,s_end,s_res0,s_res1,s_tup2,↓iteN_true,↓iteN_false,iteN_true,iteN_false,Nat.reduceEqDiff,decide_true,decide_false]
    try rfl
  · have hne:b≠[]:=fun h => by rw [h] at c1; simp at c1
    obtain rfl:=hc hne
    obtain rfl:ez=1:=by
      rcases src with s | ⟨_,_,_,_,_,f2,_⟩
      · exact absurd s hne
      · exact f2
    have d1:decide ((b.length:Int) < 9)=false:=decide_eq_false (by omega)
    have sv:slcV 1 none (some (.int .i64 9)) none (.slice a b.length none 1)=some (.slice a 9 none 1):=slcV_hiA b.length 9 a .i64 (by omega)
    have l9:(b.take 9).length=9:=by rw [List.length_take]; omega
    obtain ⟨h1,a1,c1',e1,r1,nw1⟩:=cbare_go e x M (b.take 9) (byt_take bb _) (by omega) hM a h (src.take 9)
    rw [l9] at r1
    have r0:rhOk b=decide (barE (b.take 9)=0):=by unfold rhOk; rw [decide_eq_true (by omega),Bool.true_and]
    rw [r0]
    by_cases c2:barE (b.take 9)=0
    · rw [decide_eq_true c2,if_pos rfl,if_pos rfl,Bool.true_and]
      have eb:barB (b.take 9)=b.take 5:=by unfold barB; rw [if_pos c2,l9,List.take_take]; rfl
      rw [c2,eb] at r1
      rw [eb] at nw1
      have l5:(b.take 5).length=5:=by rw [List.length_take]; omega
      rw [l5] at r1
      have b5:byt (b.take 5)=true:=byt_take bb _
      obtain ⟨h2,p,ae,r2,k2,p2,y2,_⟩:=look_go e.lk x.lk (M+19) (b.take 5) (by omega) a1 c1' e1 h1 nw1.wb.src
      rw [l5] at r2
      obtain ⟨h3,r3,k3,y3⟩:=eyfix_go e.ey x.ey (M+8) p 1 (b.take 5) b5 (by omega) 0 ae h2 y2
      have g0:numV ((b.take 5).take 1)=b.getD 0 0:=by
        match b,hne with
        | y :: r,_ => show numV [y]=y; show 0 * 256+y=y; omega
      have f1:eyFix 1 (b.take 5) 0=(b.getD 0 0,0,1):=by
        unfold eyFix
        rw [if_pos (by rfl),if_pos (by show 0+1≤_; omega),List.drop_zero]
        show (numV ((b.take 5).take 1),0,0+1)=_
        rw [g0]
      rw [f1] at r3 y3
      simp only at r3 y3
      obtain ⟨h4,r4,k4,y4⟩:=eyfix_go e.ey x.ey (M+8) p 4 (b.take 5) b5 (by omega) 1 ae h3 y3
      have g4:((b.take 5).drop 1).take 4=(b.drop 1).take 4:=by
        rw [List.drop_take]
        rw [List.take_take]; rfl
      have f2:eyFix 4 (b.take 5) 1=(numV ((b.drop 1).take 4),0,5):=by
        unfold eyFix
        rw [if_pos (by rfl),if_pos (by show 1+4≤_; omega)]
        show (numV (((b.take 5).drop 1).take 4),0,1+4)=_
        rw [g4]
      rw [f2] at r4 y4
      simp only at r4 y4
      have lt4:numV ((b.drop 1).take 4) < 4294967296:=by
        have:=numV_lt ((b.drop 1).take 4) (byt_take (byt_drop bb _) _)
        have l4:((b.drop 1).take 4).length=4:=by rw [List.length_take,List.length_drop]; omega
        rw [l4] at this; exact this
      have lt0:b.getD 0 0 < 256:=by
        rw [List.getD_eq_getElem?_getD]
        cases hh:b[0]? with
        | none => decide
        | some x => exact byt_iff.1 bb x (List.mem_of_getElem? hh)
      obtain ⟨y,ey⟩:∃ y,b.getD 0 0=y:=⟨_,rfl⟩
      obtain ⟨n,en⟩:∃ y,numV ((b.drop 1).take 4)=y:=⟨_,rfl⟩
      rw [ey] at r3 lt0 ⊢
      rw [en] at r4 lt4 ⊢
      have w1:wr .i64 (y:Int)=(y:Int):=wr_i64 (by omega)
      have w2:wr .i64 (n:Int)=(n:Int):=wr_i64 (by omega)
      have z0:decide ((0:Int)=0)=true:=rfl
      have d3:decide ((n:Int)≤200000)=decide (n≤200000):=by rw [decide_eq_decide]; omega
      refine ⟨h4,?_,⟨by have:=nw1.kp.1; have:=k2.1; have:=k3.1; have:=k4.1; omega,fun j hj => ?_⟩⟩
      · generalize decide (n≤200000)=q at *
        generalize b.length=bl at *
        replace r1:callX E X (M+20) (.fn k_crc_Bare) [.slice a 9 none 1] h=some (.tup [.slice a1 5 c1' e1,.int .i64 0],h1):=r1
        replace r2:callX E X (M+20) (.fn k_octet_Look) [.slice a1 5 c1' e1] h1=some (.ptr (some (p,0)),h2):=r2
        replace r3:callX E X (M+20) (.fn k_octet_Eye_Fixed) [.ptr (some (p,0)),.int .i64 1] h2=some (.tup [.int .u64 (y:Int),.int .i64 0],h3):=r3
        replace r4:callX E X (M+20) (.fn k_octet_Eye_Fixed) [.ptr (some (p,0)),.int .i64 4] h3=some (.tup [.int .u64 (n:Int),.int .i64 0],h4):=r4
        simp (config:={maxSteps:=2000000}) (disch:=first | omega | (simp only [List.length_cons,List.length_nil,List.length_append,List.length_drop]; omega)) only [d1,sv,r1,r2,r3,r4,w1,w2,d3,Bool.not_true,↓x_slcS,x_M0,x_M1,↓s_len,x_lenS,↓x_conv,x_convV,x_lenS,↓s_len,s_res0,↓s_skip,↓s_ops,↓s_seq,↓s_cond,↓s_ret,↓s_nil,↓s_op,↓s_opg,↓s_wanted',↓s_wantV,s_wantV,↓s_bindS,s_bindS,↓s_bindE,s_bindE,s_norm,↓s_condV,s_condV,↓s_getp,↓s_get,↓s_con,↓s_os0,↓s_os1,↓s_list0,↓s_list1,↓s_mov,↓s_pick,↓s_pickE,s_pickE,↓s_bin,↓s_call,↓s_ext,s_same,b_eql,b_neq,b_lss,b_leq,s_end,s_res0,s_res1,s_tup2,↓iteN_true,↓iteN_false,iteN_true,iteN_false,Nat.reduceEqDiff,decide_true,decide_false,Bool.not_true,List.getElem?_cons_zero,List.getElem?_cons_succ,beq_self_eq_true]
        try rfl
      · have:=nw1.kp.1
        have:=k2.1
        have:=k3.1
        rw [k4.2 _ (by omega) (by omega),k3.2 _ (by omega) (by omega),k2.2 _ (by omega),nw1.kp.2 _ hj]
    · rw [decide_eq_false c2,if_neg (by simp),if_neg (by simp),Bool.false_and]
      have z0:decide (((barE (b.take 9):Nat):Int)=0)=false:=decide_eq_false (by omega)
      refine ⟨h1,?_,nw1.kp⟩
      generalize barE (b.take 9)=be at *
      generalize (barB (b.take 9)).length=bn at *
      generalize b.length=bl at *
      replace r1:callX E X (M+20) (.fn k_crc_Bare) [.slice a 9 none 1] h=some (.tup [.slice a1 bn c1' e1,.int .i64 (be:Int)],h1):=r1
      simp (config:={maxSteps:=2000000}) (disch:=first | omega | (simp only [List.length_cons,List.length_nil,List.length_append,List.length_drop]; omega)) only [d1,sv,r1,z0,Bool.not_false,↓x_slcS,x_M0,x_M1,↓s_len,x_lenS,x_lenS,↓s_len,Int.cast_ofNat_Int,s_res0,↓s_skip,↓s_ops,↓s_seq,↓s_cond,↓s_ret,↓s_nil,↓s_op,↓s_bindS,s_bindS,↓s_bindE,s_bindE,s_bindE_ret,s_norm,↓s_condV,s_condV,↓s_getp,↓s_get,↓s_con,↓s_os0,↓s_os1,↓s_list0,↓s_list1,↓s_mov,↓s_bin,↓s_call,↓s_ext,s_same,b_neq,b_lss,s_end,s_res0,s_res1,s_tup2,↓iteN_true,↓iteN_false,iteN_true,iteN_false,Nat.reduceEqDiff,decide_true,decide_false,Bool.not_false,List.getElem?_cons_zero,List.getElem?_cons_succ]
      try rfl
end Go.Eng
namespace Go.Eng
open Go
variable {E:Nat→Option Fn} {X:Orc}
set_option linter.unusedSimpArgs false
set_option linter.unusedVariables false
theorem st2i (h:H) (i:Nat) (x:Int) (a:Option (Nat × Nat)) (n:Nat) (c:Option Nat) (e:Nat):storeV h 2 (.ptr (some (i,0))) (.agg [.int .i64 x,.slice a n c e])=storeE (h.get i) h i 0 [.int .i64 x,.slice a n c e]:=m_storeA h 2 i 0 _ rfl
theorem st2ir (u v:V) (h:H) (i:Nat) (x:Int) (a:Option (Nat × Nat)) (n:Nat) (c:Option Nat) (e:Nat):storeE (some (.cells [u,v] .rw)) h i 0 [.int .i64 x,.slice a n c e]=some (h.put i (.cells [.int .i64 x,.slice a n c e] .rw)):=m_storeE _ _ _ _ _ (by show 0+2≤2; omega)
theorem ld2 (u v:V) (m:Md):loadE (some (.cells [u,v] m)) (some 2) 0=some (.agg [u,v]):=rfl
theorem dc_no (b:List Nat) (h:rhV b=false∨b.length < 13+numV ((b.drop 1).take 4)):dcV b=none:=by
  unfold dcV
  by_cases c1:b.length < 13
  · rw [if_pos c1]
  rw [if_neg c1]
  by_cases c2:barE (b.take 9)≠0
  · rw [if_pos c2]
  rw [if_neg c2]
  by_cases c3:200000 < numV ((b.drop 1).take 4)
  · rw [if_pos c3]
  rw [if_neg c3]
  by_cases c4:b.length < 13+numV ((b.drop 1).take 4)
  · rw [if_pos c4]
  rcases h with h | h
  · unfold rhV rhOk at h
    rw [decide_eq_true (show 9≤b.length by omega),decide_eq_true (Classical.not_not.1 c2),decide_eq_true (by omega)] at h
    cases h
  · exact absurd h c4
def dcR (E:Nat→Option Fn) (X:Orc) (N:Nat) (h:H) (v:V) (at_:Nat) (h':H):Option (Rq × Nat)→Prop
  | none => callX E X N (.fn k_record_Decode) [v,.int .i64 (at_:Int)] h=some (.tup [.agg [.int .i64 0,.slice none 0 (some 0) 0],.int .i64 0,.int .i64 160],h')
  | some (o,k) => ∃ a2 c2 e2,callX E X N (.fn k_record_Decode) [v,.int .i64 (at_:Int)] h=some (.tup [.agg [.int .i64 o.kind,.slice a2 o.l.length c2 e2],.int .i64 ((at_+k:Nat):Int),.int .i64 0],h')∧Wb h' o.l a2 c2 e2∧∀ q z,a2=some (q,z)→h.next < q
theorem decode_go (ed:E k_record_Decode=some f_record_Decode) (ef:E k_record_readHead=some f_record_readHead) (e:EnCm E) (x:NoCm X) (xd:∀ a h,X (.fn k_record_Decode) a h=none) (xh:∀ a h,X (.fn k_record_readHead) a h=none) (M:Nat) (hM:250100 < M) (s:List Nat) (bs:byt s=true) (hs:s.length≤900000) (at_:Nat) (hat:at_≤s.length) (a:Option (Nat × Nat)) (h:H) (src:SrcH h a 1 s) :
    ∃ h',Kp h h'∧dcR E X (M+22) h (.slice a s.length none 1) at_ h' (dcV (s.drop at_)):=by
  obtain ⟨b,eb⟩:∃ b,s.drop at_=b:=⟨_,rfl⟩
  have lb:b.length=s.length - at_:=by rw [← eb,List.length_drop]
  have bb:byt b=true:=by rw [← eb]; exact byt_drop bs _
  rw [eb]
  obtain ⟨hA,eA⟩:∃ hA,h.new (.cells [.int .i64 0,.slice none 0 (some 0) 0] .rw)=hA:=⟨_,rfl⟩
  have kA:Kp h hA:=by rw [← eA]; exact Kp.new _ _
  have nA:hA.next=h.next+1:=by rw [← eA]; rfl
  have gA:hA.get h.next=some (.cells [.int .i64 0,.slice none 0 (some 0) 0] .rw):=by rw [← eA]; exact h_new_same _ _
  have c0:decide ((at_:Int) < 0)=false:=decide_eq_false (by omega)
  have c1:decide ((s.length:Int) < (at_:Int))=false:=decide_eq_false (by omega)
  have sv:slcV 1 (some (.int .i64 (at_:Int))) none none (.slice a s.length none 1)=some (.slice (upA a at_) (s.length - at_) none 1):=slcV_loA _ _ _ _ hat
  obtain ⟨hB,rB,kB⟩:=readHead_go ef e x xh M hM b bb (by omega) (upA a at_) none (fun _ => rfl) 1 hA (by rw [← eb]; exact (src.mono kA).drop at_)
  rw [lb] at rB
  have gB:hB.get h.next=some (.cells [.int .i64 0,.slice none 0 (some 0) 0] .rw):=by rw [kB.2 _ (by omega),gA]
  have kAB:=kA.trans kB
  have kBn:=kB.1
  obtain ⟨hF,eF⟩:∃ hF,hB.put h.next (.cells [.int .i64 0,.slice none 0 (some 0) 0] .rw)=hF:=⟨_,rfl⟩
  have kF:Kp h hF:=by rw [← eF]; exact kAB.put _ (Nat.le_refl _)
  have gF:hF.get h.next=some (.cells [.int .i64 0,.slice none 0 (some 0) 0] .rw):=by rw [← eF]; exact h_put_same _ _ _
  cases hv:rhV b with
  | false =>
    rw [dc_no b (.inl hv)]
    refine ⟨hF,kF,?_⟩
    show callX E X (M+22) _ _ _=_
    rw [x_cfn ed _ _ (Nat.le_of_ble_eq_true rfl) (xd _ _)]
    rw [hv] at rB
    generalize rhK b=rk at *
    generalize rhN b=rn at *
    generalize s.length - at_=sd at *
    generalize s.length=sl at *
    simp (config:={maxSteps:=2000000}) (disch:=first | omega | (simp only [List.length_cons,List.length_nil,List.length_append,List.length_drop]; omega)) only [eA,c0,c1,sv,rB,gB,eF,gF,st2i,ld2,x_build,x_aggO,x_P0,x_fill0,↓x_slcS,x_M0,x_M1,↓s_len,x_lenS,Nat.zero_add,m_load,↓m_st,m_stE,m_storeE,w_zero,↓s_alloc,x_lenS,↓s_len,↓x_P0,x_fill0,List.length_cons,List.length_nil,List.drop_succ_cons,List.drop_nil,Nat.reduceAdd,s_resc,s_consR,s_res0,↓s_skip,↓s_ops,↓s_seq,↓s_cond,↓s_ret,↓s_nil,↓s_op,↓s_opg,↓s_wanted',↓s_wantV,s_wantV,↓s_bindS,s_bindS,↓s_bindE,s_bindE,s_bindE_ret,s_norm,↓s_condV,s_condV,↓s_getp,↓s_getp0,↓s_get,↓s_con,↓s_os0,↓s_os1,↓s_list0,↓s_list1,↓s_mov,↓s_pick,↓s_pickE,s_pickE,↓s_bin,↓s_un,↓s_call,↓s_ext,s_same,b_lss,b_gtr,u_not,s_end,s_res0,s_res1,s_tup2,↓iteN_true,↓iteN_false,iteN_true,iteN_false,Nat.zero_add,List.append_nil,Nat.reduceEqDiff,decide_true,decide_false,Bool.not_false,List.getElem?_cons_zero,List.getElem?_cons_succ,beq_self_eq_true]
    try rfl
  | true =>
    rw [hv] at rB
    have hok:rhOk b=true:=by unfold rhV at hv; rw [Bool.and_eq_true] at hv; exact hv.1
    have hn2:numV ((b.drop 1).take 4)≤200000:=by unfold rhV at hv; rw [Bool.and_eq_true] at hv; exact of_decide_eq_true hv.2
    have h9:9≤b.length∧barE (b.take 9)=0:=by unfold rhOk at hok; rw [Bool.and_eq_true] at hok; exact ⟨of_decide_eq_true hok.1,of_decide_eq_true hok.2⟩
    have ek:rhK b=b.getD 0 0:=by unfold rhK; rw [if_pos hok]
    have en:rhN b=numV ((b.drop 1).take 4):=by unfold rhN; rw [if_pos hok]
    rw [ek,en] at rB
    obtain ⟨n,eN⟩:∃ n,numV ((b.drop 1).take 4)=n:=⟨_,rfl⟩
    have dn:=dc_no b
    rw [eN] at dn rB hn2
    have w1:wr .i64 ((at_:Int)+9)=((at_+9:Nat):Int):=by rw [wr_i64 (by omega)]; omega
    have w2:wr .i64 (((at_+9:Nat):Int)+(n:Int))=((at_+9+n:Nat):Int):=by rw [wr_i64 (by omega)]; omega
    have w3:wr .i64 (((at_+9+n:Nat):Int)+4)=((at_+(13+n):Nat):Int):=by rw [wr_i64 (by omega)]; omega
    obtain ⟨F,eFF⟩:∃ F,at_+9+n=F:=⟨_,rfl⟩
    obtain ⟨G,eG⟩:∃ F,at_+(13+n)=F:=⟨_,rfl⟩
    rw [eFF] at w2 w3
    rw [eG] at w3
    by_cases c4:b.length < 13+n
    · rw [dn (.inr c4)]
      refine ⟨hF,kF,?_⟩
      show callX E X (M+22) _ _ _=_
      rw [x_cfn ed _ _ (Nat.le_of_ble_eq_true rfl) (xd _ _)]
      have d4:decide ((s.length:Int) < (G:Int))=true:=decide_eq_true (by omega)
      generalize s.length - at_=sd at *
      generalize s.length=sl at *
      generalize b.getD 0 0=y at *
      simp (config:={maxSteps:=2000000}) (disch:=first | omega | (simp only [List.length_cons,List.length_nil,List.length_append,List.length_drop]; omega)) only [eA,c0,c1,sv,rB,gB,w1,w2,w3,d4,eF,gF,st2i,ld2,x_build,x_aggO,x_P0,x_fill0,Bool.not_true,↓x_slcS,x_M0,x_M1,↓s_len,x_lenS,Nat.zero_add,m_load,↓m_st,m_stE,m_storeE,w_zero,↓s_alloc,x_lenS,↓s_len,↓x_P0,x_fill0,List.length_cons,List.length_nil,List.drop_succ_cons,List.drop_nil,Nat.reduceAdd,s_resc,s_consR,s_res0,↓s_skip,↓s_ops,↓s_seq,↓s_cond,↓s_ret,↓s_nil,↓s_op,↓s_opg,↓s_wanted',↓s_wantV,s_wantV,↓s_bindS,s_bindS,↓s_bindE,s_bindE,s_bindE_ret,s_norm,↓s_condV,s_condV,↓s_getp,↓s_getp0,↓s_get,↓s_con,↓s_os0,↓s_os1,↓s_list0,↓s_list1,↓s_mov,↓s_pick,↓s_pickE,s_pickE,↓s_bin,↓s_un,↓s_call,↓s_ext,s_same,b_lss,b_gtr,b_add,u_not,s_end,s_res0,s_res1,s_tup2,↓iteN_true,↓iteN_false,iteN_true,iteN_false,Nat.zero_add,List.append_nil,Nat.reduceEqDiff,decide_true,decide_false,Bool.not_true,List.getElem?_cons_zero,List.getElem?_cons_succ,beq_self_eq_true]
      try rfl
    · have d4:decide ((s.length:Int) < (G:Int))=false:=decide_eq_false (by omega)
      have em:(s.drop (at_+9)).take (n+4)=(b.drop 9).take (n+4):=by rw [← eb,List.drop_drop]
      have lm:((b.drop 9).take (n+4)).length=n+4:=by rw [List.length_take,List.length_drop]; omega
      have sv2:slcV 1 (some (.int .i64 ((at_+9:Nat):Int))) (some (.int .i64 (G:Int))) none (.slice a s.length none 1)=some (.slice (upA a (at_+9)) (G - (at_+9)) none 1):=slcV_lhA _ _ _ _ _ _ (by omega) (by omega)
      rw [show G - (at_+9)=n+4 by omega] at sv2
      have sm:=(((src.mono kAB).drop (at_+9)).take (n+4))
      rw [em] at sm
      obtain ⟨hC,a3,c3,e3,rC,nwC⟩:=cbare_go e x (M+1) ((b.drop 9).take (n+4)) (byt_take (byt_drop bb _) _) (by omega) (by omega) (upA a (at_+9)) hB sm
      rw [lm] at rC
      have kC:=nwC.kp
      have kCn:=kC.1
      have gC:hC.get h.next=some (.cells [.int .i64 0,.slice none 0 (some 0) 0] .rw):=by rw [kC.2 _ (by omega),gB]
      have dv:dcV b=if barE ((b.drop 9).take (n+4))≠0 then none else some (⟨(b.getD 0 0:Nat),(b.drop 9).take n⟩,13+n):=by
        unfold dcV
        rw [eN,if_neg (by omega),if_neg (fun h => h h9.2),if_neg (by omega),if_neg c4]
      rw [dv]
      replace rC:callX E X (M+21) (.fn k_crc_Bare) [.slice (upA a (at_+9)) (n+4) none 1] hB=_:=rC
      by_cases c5:barE ((b.drop 9).take (n+4))=0
      · rw [if_neg (fun h => h c5)]
        have ebar:barB ((b.drop 9).take (n+4))=(b.drop 9).take n:=by unfold barB; rw [if_pos c5,lm,Nat.add_sub_cancel,List.take_take,Nat.min_eq_left (by omega)]
        rw [ebar] at nwC rC
        rw [c5] at rC
        have ln:((b.drop 9).take n).length=n:=by rw [List.length_take,List.length_drop]; omega
        rw [ln] at rC
        obtain ⟨hG,eHG⟩:∃ hG,hC.put h.next (.cells [.int .i64 (b.getD 0 0:Nat),.slice a3 n c3 e3] .rw)=hG:=⟨_,rfl⟩
        have gG:hG.get h.next=some (.cells [.int .i64 (b.getD 0 0:Nat),.slice a3 n c3 e3] .rw):=by rw [← eHG]; exact h_put_same _ _ _
        have ge:∀ q z,a3=some (q,z)→h.next < q:=fun q z e => by have:=nwC.ge q z e; omega
        refine ⟨hG,by rw [← eHG]; exact (kAB.trans kC).put _ (Nat.le_refl _),a3,c3,e3,?_,nwC.wb.mono (by rw [← eHG]; exact Nat.le_refl _) (fun q hq e => by rw [← eHG,h_put_ne _ _ (by have:=ge q 0 e; omega)]),ge⟩
        rw [x_cfn ed _ _ (Nat.le_of_ble_eq_true rfl) (xd _ _)]
        simp only
        rw [ln]
        have z0:decide ((0:Int)=0)=true:=rfl
        show _=some (V.tup [.agg [.int .i64 ((b.getD 0 0:Nat):Int),.slice a3 n c3 e3],.int .i64 ((at_+(13+n):Nat):Int),.int .i64 0],hG)
        rw [eG]
        generalize s.length - at_=sd at *
        generalize s.length=sl at *
        generalize b.getD 0 0=y at *
        generalize n+4=n4 at *
        generalize upA a (at_+9)=ua at *
        simp (config:={maxSteps:=2000000}) (disch:=first | omega | (simp only [List.length_cons,List.length_nil,List.length_append,List.length_drop]; omega)) only [eA,c0,c1,sv,rB,w1,w2,w3,d4,sv2,rC,gC,eHG,gG,st2i,ld2,x_build,x_aggO,x_P0,x_P1,x_fill0,x_fills,x_filli,Bool.not_true,↓x_slcS,x_M0,x_M1,↓s_len,x_lenS,Nat.zero_add,m_load,↓m_st,m_stE,m_storeE,w_zero,w_succ,↓s_alloc,x_lenS,↓s_len,↓x_P0,↓x_P1,x_fill0,x_filli,x_fills,List.length_cons,List.length_nil,List.cons_append,List.drop_succ_cons,List.drop_zero,List.drop_nil,List.nil_append,Nat.reduceAdd,Int.cast_ofNat_Int,s_resc,s_consR,s_res0,↓s_skip,↓s_ops,↓s_seq,↓s_cond,↓s_ret,↓s_nil,↓s_op,↓s_opg,↓s_wanted',↓s_wantV,s_wantV,↓s_bindS,s_bindS,↓s_bindE,s_bindE,s_norm,↓s_condV,s_condV,↓s_getp,↓s_getp0,↓s_get,↓s_con,↓s_os0,↓s_os1,↓s_list0,↓s_list1,↓s_mov,↓s_pick,↓s_pickE,s_pickE,↓s_bin,↓s_un,↓s_call,↓s_ext,s_same,b_neq,b_lss,b_gtr,b_add,u_not,s_end,s_res0,s_res1,s_tup2,↓iteN_true,↓iteN_false,iteN_true,iteN_false,Nat.zero_add,List.nil_append,List.append_nil,Nat.reduceEqDiff,decide_true,decide_false,Bool.not_true,List.getElem?_cons_zero,List.getElem?_cons_succ,beq_self_eq_true]
        try rfl
      · rw [if_pos c5]
        obtain ⟨hG,eHG⟩:∃ hG,hC.put h.next (.cells [.int .i64 0,.slice none 0 (some 0) 0] .rw)=hG:=⟨_,rfl⟩
        have gG:hG.get h.next=some (.cells [.int .i64 0,.slice none 0 (some 0) 0] .rw):=by rw [← eHG]; exact h_put_same _ _ _
        refine ⟨hG,by rw [← eHG]; exact (kAB.trans kC).put _ (Nat.le_refl _),?_⟩
        show callX E X (M+22) _ _ _=_
        rw [x_cfn ed _ _ (Nat.le_of_ble_eq_true rfl) (xd _ _)]
        have z0:decide (((barE ((b.drop 9).take (n+4)):Nat):Int)=0)=false:=decide_eq_false (by omega)
        generalize barE ((b.drop 9).take (n+4))=be at *
        generalize (barB ((b.drop 9).take (n+4))).length=bl at *
        generalize s.length - at_=sd at *
        generalize s.length=sl at *
        generalize b.getD 0 0=y at *
        generalize n+4=n4 at *
        generalize upA a (at_+9)=ua at *
        simp (config:={maxSteps:=2000000}) (disch:=first | omega | (simp only [List.length_cons,List.length_nil,List.length_append,List.length_drop]; omega)) only [eA,c0,c1,sv,rB,w1,w2,w3,d4,sv2,rC,gC,z0,eHG,gG,st2i,ld2,x_build,x_aggO,x_P0,x_fill0,Bool.not_true,Bool.not_false,↓x_slcS,x_M0,x_M1,↓s_len,x_lenS,Nat.zero_add,m_load,↓m_st,m_stE,m_storeE,w_zero,↓s_alloc,x_lenS,↓s_len,↓x_P0,x_fill0,List.length_cons,List.length_nil,List.drop_succ_cons,List.drop_nil,Nat.reduceAdd,s_resc,s_consR,s_res0,↓s_skip,↓s_ops,↓s_seq,↓s_cond,↓s_ret,↓s_nil,↓s_op,↓s_opg,↓s_wanted',↓s_wantV,s_wantV,↓s_bindS,s_bindS,↓s_bindE,s_bindE,s_bindE_ret,s_norm,↓s_condV,s_condV,↓s_getp,↓s_getp0,↓s_get,↓s_con,↓s_os0,↓s_os1,↓s_list0,↓s_list1,↓s_mov,↓s_pick,↓s_pickE,s_pickE,↓s_bin,↓s_un,↓s_call,↓s_ext,s_same,b_neq,b_lss,b_gtr,b_add,u_not,s_end,s_res0,s_res1,s_tup2,↓iteN_true,↓iteN_false,iteN_true,iteN_false,Nat.zero_add,List.append_nil,Nat.reduceEqDiff,decide_true,decide_false,Bool.not_true,Bool.not_false,List.getElem?_cons_zero,List.getElem?_cons_succ,beq_self_eq_true]
        try rfl
end Go.Eng
namespace Go.Eng
open Go
variable {E:Nat→Option Fn} {X:Orc}
set_option linter.unusedSimpArgs false
set_option linter.unusedVariables false
/-- a slice of bytes that may be cut -/
structure SB (s:List Nat) (a:Option (Nat × Nat)) (c:Option Nat) (ez:Nat):Prop where
  hc:s≠[]→c=none
  hz:s=[]→ez=1∨a=none
theorem SB.one (s:List Nat) (a:Option (Nat × Nat)):SB s a none 1:=⟨fun _ => rfl,fun _ => .inl rfl⟩
theorem SB.of_wb {h:H} {s:List Nat} {a:Option (Nat × Nat)} {c:Option Nat} {e:Nat} (w:Wb h s a c e):SB s a c e:=by
  rcases w with ⟨h1,h2,_⟩ | ⟨h1,_,_,_,h3,_⟩
  · exact ⟨fun h => absurd h1 h,fun _ => .inr h2⟩
  · exact ⟨fun _ => h3,fun h => by rw [h] at h1; exact absurd h1 (by simp)⟩
theorem dc_nil:dcV []=none:=rfl
theorem slcV_lo0 (a:Option (Nat × Nat)) (c:Option Nat) (e:Nat) (he:e=1∨a=none):slcV 1 (some (.int .i64 0)) none none (.slice a 0 c e)=some (.slice (upA a 0) 0 (subC c 0) 1):=by
  have:(Nat.beq e 1 || a.isNone)=true:=by rcases he with rfl | rfl <;> simp
  unfold slcV
  simp only [this,_root_.cond_true,x_bnd0]
  have b:bnd (some (.int .i64 0)) 0 0=some 0:=x_bnd .i64 0 0 0 (Nat.le_refl _)
  rw [b]
theorem decode0_go (ed:E k_record_Decode=some f_record_Decode) (ef:E k_record_readHead=some f_record_readHead) (e:EnCm E) (x:NoCm X) (xd:∀ a h,X (.fn k_record_Decode) a h=none) (xh:∀ a h,X (.fn k_record_readHead) a h=none) (M:Nat) (hM:250100 < M) (a:Option (Nat × Nat)) (c:Option Nat) (ez:Nat) (hz:ez=1∨a=none) (h:H) :
    ∃ h',Kp h h'∧dcR E X (M+22) h (.slice a 0 c ez) 0 h' none:=by
  obtain ⟨hA,eA⟩:∃ hA,h.new (.cells [.int .i64 0,.slice none 0 (some 0) 0] .rw)=hA:=⟨_,rfl⟩
  have kA:Kp h hA:=by rw [← eA]; exact Kp.new _ _
  have nA:hA.next=h.next+1:=by rw [← eA]; rfl
  have gA:hA.get h.next=some (.cells [.int .i64 0,.slice none 0 (some 0) 0] .rw):=by rw [← eA]; exact h_new_same _ _
  obtain ⟨hB,rB,kB⟩:=readHead_go ef e x xh M hM [] rfl (by simp) (upA a 0) (subC c 0) (fun h => absurd rfl h) 1 hA (.inl rfl)
  have gB:hB.get h.next=some (.cells [.int .i64 0,.slice none 0 (some 0) 0] .rw):=by rw [kB.2 _ (by omega),gA]
  have kAB:=kA.trans kB
  obtain ⟨hF,eF⟩:∃ hF,hB.put h.next (.cells [.int .i64 0,.slice none 0 (some 0) 0] .rw)=hF:=⟨_,rfl⟩
  have kF:Kp h hF:=by rw [← eF]; exact kAB.put _ (Nat.le_refl _)
  have gF:hF.get h.next=some (.cells [.int .i64 0,.slice none 0 (some 0) 0] .rw):=by rw [← eF]; exact h_put_same _ _ _
  refine ⟨hF,kF,?_⟩
  show callX E X (M+22) _ [.slice a 0 c ez,.int .i64 0] _=_
  rw [x_cfn ed _ _ (Nat.le_of_ble_eq_true rfl) (xd _ _)]
  have sv:=slcV_lo0 a c ez hz
  have hv:rhV []=false:=rfl
  rw [hv] at rB
  have c0:decide ((0:Int) < 0)=false:=rfl
  generalize rhK []=rk at *
  generalize rhN []=rn at *
  rw [List.length_nil] at rB
  simp (config:={maxSteps:=2000000}) (disch:=first | omega | (simp only [List.length_cons,List.length_nil,List.length_append,List.length_drop]; omega)) only [eA,sv,rB,gB,eF,gF,st2i,ld2,x_build,x_aggO,x_P0,x_fill0,↓x_slcS,x_M0,x_M1,↓s_len,x_lenS,Nat.zero_add,m_load,↓m_st,m_stE,m_storeE,w_zero,↓s_alloc,x_lenS,↓s_len,↓x_P0,x_fill0,List.length_cons,List.length_nil,List.drop_succ_cons,List.drop_nil,Int.reduceLT,Nat.reduceAdd,Int.cast_ofNat_Int,s_resc,s_consR,s_res0,↓s_skip,↓s_ops,↓s_seq,↓s_cond,↓s_ret,↓s_nil,↓s_op,↓s_opg,↓s_wanted',↓s_wantV,s_wantV,↓s_bindS,s_bindS,↓s_bindE,s_bindE,s_bindE_ret,s_norm,↓s_condV,s_condV,↓s_getp,↓s_getp0,↓s_get,↓s_con,↓s_os0,↓s_os1,↓s_list0,↓s_list1,↓s_mov,↓s_pick,↓s_pickE,s_pickE,↓s_bin,↓s_un,↓s_call,↓s_ext,s_same,b_lss,b_gtr,u_not,s_end,s_res0,s_res1,s_tup2,↓iteN_true,↓iteN_false,iteN_true,iteN_false,Nat.zero_add,List.append_nil,Nat.reduceEqDiff,decide_true,decide_false,Bool.not_false,List.getElem?_cons_zero,List.getElem?_cons_succ,beq_self_eq_true]
  try rfl
theorem decode_goB (ed:E k_record_Decode=some f_record_Decode) (ef:E k_record_readHead=some f_record_readHead) (e:EnCm E) (x:NoCm X) (xd:∀ a h,X (.fn k_record_Decode) a h=none) (xh:∀ a h,X (.fn k_record_readHead) a h=none) (M:Nat) (hM:250100 < M) (s:List Nat) (bs:byt s=true) (hs:s.length≤900000) (at_:Nat) (hat:at_≤s.length) (a:Option (Nat × Nat)) (c:Option Nat) (ez:Nat) (sb:SB s a c ez) (h:H) (src:SrcH h a ez s) :
    ∃ h',Kp h h'∧dcR E X (M+22) h (.slice a s.length c ez) at_ h' (dcV (s.drop at_)):=by
  by_cases hn:s=[]
  · subst hn
    obtain rfl:at_=0:=by simpa using hat
    rw [List.drop_nil,dc_nil]
    exact decode0_go ed ef e x xd xh M hM a c ez (sb.hz rfl) h
  · obtain rfl:=sb.hc hn
    obtain rfl:ez=1:=by
      rcases src with s | ⟨_,_,_,_,_,f2,_⟩
      · exact absurd s hn
      · exact f2
    exact decode_go ed ef e x xd xh M hM s bs hs at_ hat a h src
end Go.Eng
namespace Go.Eng
open Go
variable {E:Nat→Option Fn} {X:Orc}
set_option linter.unusedSimpArgs false
set_option linter.unusedVariables false
/-- a row of records that can be read -/
def RrS (h:H) (ops:List Rq) (a:Option (Nat × Nat)) (e:Nat):Prop:=ops=[]∨∃ q off vs md,a=some (q,off)∧e=2∧q < h.next∧h.get q=some (.cells vs md)∧off+ops.length * 2≤vs.length∧∀ i o,ops[i]?=some o→∃ b cb eb,(vs.drop (off+i * 2)).take 2=[.int .i64 o.kind,.slice b o.l.length cb eb]∧SrcH h b eb o.l
theorem RrS.mono {h h':H} {ops:List Rq} {a:Option (Nat × Nat)} {e:Nat} (r:RrS h ops a e) (k:Kp h h'):RrS h' ops a e:=by
  rcases r with r | ⟨q,off,vs,md,e1,e2,hq,g,hl,at_⟩
  · exact .inl r
  · exact .inr ⟨q,off,vs,md,e1,e2,Nat.lt_of_lt_of_le hq k.1,by rw [k.2 _ hq,g],hl,fun i o ho => by
      obtain ⟨b,cb,eb,e3,s⟩:=at_ i o ho
      exact ⟨b,cb,eb,e3,s.mono k⟩⟩
theorem RrS.take {h:H} {ops:List Rq} {a:Option (Nat × Nat)} {e:Nat} (r:RrS h ops a e) (n:Nat):RrS h (ops.take n) a e:=by
  rcases r with r | ⟨q,off,vs,md,e1,e2,hq,g,hl,at_⟩
  · left; rw [r,List.take_nil]
  · refine .inr ⟨q,off,vs,md,e1,e2,hq,g,by rw [List.length_take]; omega,fun i o ho => at_ i o ?_⟩
    rw [List.getElem?_take] at ho
    by_cases hi:i < n
    · rw [if_pos hi] at ho; exact ho
    · rw [if_neg hi] at ho; cases ho
theorem RrS.drop {h:H} {ops:List Rq} {a:Option (Nat × Nat)} {e:Nat} (r:RrS h ops a e) (n:Nat):RrS h (ops.drop n) (upA a (n * 2)) e:=by
  rcases r with r | ⟨q,off,vs,md,e1,e2,hq,g,hl,at_⟩
  · left; rw [r,List.drop_nil]
  · by_cases hn:n≤ops.length
    · refine .inr ⟨q,off+n * 2,vs,md,by rw [e1]; rfl,e2,hq,g,by rw [List.length_drop]; omega,fun i o ho => ?_⟩
      rw [List.getElem?_drop] at ho
      obtain ⟨b,cb,eb,e3,s⟩:=at_ _ o ho
      exact ⟨b,cb,eb,by rw [show off+n * 2+i * 2=off+(n+i) * 2 by omega]; exact e3,s⟩
    · left; exact List.drop_eq_nil_of_le (by omega)
theorem rr_at {h:H} {ops:List Rq} {a:Option (Nat × Nat)} {e:Nat} (r:RrS h ops a e) (i:Nat) (o:Rq) (ho:ops[i]?=some o):∃ q off vs md b cb eb,a=some (q,off)∧e=2∧q < h.next∧h.get q=some (.cells vs md)∧loadE (some (.cells vs md)) (some 2) (off+i * 2)=some (.agg [.int .i64 o.kind,.slice b o.l.length cb eb])∧SrcH h b eb o.l∧vs[off+i * 2+1]?=some (.slice b o.l.length cb eb):=by
  rcases r with r | ⟨q,off,vs,md,e1,e2,hq,g,hl,at_⟩
  · rw [r] at ho; simp at ho
  · obtain ⟨b,cb,eb,e3,s⟩:=at_ i o ho
    have hi:i < ops.length:=(List.getElem?_eq_some_iff.1 ho).1
    refine ⟨q,off,vs,md,b,cb,eb,e1,e2,hq,g,by rw [m_loadN,readN_of _ _ _ (by omega),e3],s,?_⟩
    have:((vs.drop (off+i * 2)).take 2)[1]?=some (.slice b o.l.length cb eb):=by rw [e3]; rfl
    rw [List.getElem?_take_of_lt (by omega),List.getElem?_drop] at this
    exact this
/-- records' bytes -/
def rB (ops:List Rq):List Nat:=(ops.map rqB).flatten
theorem rB_succ (ops:List Rq) (i:Nat) (o:Rq) (h:ops[i]?=some o):rB (ops.take (i+1))=rB (ops.take i)++rqB o:=by
  unfold rB; rw [List.take_add_one,h,List.map_append,List.flatten_append]; simp
end Go.Eng
namespace Go.Eng
open Go
variable {E:Nat→Option Fn} {X:Orc}
set_option linter.unusedSimpArgs false
set_option linter.unusedVariables false
theorem rq_or (ops:List Rq):(∀ o ∈ ops,rqOk o=true)∨∃ (j:Nat) (o:Rq),ops[j]?=some o∧rqOk o=false∧∀ (i:Nat) (o':Rq),i < j→ops[i]?=some o'→rqOk o'=true:=by
  induction ops with
  | nil => exact .inl (fun o ho => by cases ho)
  | cons a r ih =>
    cases ha:rqOk a with
    | false => exact .inr ⟨0,a,rfl,ha,fun i o' hi => by omega⟩
    | true =>
      rcases ih with ih | ⟨j,o,h1,h2,h3⟩
      · exact .inl (fun o ho => by rcases List.mem_cons.1 ho with rfl | ho; exact ha; exact ih o ho)
      · refine .inr ⟨j+1,o,by simpa using h1,h2,fun i o' hi ho => ?_⟩
        cases i with
        | zero => simp at ho; subst ho; exact ha
        | succ i => simp at ho; exact h3 i o' (by omega) ho
theorem rB_le (ops:List Rq) (i:Nat):(rB (ops.take i)).length≤(rB ops).length:=by
  have:rB ops=rB (ops.take i)++rB (ops.drop i):=by
    unfold rB; rw [← List.flatten_append,← List.map_append,List.take_append_drop]
  rw [this,List.length_append]; omega
def enR (ops:List Rq):List Nat × Nat:=if ops.all rqOk=true then (rB ops,0) else ([],160)
end Go.Eng
namespace Go.Eng
open Go
variable {E:Nat→Option Fn} {X:Orc}
set_option linter.unusedSimpArgs false
set_option linter.unusedVariables false
/-- a slice of bytes that may be written over -/
def Ow (h:H) (w:List Nat) (a:Option (Nat × Nat)) (e:Nat):Prop:=w=[]∨∃ q md,a=some (q,0)∧e=1∧h.get q=some (.cells (ofI .u8 w) md)∧isRo md=false∧q < h.next
theorem Ow.src {h:H} {w:List Nat} {a:Option (Nat × Nat)} {e:Nat} (s:Ow h w a e):SrcH h a e w:=by
  rcases s with s | ⟨q,md,rfl,rfl,g,_,hq⟩
  · exact .inl s
  · exact .inr ⟨q,0,_,md,rfl,rfl,hq,g,by rw [ofI_len]; omega,by rw [List.drop_zero]; exact List.take_of_length_le (by rw [ofI_len]; exact Nat.le_refl _)⟩
theorem Ow.kp {h h':H} {w:List Nat} {a:Option (Nat × Nat)} {e:Nat} (s:Ow h w a e) (k:Kp h h'):Ow h' w a e:=by
  rcases s with s | ⟨q,md,e1,e2,g,hm,hq⟩
  · exact .inl s
  · exact .inr ⟨q,md,e1,e2,by rw [k.2 _ hq,g],hm,Nat.lt_of_lt_of_le hq k.1⟩
theorem Wb.ow {h:H} {w:List Nat} {a:Option (Nat × Nat)} {c:Option Nat} {e:Nat} (s:Wb h w a c e):Ow h w a e:=by
  rcases s with ⟨h1,_⟩ | ⟨_,q,md,e1,_,e3,g,hm,hq⟩
  · exact .inl h1
  · exact .inr ⟨q,md,e1,e3,g,hm,hq⟩
/-- an operation's cells: its data lie in blocks from lo on,and not in q -/
def RqF (lo q:Nat) (h:H) (o:Rq) (p:List V):Prop:=∃ a c e,p=[.int .i64 o.kind,.slice a o.l.length c e]∧Ow h o.l a e∧(o.l≠[]→∀ b z,a=some (b,z)→lo≤b∧b≠q)
theorem RqF.mono {lo q:Nat} {h h':H} {o:Rq} {p:List V} (x:RqF lo q h o p) (hn:h.next≤h'.next) (k:∀ i,lo≤i→i < h.next→i≠q→h'.get i=h.get i):RqF lo q h' o p:=by
  obtain ⟨a,c,e,rfl,s,d⟩:=x
  refine ⟨a,c,e,rfl,?_,d⟩
  by_cases hl:o.l=[]
  · exact .inl hl
  · rcases s with s | ⟨bi,m,h1,h2,h4,h5,h3⟩
    · exact .inl s
    · obtain ⟨d1,d2⟩:=d hl bi 0 h1
      exact .inr ⟨bi,m,h1,h2,by rw [k _ d1 h3 d2,h4],h5,Nat.lt_of_lt_of_le h3 hn⟩
/-- a row of operations that is nobody else's -/
def RrF (lo:Nat) (h:H) (dn:List Rq) (a:Option (Nat × Nat)) (c:Option Nat) (e:Nat):Prop:=(dn=[]∧a=none∧c=some 0∧e=0)∨(0 < dn.length∧∃ q md parts,a=some (q,0)∧c=none∧e=2∧h.get q=some (.cells parts.flatten md)∧Al2 (RqF lo q h) dn parts∧isRo md=false∧q < h.next∧lo≤q)
theorem RrF.mono {lo:Nat} {h h':H} {dn:List Rq} {a:Option (Nat × Nat)} {c:Option Nat} {e:Nat} (r:RrF lo h dn a c e) (hn:h.next≤h'.next) (k:∀ i,lo≤i→i < h.next→h'.get i=h.get i):RrF lo h' dn a c e:=by
  rcases r with r | ⟨h1,q,md,ps,e1,e2,e3,g,al,hm,hq,hl⟩
  · exact .inl r
  · exact .inr ⟨h1,q,md,ps,e1,e2,e3,by rw [k _ hl hq,g],al.imp (fun _ _ x => x.mono hn (fun i h1 h2 _ => k i h1 h2)),hm,Nat.lt_of_lt_of_le hq hn,hl⟩
theorem RrF.kp {lo:Nat} {h h':H} {dn:List Rq} {a:Option (Nat × Nat)} {c:Option Nat} {e:Nat} (r:RrF lo h dn a c e) (k:Kp h h'):RrF lo h' dn a c e:=r.mono k.1 (fun i _ hi => k.2 i hi)
theorem RrF.lt {lo:Nat} {h:H} {dn:List Rq} {a:Option (Nat × Nat)} {c:Option Nat} {e:Nat} (r:RrF lo h dn a c e) {q z:Nat} (ea:a=some (q,z)):lo≤q∧q < h.next:=by
  rcases r with ⟨_,h1,_⟩ | ⟨_,q',_,_,h1,_,_,_,_,_,hq,hl⟩
  · rw [h1] at ea; cases ea
  · rw [h1] at ea; cases ea; exact ⟨hl,hq⟩
theorem ral_len2 {lo q:Nat} {h:H} {ops:List Rq} {parts:List (List V)} (al:Al2 (RqF lo q h) ops parts):∀ p ∈ parts,p.length=2:=by
  induction al with
  | nil => intro p hp; cases hp
  | cons h1 _ ih => intro p hp; rcases List.mem_cons.1 hp with rfl | hp
                    · obtain ⟨a,c,e,rfl,_⟩:=h1; rfl
                    · exact ih p hp
theorem Al2.snoc {α β:Type} {p:α→β→Prop} {as:List α} {bs:List β} (h:Al2 p as bs) {a:α} {b:β} (x:p a b):Al2 p (as++[a]) (bs++[b]):=by
  induction h with
  | nil => exact .cons x .nil
  | cons h1 _ ih => exact .cons h1 ih
theorem src_r (h:H) (k:IntKind) (x:Int) (a:Option (Nat × Nat)) (n:Nat) (c:Option Nat) (e:Nat):srcCells (h.new (.cells [.int k x,.slice a n c e] .rw)) 2 (.slice (some (h.next,0)) 1 (some 1) 2)=some (1,[.int k x,.slice a n c e]):=by
  rw [m_src,h_new_same]; rfl
theorem rap_row (lo:Nat) (h:H) (hlo:lo≤h.next) (dn:List Rq) (hd:dn.length≤1000000) (a:Option (Nat × Nat)) (c:Option Nat) (e:Nat) (r:RrF lo h dn a c e) (o:Rq) (b:Option (Nat × Nat)) (cb:Option Nat) (eb:Nat) (hs:Ow h o.l b eb) (hb:o.l≠[]→∀ q z,b=some (q,z)→lo≤q∧a≠some (q,0)) :
    ∃ h',appendC h 2 32 (.slice a dn.length c e) (some (1,[.int .i64 o.kind,.slice b o.l.length cb eb]))=some (.slice (some (h.next,0)) (dn.length+1) none 2,h')∧RrF lo h' (dn++[o]) (some (h.next,0)) none 2∧h'.next=h.next+1∧∀ i,i < h.next→a≠some (i,0)→h'.get i=h.get i:=by
  obtain ⟨P,eP⟩:∃ P:List V,[.int .i64 o.kind,.slice b o.l.length cb eb]=P:=⟨_,rfl⟩
  have pl:P.all plainV=true:=by rw [← eP]; rfl
  have lP:P.length=2:=by rw [← eP]; rfl
  have hbn:o.l≠[]→∀ q z,b=some (q,z)→q < h.next:=fun hl q z eq => by
    rcases hs with s | ⟨bi,m,h1,h2,_,_,h3⟩
    · exact absurd s hl
    · rw [h1] at eq; cases eq; exact h3
  rw [eP]
  rcases r with ⟨rfl,rfl,rfl,rfl⟩ | ⟨h1,q,md,ps,rfl,rfl,rfl,g,al,hm,hq,hl⟩
  · have k:Kp h (h.new (.cells P .rw)):=Kp.new _ _
    refine ⟨h.new (.cells P .rw),?_,.inr ⟨by simp,h.next,.rw,[P],rfl,rfl,rfl,by rw [h_new_same]; simp,.cons ⟨b,cb,eb,eP.symm,hs.kp k,fun hl q z eq => ⟨(hb hl q z eq).1,by have:=hbn hl q z eq; omega⟩⟩ .nil,rfl,Nat.lt_succ_self _,hlo⟩,rfl,fun i hi _ => h_new_ne _ _ (by omega)⟩
    unfold appendC
    simp only [List.length_nil]
    rw [pl]; rfl
  · have lp:ps.flatten.length=dn.length * 2:=by rw [flat_len (k:=2) (ral_len2 al),al.len]
    have nx:((h.del q).new (.cells (ps.flatten++P) .sh)).next=h.next+1:=by simp only [h_next_new,h_next_del]
    have fr:∀ i,i < h.next→i≠q→((h.del q).new (.cells (ps.flatten++P) .sh)).get i=h.get i:=fun i hi hne => by
      rw [h_new_ne _ _ (by rw [h_next_del]; omega),h_del_ne _ (fun e => hne e.symm)]
    have al2:Al2 (RqF lo h.next ((h.del q).new (.cells (ps.flatten++P) .sh))) (dn++[o]) (ps++[P]):=by
      have one:RqF lo h.next ((h.del q).new (.cells (ps.flatten++P) .sh)) o P:=by
        refine ⟨b,cb,eb,eP.symm,?_,fun hl q z eq => ⟨(hb hl q z eq).1,by have:=hbn hl q z eq; omega⟩⟩
        by_cases ol:o.l=[]
        · exact .inl ol
        · rcases hs with s | ⟨bi,m,f1,f2,f4,f5,f3⟩
          · exact .inl s
          · exact .inr ⟨bi,m,f1,f2,by rw [fr _ f3 (fun e => (hb ol bi 0 f1).2 (by rw [e])),f4],f5,by rw [nx]; omega⟩
      have al3:Al2 (RqF lo h.next ((h.del q).new (.cells (ps.flatten++P) .sh))) dn ps:=al.imp (fun o' p' y => by
        obtain ⟨a',c',e',ep,s,d⟩:=y
        refine ⟨a',c',e',ep,?_,fun hl b' z eq => ⟨(d hl b' z eq).1,?_⟩⟩
        · by_cases ol:o'.l=[]
          · exact .inl ol
          · rcases s with s | ⟨bi,m,f1,f2,f4,f5,f3⟩
            · exact .inl s
            · exact .inr ⟨bi,m,f1,f2,by rw [fr _ f3 (d ol bi 0 f1).2,f4],f5,by rw [nx]; omega⟩
        · rcases s with s | ⟨bi,m,f1,f2,f4,f5,f3⟩
          · exact absurd s hl
          · rw [f1] at eq; cases eq; omega)
      exact al3.snoc one
    refine ⟨(h.del q).new (.cells (ps.flatten++P) .sh),?_,.inr ⟨by simp,h.next,.sh,ps++[P],rfl,rfl,rfl,by rw [h_new_same' _ _ (by rw [h_next_del])]; simp,al2,rfl,by rw [nx]; omega,hlo⟩,nx,fun i hi hne => fr i hi (fun e => hne (by rw [e]))⟩
    unfold appendC
    simp only
    have r:(roomy (dn.length+1) 32 && (Nat.beq 2 2 || (some (q,0):Option (Nat × Nat)).isNone) && P.all plainV)=true:=by
      rw [pl]; have:roomy (dn.length+1) 32=true:=by simp [roomy]; omega
      rw [this]; rfl
    have f:fullC none (dn.length+1)=false:=rfl
    have rd:=readN_of ps.flatten 0 (dn.length * 2) (by omega)
    rw [List.drop_zero,List.take_of_length_le (by omega)] at rd
    rw [r]
    simp only [_root_.cond_true,g,f]
    cases md with
    | ro => cases hm
    | rw => simp only [rd]
    | sh => simp only [rd]
end Go.Eng
namespace Go.Eng
open Go
set_option linter.unusedSimpArgs false
set_option linter.unusedVariables false
/-! a run of turned bits is found: a step with no bit loses nothing -/
/-- the lowest k bits,the lowest first -/
def bits:Nat→Nat→List Nat
  | 0,_ => []
  | k+1,t => t % 2 :: bits k (t / 2)
end Go.Eng
namespace Go.Eng
open Go
variable {E:Nat→Option Fn} {X:Orc}
set_option linter.unusedSimpArgs false
set_option linter.unusedVariables false
theorem RrF.lo {lo lo2:Nat} {h:H} {dn:List Rq} {a:Option (Nat × Nat)} {c:Option Nat} {e:Nat} (r:RrF lo h dn a c e) (hl:lo2≤lo):RrF lo2 h dn a c e:=by
  rcases r with r | ⟨h1,q,md,ps,e1,e2,e3,g,al,hm,hq,hlo⟩
  · exact .inl r
  · exact .inr ⟨h1,q,md,ps,e1,e2,e3,g,al.imp (fun o p y => by
      obtain ⟨a',c',e',ep,sr,d⟩:=y
      exact ⟨a',c',e',ep,sr,fun hl' b z eq => ⟨by have:=(d hl' b z eq).1; omega,(d hl' b z eq).2⟩⟩),hm,hq,by omega⟩
theorem vb_i64 (n:Int):(V.int .i64 n).beq (V.int .i64 n)=true:=by
  unfold V.beq; rw [kindEq_self,ieq_dec]; simp
theorem RrF.row {lo:Nat} {h:H} {dn:List Rq} {a:Option (Nat × Nat)} {c:Option Nat} {e:Nat} (r:RrF lo h dn a c e):RrS h dn a e:=by
  rcases r with ⟨r,_⟩ | ⟨h1,q,md,ps,e1,e2,e3,g,al,hm,hq,hl⟩
  · exact .inl r
  · refine .inr ⟨q,0,_,md,e1,e3,hq,g,by rw [flat_len (k:=2) (ral_len2 al),al.len]; omega,fun i o ho => ?_⟩
    obtain ⟨p,hp,b,cb,eb,rfl,s,_⟩:=al.get i o ho
    exact ⟨b,cb,eb,by rw [Nat.zero_add]; exact flat_get (ral_len2 al) i _ hp,s.src⟩
theorem bequal_go (e:E k_bytes_Equal=some f_bytes_Equal) (x:∀ a h,X (.fn k_bytes_Equal) a h=none) (N:Nat) (l m:List Nat) (bl:byt l=true) (bm:byt m=true) (a b:Option (Nat × Nat)) (c d:Option Nat) (ea eb:Nat) (h:H) (sl:SrcH h a ea l) (sm:SrcH h b eb m) :
    callX E X (N+1) (.fn k_bytes_Equal) [.slice a l.length c ea,.slice b m.length d eb] h=some (.bool (decide (l=m)),h):=by
  rw [x_cfn e _ _ (Nat.le_of_ble_eq_true rfl) (x _ _)]
  have s1:=str_src sl bl c
  have s2:=str_src sm bm d
  generalize l.length=n at *
  generalize m.length=k at *
  simp (config:={maxSteps:=2000000}) (disch:=first | omega | (simp only [List.length_cons,List.length_nil,List.length_append,List.length_drop]; omega)) only [s1,s2,b_seq,↓ns_b2s,Nat.zero_add,s_res0,↓s_ops,↓s_seq,↓s_ret,↓s_nil,↓s_op,↓s_bindS,s_bindS,↓s_bindE,s_bindE,s_norm,↓s_getp,↓s_get,↓s_con,↓s_list0,↓s_list1,↓s_mov,↓s_bin,s_same,s_end,s_res0,s_res1,s_tup1,↓iteN_true,↓iteN_false,iteN_true,iteN_false,Nat.zero_add,Nat.reduceEqDiff,decide_true,decide_false]
theorem eq_or:∀ (as bs:List Rq),as.length=bs.length→as=bs∨∃ (j:Nat) (o p:Rq),as[j]?=some o∧bs[j]?=some p∧o≠p∧∀ (i:Nat) (o' p':Rq),i < j→as[i]?=some o'→bs[i]?=some p'→o'=p':=by
  intro as
  induction as with
  | nil => intro bs h; left; exact (List.length_eq_zero_iff.1 h.symm).symm
  | cons a r ih =>
    intro bs h
    cases bs with
    | nil => cases h
    | cons b s =>
      by_cases ab:a=b
      · rcases ih s (by simpa using h) with e | ⟨j,o,p,h1,h2,h3,h4⟩
        · left; rw [ab,e]
        · refine .inr ⟨j+1,o,p,by simpa using h1,by simpa using h2,h3,fun i o' p' hi ho hp => ?_⟩
          cases i with
          | zero => simp at ho hp; rw [← ho,← hp]; exact ab
          | succ i => simp at ho hp; exact h4 i o' p' (by omega) ho hp
      · exact .inr ⟨0,a,b,rfl,rfl,ab,fun i _ _ hi => by omega⟩
structure GrI (v:V) (n:Nat) (h0:H) (i:Nat) (T:Tr V) (h:H):Prop where
  il:i≤n
  t0:evO T (.t 0)=v
  t3:evO T (.t 3)=.int .i64 (i:Int)
  hh:h=h0
def grR (ops:List Rq):Bool:=decide (60 < ops.length) || ops.any (fun o => decide (500 < o.l.length))
theorem gr_or (ops:List Rq):(∀ o ∈ ops,¬ 500 < o.l.length)∨∃ (j:Nat) (o:Rq),ops[j]?=some o∧500 < o.l.length∧∀ (i:Nat) (o':Rq),i < j→ops[i]?=some o'→¬ 500 < o'.l.length:=by
  induction ops with
  | nil => exact .inl (fun o ho => by cases ho)
  | cons a r ih =>
    by_cases ha:500 < a.l.length
    · exact .inr ⟨0,a,rfl,ha,fun i o' hi => by omega⟩
    · rcases ih with ih | ⟨j,o,h1,h2,h3⟩
      · exact .inl (fun o ho => by rcases List.mem_cons.1 ho with rfl | ho; exact ha; exact ih o ho)
      · refine .inr ⟨j+1,o,by simpa using h1,h2,fun i o' hi ho => ?_⟩
        cases i with
        | zero => simp at ho; subst ho; exact ha
        | succ i => simp at ho; exact h3 i o' (by omega) ho
theorem great_go (e:E k_purserref16_Great=some f_purserref16_Great) (x:∀ a h,X (.fn k_purserref16_Great) a h=none) (M:Nat) (hM:100 < M) (ops:List Rq) (hb:ops.length < 9223372036854775807) (a:Option (Nat × Nat)) (c:Option Nat) (ez:Nat) (h:H) (row:RrS h ops a ez) :
    callX E X (M+1) (.fn k_purserref16_Great) [.slice a ops.length c ez] h=some (.int .i64 (if grR ops=true then 1 else 0),h):=by
  rw [x_cfn e _ _ (Nat.le_of_ble_eq_true rfl) (x _ _)]
  unfold grR
  by_cases hl:60 < ops.length
  · have d0:decide ((60:Int) < (ops.length:Int))=true:=decide_eq_true (by omega)
    rw [decide_eq_true hl,Bool.true_or,if_pos rfl]
    generalize ops.length=n at *
    simp (config:={maxSteps:=2000000}) (disch:=first | omega | (simp only [List.length_cons,List.length_nil,List.length_append,List.length_drop]; omega)) only [d0,↓s_len,x_lenS,x_lenS,↓s_len,s_res0,↓s_ops,↓s_seq,↓s_cond,↓s_ret,↓s_nil,↓s_op,↓s_bindS,s_bindS,↓s_bindE,s_bindE,s_bindE_ret,s_norm,↓s_condV,s_condV,↓s_getp,↓s_get,↓s_con,↓s_list0,↓s_list1,↓s_mov,↓s_bin,s_same,b_gtr,s_end,s_res0,s_res1,s_tup1,↓iteN_true,↓iteN_false,iteN_true,iteN_false,Nat.reduceEqDiff,decide_true,decide_false]
    try rfl
  rw [decide_eq_false hl,Bool.false_or]
  have d0:decide ((60:Int) < (ops.length:Int))=false:=decide_eq_false (by omega)
  have fin:∀ T,GrI (.slice a ops.length c ez) ops.length h 0 T h→fnEnd [.tmp 2] (bindE (blockE 0 (loopN (evC (callX E X M) 20 M none L_purserref16_Great_0) M ⟨T,[],h⟩)) (evC (callX E X M) 20 M none R_purserref16_Great_0))=some (.int .i64 (if (ops.any (fun o => decide (500 < o.l.length)))=true then 1 else 0),h):=by
    intro T I
    have step:∀ (i:Nat) (T:Tr V) (h':H) (o:Rq),ops[i]?=some o→¬ 500 < o.l.length→GrI (.slice a ops.length c ez) ops.length h i T h'→∃ T' h'',evC (callX E X M) 20 M none L_purserref16_Great_0 ⟨T,[],h'⟩=some (.normal,⟨T',[],h''⟩)∧GrI (.slice a ops.length c ez) ops.length h (i+1) T' h'':=by
      intro i T h' o ho hv ⟨_,t0,t3,hh⟩
      subst hh
      have hi:i < ops.length:=(List.getElem?_eq_some_iff.1 ho).1
      have c0:decide ((i:Int) < (ops.length:Int))=true:=decide_eq_true (by omega)
      have wi:wr .i64 ((i:Int)+1)=((i+1:Nat):Int):=by rw [wr_i64 (by omega)]; omega
      have ix:idx (i:Int) ops.length=some i:=idxn hi
      obtain ⟨q,off,vs,md,b,cb,eb,rfl,rfl,hq,g,ld,sb,cg⟩:=rr_at row i o ho
      rw [Nat.add_assoc] at cg
      have d1:decide ((500:Int) < (o.l.length:Int))=false:=decide_eq_false (by omega)
      have i1:i+1≤ops.length:=hi
      generalize o.l.length=w at *
      obtain ⟨n,en⟩:∃ n,ops.length=n:=⟨_,rfl⟩
      rw [en] at t0 c0 ix
      refine ⟨_,_,by
        simp (config:={maxSteps:=2000000}) (disch:=first | omega | (simp only [List.length_cons,List.length_nil,List.length_append,List.length_drop]; omega)) only [L_purserref16_Great_0,t0,t3,g,cg,c0,wi,ix,d1,↓s_len,x_lenS,↓x_fieldAddr,x_fieldV,Nat.add_assoc,↓s_load,m_load,↓m_load1,m_load1,↓x_idxS,x_idxSE,x_addrE,x_lenS,↓s_len,↓s_skip,↓s_ops,↓s_seq,↓s_cond,↓s_block,↓s_nil,↓s_op,↓s_bindS,s_bindS,↓s_bindE,s_bindE,s_norm,↓s_condV,s_condV,s_block_normal,↓s_getp,↓s_con,↓s_mov,↓s_bin,s_same,b_lss,b_gtr,b_add,↓iteN_true,↓iteN_false,iteN_true,iteN_false,Nat.reduceEqDiff,decide_true,decide_false]
        exact rfl,⟨i1,by rw [en]; exact (by (simp only [s_getp,Nat.reduceEqDiff,decide_false,iteN_false,t0]; try rfl)),(by (simp only [s_getp,decide_true,iteN_true]; try rfl)),rfl⟩⟩
    rcases gr_or ops with hall | ⟨j,o,h1,h2,h3⟩
    · have e0:ops.any (fun o => decide (500 < o.l.length))=false:=List.any_eq_false.2 (fun o ho => by have:=hall o ho; simp; omega)
      rw [e0,if_neg (by simp)]
      obtain ⟨T',h',r,hh⟩:=loop_go (f:=evC (callX E X M) 20 M none L_purserref16_Great_0) (GrI (.slice a ops.length c ez) ops.length h) ops.length (.exit 0) (by intro h; cases h) (fun T h' => h'=h) (fun i T h' hi I => step i T h' _ (List.getElem?_eq_getElem hi) (hall _ (List.getElem_mem hi)) I) (fun T h' I => by
        obtain ⟨il,t0,t3,hh⟩:=I
        have c0:decide ((ops.length:Int) < (ops.length:Int))=false:=decide_eq_false (by omega)
        obtain ⟨n,en⟩:∃ n,ops.length=n:=⟨_,rfl⟩
        rw [en] at t0 t3 c0
        refine ⟨_,_,by
          simp (config:={maxSteps:=2000000}) (disch:=first | omega | (simp only [List.length_cons,List.length_nil,List.length_append,List.length_drop]; omega)) only [L_purserref16_Great_0,t0,t3,c0,↓s_len,x_lenS,x_lenS,↓s_len,↓s_ops,↓s_seq,↓s_cond,↓s_exit,↓s_nil,↓s_op,↓s_bindS,s_bindS,↓s_bindE,s_bindE,s_bindE_exit,s_norm,↓s_condV,s_condV,↓s_getp,↓s_mov,↓s_bin,s_same,b_lss,↓iteN_true,↓iteN_false,iteN_true,iteN_false,Nat.reduceEqDiff,decide_true,decide_false]
          exact rfl,hh⟩) ops.length 0 (by omega) M (by omega) T h I
      rw [r,hh]
      simp (config:={maxSteps:=2000000}) (disch:=first | omega | (simp only [List.length_cons,List.length_nil,List.length_append,List.length_drop]; omega)) only [R_purserref16_Great_0,s_res0,↓s_ops,↓s_seq,↓s_ret,↓s_nil,↓s_op,↓s_bindS,s_bindS,↓s_bindE,s_bindE,s_norm,s_block_exit,↓s_getp,↓s_con,↓s_mov,s_end,s_res0,s_res1,s_tup1,↓iteN_true,iteN_true,decide_true,if_true]
      try rfl
    · have e0:ops.any (fun o => decide (500 < o.l.length))=true:=List.any_eq_true.2 ⟨o,List.mem_of_getElem? h1,by simpa using h2⟩
      rw [e0,if_pos rfl]
      have hj:j < ops.length:=(List.getElem?_eq_some_iff.1 h1).1
      obtain ⟨T',h',r,t2,hh⟩:=loop_go (f:=evC (callX E X M) 20 M none L_purserref16_Great_0) (GrI (.slice a ops.length c ez) ops.length h) j .ret (by intro h; cases h) (fun T h' => evO T (.t 2)=.int .i64 1∧h'=h) (fun i T h' hi I => step i T h' _ (List.getElem?_eq_getElem (by omega)) (h3 i _ hi (List.getElem?_eq_getElem (by omega))) I) (fun T h' I => by
        obtain ⟨il,t0,t3,hh⟩:=I
        subst hh
        have c0:decide ((j:Int) < (ops.length:Int))=true:=decide_eq_true (by omega)
        have ix:idx (j:Int) ops.length=some j:=idxn hj
        obtain ⟨q,off,vs,md,b,cb,eb,rfl,rfl,hq,g,ld,sb,cg⟩:=rr_at row j o h1
        rw [Nat.add_assoc] at cg
        have d1:decide ((500:Int) < (o.l.length:Int))=true:=decide_eq_true (by omega)
        generalize o.l.length=w at *
        obtain ⟨n,en⟩:∃ n,ops.length=n:=⟨_,rfl⟩
        rw [en] at t0 c0 ix
        refine ⟨_,_,by
          simp (config:={maxSteps:=2000000}) (disch:=first | omega | (simp only [List.length_cons,List.length_nil,List.length_append,List.length_drop]; omega)) only [L_purserref16_Great_0,t0,t3,g,cg,c0,ix,d1,↓s_len,x_lenS,↓x_fieldAddr,x_fieldV,Nat.add_assoc,↓s_load,m_load,↓m_load1,m_load1,↓x_idxS,x_idxSE,x_addrE,x_lenS,↓s_len,↓s_skip,↓s_ops,↓s_seq,↓s_cond,↓s_block,↓s_ret,↓s_nil,↓s_op,↓s_bindS,s_bindS,↓s_bindE,s_bindE,s_bindE_ret,s_norm,↓s_condV,s_condV,s_block_ret,↓s_getp,↓s_con,↓s_mov,↓s_bin,s_same,b_lss,b_gtr,↓iteN_true,↓iteN_false,iteN_true,iteN_false,Nat.reduceEqDiff,decide_true,decide_false]
          exact rfl,(by (simp only [s_getp,decide_true,iteN_true]; try rfl)),rfl⟩) j 0 (by omega) M (by omega) T h I
      rw [r,hh]
      simp (config:={maxSteps:=2000000}) (disch:=first | omega | (simp only [List.length_cons,List.length_nil,List.length_append,List.length_drop]; omega)) only [t2,s_res0,s_bindE_ret,s_block_ret,s_end,s_res0,s_res1,s_tup1]
      try rfl
  obtain ⟨R,eR⟩:∃ R,R_purserref16_Great_0=R:=⟨_,rfl⟩
  obtain ⟨Lo,eL⟩:∃ R,L_purserref16_Great_0=R:=⟨_,rfl⟩
  rw [eR,eL] at fin ⊢
  simp (config:={maxSteps:=2000000}) (disch:=first | omega | (simp only [List.length_cons,List.length_nil,List.length_append,List.length_drop]; omega)) only [d0,↓s_len,x_lenS,↓l_loop,x_lenS,↓s_len,↓s_skip,↓s_ops,↓s_seq,↓s_cond,↓s_block,↓s_nil,↓s_op,↓s_bindS,s_bindS,↓s_bindE,s_bindE,s_norm,↓s_condV,s_condV,↓s_getp,↓s_get,↓s_con,↓s_list0,↓s_list1,↓s_mov,↓s_bin,s_same,b_gtr,↓iteN_true,↓iteN_false,iteN_true,iteN_false,Nat.reduceEqDiff,decide_true,decide_false]
  exact fin _ ⟨by omega,(by (simp only [s_getp,Nat.reduceEqDiff,decide_false,iteN_false]; try rfl)),(by (simp only [s_getp,decide_true,iteN_true]; try rfl)),rfl⟩
/-! bytes of records -/
theorem rB_cons (o:Rq) (r:List Rq):rB (o :: r)=rqB o++rB r:=by unfold rB; rw [List.map_cons,List.flatten_cons]
theorem rB_app (a b:List Rq):rB (a++b)=rB a++rB b:=by unfold rB; rw [List.map_append,List.flatten_append]
theorem rqB_byt (o:Rq) (h:rqOk o=true) (ok:o.ok):byt (rqB o)=true:=by
  unfold rqOk at h
  simp only [Bool.and_eq_true,decide_eq_true_eq] at h
  unfold rqB mkB4
  refine byt_app (byt_app (byt_iff.2 (fun y hy => ?_)) (leN_byt _ _)) (byt_app ok.bl (leN_byt _ _))
  rcases List.mem_cons.1 hy with rfl | hy
  · omega
  · exact byt_iff.1 (leN_byt 4 _) y hy
theorem rB_byt (ops:List Rq) (hv:∀ o ∈ ops,rqOk o=true) (ok:∀ o ∈ ops,o.ok):byt (rB ops)=true:=by
  induction ops with
  | nil => rfl
  | cons a r ih => rw [rB_cons]; exact byt_app (rqB_byt a (hv a (List.mem_cons_self ..)) (ok a (List.mem_cons_self ..))) (ih (fun o ho => hv o (List.mem_cons_of_mem _ ho)) (fun o ho => ok o (List.mem_cons_of_mem _ ho)))
theorem rB_ge (ops:List Rq):13 * ops.length≤(rB ops).length:=by
  induction ops with
  | nil => exact Nat.zero_le _
  | cons a r ih => rw [rB_cons,List.length_append,rqB_len,List.length_cons]; omega
theorem RqsH.row {h:H} {a:Option (Nat × Nat)} {ops:List Rq} (r:RqsH h a ops):RrS h ops a 2:=by
  obtain ⟨parts,al,r⟩:=r
  have pl:∀ p ∈ parts,p.length=2:=by
    clear r
    induction al with
    | nil => intro p hp; cases hp
    | cons h1 _ ih => intro p hp; rcases List.mem_cons.1 hp with rfl | hp
                      · obtain ⟨a,rfl,_⟩:=h1; rfl
                      · exact ih p hp
  rcases r with r | ⟨k,md,rfl,hk,g⟩
  · exact .inl r
  · refine .inr ⟨k,0,_,md,rfl,rfl,hk,g,by rw [flat_len (k:=2) pl,al.len]; omega,fun i o ho => ?_⟩
    obtain ⟨p,hp,b,rfl,s⟩:=al.get i o ho
    exact ⟨b,none,1,by rw [Nat.zero_add]; exact flat_get pl i _ hp,s⟩
theorem rr_at2 {h:H} {ops:List Rq} {a:Option (Nat × Nat)} {e:Nat} (r:RrS h ops a e) (i:Nat) (o:Rq) (ho:ops[i]?=some o):∃ q off vs md b cb eb,a=some (q,off)∧e=2∧q < h.next∧h.get q=some (.cells vs md)∧vs[off+i * 2]?=some (.int .i64 o.kind)∧vs[off+(i * 2+1)]?=some (.slice b o.l.length cb eb)∧SrcH h b eb o.l:=by
  rcases r with r | ⟨q,off,vs,md,e1,e2,hq,g,hl,at_⟩
  · rw [r] at ho; simp at ho
  · obtain ⟨b,cb,eb,e3,s⟩:=at_ i o ho
    have h0:((vs.drop (off+i * 2)).take 2)[0]?=some (.int .i64 o.kind):=by rw [e3]; rfl
    have h1:((vs.drop (off+i * 2)).take 2)[1]?=some (.slice b o.l.length cb eb):=by rw [e3]; rfl
    rw [List.getElem?_take_of_lt (by omega),List.getElem?_drop] at h0 h1
    exact ⟨q,off,vs,md,b,cb,eb,e1,e2,hq,g,h0,by rw [Nat.add_assoc] at h1; exact h1,s⟩
structure DsI (va vb:V) (n:Nat) (h0:H) (i:Nat) (T:Tr V) (h:H):Prop where
  il:i≤n
  t0:evO T (.t 0)=va
  t1:evO T (.t 1)=vb
  t5:evO T (.t 5)=.int .i64 (i:Int)
  hh:h=h0
theorem ds_round (Q:Orc) (m:Nat) (as bs:List Rq) (hl:as.length=bs.length) (hn:as.length≤1000000) (ok:∀ o ∈ as,o.ok) (pk:∀ o ∈ bs,o.ok) (a b:Option (Nat × Nat)) (c d:Option Nat) (ea eb:Nat) (h0:H) (ra:RrS h0 as a ea) (rb:RrS h0 bs b eb) (i:Nat) (T:Tr V) (h:H) (o p:Rq) (ho:as[i]?=some o) (hp:bs[i]?=some p) (I:DsI (.slice a as.length c ea) (.slice b bs.length d eb) as.length h0 i T h) :
    ∃ T',(o=p→evC Q 43 m none L_purserref16_Same_0 ⟨T,[],h⟩=some (.normal,⟨T',[],h⟩)∧DsI (.slice a as.length c ea) (.slice b bs.length d eb) as.length h0 (i+1) T' h)∧(o≠p→evC Q 43 m none L_purserref16_Same_0 ⟨T,[],h⟩=some (.ret,⟨T',[],h⟩)∧evO T' (.t 4)=.bool false):=by
  have hi:i < as.length:=(List.getElem?_eq_some_iff.1 ho).1
  obtain ⟨_,t0,t1,t5,rfl⟩:=I
  have c0:decide ((i:Int) < (as.length:Int))=true:=decide_eq_true (by omega)
  have wi:wr .i64 ((i:Int)+1)=((i+1:Nat):Int):=by rw [wr_i64 (by omega)]; omega
  have ix:idx (i:Int) as.length=some i:=idxn hi
  have ix2:idx (i:Int) bs.length=some i:=idxn (by omega)
  obtain ⟨q,off,vs,md,b1,cb1,eb1,rfl,rfl,hq,gq',cg0,cg1,sb⟩:=rr_at2 ra i o ho
  obtain ⟨q2,off2,vs2,md2,b2,cb2,eb2,rfl,rfl,hq2,gq2,cg2,cg3,sb2⟩:=rr_at2 rb i p hp
  have ok1:=ok o (List.mem_of_getElem? ho)
  have pk1:=pk p (List.mem_of_getElem? hp)
  have s1:=str_src sb ok1.bl cb1
  have s2:=str_src sb2 pk1.bl cb2
  have i1:i+1≤as.length:=hi
  obtain ⟨n,en⟩:∃ n,as.length=n:=⟨_,rfl⟩
  obtain ⟨n2,en2⟩:∃ n,bs.length=n:=⟨_,rfl⟩
  obtain ⟨l1,el1⟩:∃ n,o.l.length=n:=⟨_,rfl⟩
  obtain ⟨l2,el2⟩:∃ n,p.l.length=n:=⟨_,rfl⟩
  rw [en] at t0 c0 ix
  rw [en2] at t1 ix2
  rw [el1] at cg1 s1
  rw [el2] at cg3 s2
  by_cases ec:o.kind=p.kind
  · have d0:decide (o.kind=p.kind)=true:=decide_eq_true ec
    by_cases elo:o.l=p.l
    · have eo:o=p:=by cases o; cases p; simp_all
      have d1:decide (o.l=p.l)=true:=decide_eq_true elo
      obtain ⟨T',r,u0,u1,u5⟩:∃ T',evC Q 43 m none L_purserref16_Same_0 ⟨T,[],h⟩=some (.normal,⟨T',[],h⟩)∧evO T' (.t 0)=.slice (some (q,off)) n c 2∧evO T' (.t 1)=.slice (some (q2,off2)) n2 d 2∧evO T' (.t 5)=.int .i64 ((i+1:Nat):Int):=by
        exact ⟨_,by
          simp (config:={maxSteps:=2000000}) (disch:=first | omega | (simp only [List.length_cons,List.length_nil,List.length_append,List.length_drop]; omega)) only [L_purserref16_Same_0,t0,t1,t5,gq',gq2,cg0,cg1,cg2,cg3,s1,s2,d0,d1,c0,wi,ix,ix2,b_sneq,Bool.not_true,↓ns_b2s,↓s_len,x_lenS,↓x_fieldAddr,x_fieldV,Nat.add_zero,↓s_evD,↓s_dnil,↓s_dL,↓s_dLg,↓s_dR,↓s_dRg,↓s_bindD,s_bindD,s_finD,s_addP0,↓s_bump0,Nat.add_zero,Nat.add_assoc,↓s_load,m_load,↓m_load1,m_load1,↓x_idxS,x_idxSE,x_addrE,x_lenS,↓s_len,↓s_skip,↓s_ops,↓s_dops,↓s_seq,↓s_cond,↓s_block,↓s_nil,↓s_op,↓s_wanted',↓s_wantV,s_wantV,↓s_bindS,s_bindS,↓s_bindE,s_bindE,s_norm,↓s_condV,s_condV,s_block_normal,↓s_getp,↓s_con,↓s_mov,↓s_pick,↓s_pickE,s_pickE,↓s_bin,s_same,b_neq,b_lss,b_add,↓iteN_true,↓iteN_false,iteN_true,iteN_false,Nat.reduceEqDiff,decide_true,decide_false,Bool.not_true,beq_self_eq_true]
          exact rfl,(by (simp only [s_getp,Nat.reduceEqDiff,decide_false,iteN_false,t0]; try rfl)),(by (simp only [s_getp,Nat.reduceEqDiff,decide_false,iteN_false,t1]; try rfl)),(by (simp only [s_getp,decide_true,iteN_true]; try rfl))⟩
      exact ⟨T',fun _ => ⟨r,i1,by rw [en]; exact u0,by rw [en2]; exact u1,u5,rfl⟩,fun h => absurd eo h⟩
    · have hne:o≠p:=fun h => elo (by rw [h])
      have d1:decide (o.l=p.l)=false:=decide_eq_false elo
      obtain ⟨T',r,u4⟩:∃ T',evC Q 43 m none L_purserref16_Same_0 ⟨T,[],h⟩=some (.ret,⟨T',[],h⟩)∧evO T' (.t 4)=.bool false:=by
        exact ⟨_,by
          simp (config:={maxSteps:=2000000}) (disch:=first | omega | (simp only [List.length_cons,List.length_nil,List.length_append,List.length_drop]; omega)) only [L_purserref16_Same_0,t0,t1,t5,gq',gq2,cg0,cg1,cg2,cg3,s1,s2,d0,d1,c0,ix,ix2,b_sneq,Bool.not_true,Bool.not_false,↓ns_b2s,↓s_len,x_lenS,↓x_fieldAddr,x_fieldV,Nat.add_zero,↓s_evD,↓s_dnil,↓s_dL,↓s_dLg,↓s_dR,↓s_dRg,↓s_bindD,s_bindD,s_finD,s_addP0,↓s_bump0,Nat.add_zero,Nat.add_assoc,↓s_load,m_load,↓m_load1,m_load1,↓x_idxS,x_idxSE,x_addrE,x_lenS,↓s_len,↓s_skip,↓s_ops,↓s_dops,↓s_seq,↓s_cond,↓s_block,↓s_ret,↓s_nil,↓s_op,↓s_wanted',↓s_wantV,s_wantV,↓s_bindS,s_bindS,↓s_bindE,s_bindE,s_bindE_ret,s_norm,↓s_condV,s_condV,s_block_ret,↓s_getp,↓s_con,↓s_mov,↓s_pick,↓s_pickE,s_pickE,↓s_bin,s_same,b_neq,b_lss,↓iteN_true,↓iteN_false,iteN_true,iteN_false,Nat.reduceEqDiff,decide_true,decide_false,Bool.not_true,Bool.not_false,beq_self_eq_true]
          exact rfl,(by (simp only [s_getp,decide_true,iteN_true]; try rfl))⟩
      exact ⟨T',fun h => absurd h hne,fun _ => ⟨r,u4⟩⟩
  · have hne:o≠p:=fun h => ec (by rw [h])
    have d0:decide (o.kind=p.kind)=false:=decide_eq_false ec
    obtain ⟨T',r,u4⟩:∃ T',evC Q 43 m none L_purserref16_Same_0 ⟨T,[],h⟩=some (.ret,⟨T',[],h⟩)∧evO T' (.t 4)=.bool false:=by
      exact ⟨_,by
        simp (config:={maxSteps:=2000000}) (disch:=first | omega | (simp only [List.length_cons,List.length_nil,List.length_append,List.length_drop]; omega)) only [L_purserref16_Same_0,t0,t1,t5,gq',gq2,cg0,cg2,d0,c0,ix,ix2,Bool.not_true,Bool.not_false,↓s_len,x_lenS,↓x_fieldAddr,x_fieldV,Nat.add_zero,↓s_evD,↓s_dnil,↓s_dL,↓s_dLg,↓s_dR,↓s_dRg,↓s_bindD,s_bindD,s_finD,s_addP0,↓s_bump0,Nat.add_zero,↓s_load,m_load,↓m_load1,m_load1,↓x_idxS,x_idxSE,x_addrE,x_lenS,↓s_len,↓s_skip,↓s_ops,↓s_dops,↓s_seq,↓s_cond,↓s_block,↓s_ret,↓s_nil,↓s_op,↓s_wanted',↓s_wantV,s_wantV,beq_false,↓s_bindS,s_bindS,↓s_bindE,s_bindE,s_bindE_ret,s_norm,↓s_condV,s_condV,s_block_ret,↓s_getp,↓s_con,↓s_mov,↓s_pick,↓s_pickE,s_pickE,↓s_bin,s_same,b_neq,b_lss,↓iteN_true,↓iteN_false,iteN_true,iteN_false,Nat.reduceEqDiff,decide_true,decide_false,Bool.not_true,Bool.not_false]
        exact rfl,(by (simp only [s_getp,decide_true,iteN_true]; try rfl))⟩
    exact ⟨T',fun h => absurd h hne,fun _ => ⟨r,u4⟩⟩
theorem dsame_go (e:E k_purserref16_Same=some f_purserref16_Same) (x:∀ a h,X (.fn k_purserref16_Same) a h=none) (M:Nat) (as bs:List Rq) (hn:as.length≤1000000) (hM:as.length < M) (hbn:bs.length < 9223372036854775807) (ok:∀ o ∈ as,o.ok) (pk:∀ o ∈ bs,o.ok) (a b:Option (Nat × Nat)) (c d:Option Nat) (ea eb:Nat) (h:H) (ra:RrS h as a ea) (rb:RrS h bs b eb) :
    callX E X (M+1) (.fn k_purserref16_Same) [.slice a as.length c ea,.slice b bs.length d eb] h=some (.bool (decide (as=bs)),h):=by
  rw [x_cfn e _ _ (Nat.le_of_ble_eq_true rfl) (x _ _)]
  by_cases hl:as.length=bs.length
  · have fin:∀ T,DsI (.slice a as.length c ea) (.slice b bs.length d eb) as.length h 0 T h→fnEnd [.tmp 4] (bindE (blockE 0 (loopN (evC (callX E X M) 43 M none L_purserref16_Same_0) M ⟨T,[],h⟩)) (evC (callX E X M) 43 M none R_purserref16_Same_0))=some (.bool (decide (as=bs)),h):=by
      intro T I
      have get:∀ i,i < as.length→∃ o p,as[i]?=some o∧bs[i]?=some p:=fun i hi => ⟨_,_,List.getElem?_eq_getElem hi,List.getElem?_eq_getElem (by omega)⟩
      rcases eq_or as bs hl with eab | ⟨j,o,p,h1,h2,h3,h4⟩
      · rw [decide_eq_true eab]
        obtain ⟨T',h',rr,kp⟩:=loop_go (f:=evC (callX E X M) 43 M none L_purserref16_Same_0) (DsI (.slice a as.length c ea) (.slice b bs.length d eb) as.length h) as.length (.exit 0) (by intro h; cases h) (fun _ h' => h'=h) (fun i T h' hi I => by
          obtain ⟨o,p,ho,hp⟩:=get i hi
          obtain ⟨T',q,_⟩:=ds_round (callX E X M) M as bs hl hn ok pk a b c d ea eb h ra rb i T h' o p ho hp I
          rw [eab,hp] at ho
          cases ho
          exact ⟨T',h',q rfl⟩) (fun T h' I => by
          obtain ⟨il,t0,t1,t5,hh⟩:=I
          have c0:decide ((as.length:Int) < (as.length:Int))=false:=decide_eq_false (by omega)
          generalize as.length=n at *
          exact ⟨_,h',by
            simp (config:={maxSteps:=2000000}) (disch:=first | omega | (simp only [List.length_cons,List.length_nil,List.length_append,List.length_drop]; omega)) only [L_purserref16_Same_0,t0,t5,c0,↓s_len,x_lenS,x_lenS,↓s_len,↓s_ops,↓s_seq,↓s_cond,↓s_exit,↓s_nil,↓s_op,↓s_bindS,s_bindS,↓s_bindE,s_bindE,s_bindE_exit,s_norm,↓s_condV,s_condV,↓s_getp,↓s_mov,↓s_bin,s_same,b_lss,↓iteN_true,↓iteN_false,iteN_true,iteN_false,Nat.reduceEqDiff,decide_true,decide_false]
            exact rfl,hh⟩) as.length 0 (by omega) M (by omega) T h I
        rw [rr,kp]
        simp (config:={maxSteps:=2000000}) (disch:=first | omega | (simp only [List.length_cons,List.length_nil,List.length_append,List.length_drop]; omega)) only [R_purserref16_Same_0,s_res0,↓s_ops,↓s_seq,↓s_ret,↓s_nil,↓s_op,↓s_bindS,s_bindS,↓s_bindE,s_bindE,s_norm,s_block_exit,↓s_getp,↓s_con,↓s_mov,s_end,s_res0,s_res1,s_tup1,↓iteN_true,iteN_true,decide_true,if_true]
      · have hne:as≠bs:=fun e => h3 (by rw [e,h2] at h1; cases h1; rfl)
        rw [decide_eq_false hne]
        have hj:j < as.length:=(List.getElem?_eq_some_iff.1 h1).1
        obtain ⟨T',h',rr,u4,kp⟩:=loop_go (f:=evC (callX E X M) 43 M none L_purserref16_Same_0) (DsI (.slice a as.length c ea) (.slice b bs.length d eb) as.length h) j .ret (by intro h; cases h) (fun T h' => evO T (.t 4)=.bool false∧h'=h) (fun i T h' hi I => by
          obtain ⟨o,p,ho,hp⟩:=get i (by omega)
          obtain ⟨T',q,_⟩:=ds_round (callX E X M) M as bs hl hn ok pk a b c d ea eb h ra rb i T h' o p ho hp I
          exact ⟨T',h',q (h4 i o p hi ho hp)⟩) (fun T h' I => by
          obtain ⟨T',_,q⟩:=ds_round (callX E X M) M as bs hl hn ok pk a b c d ea eb h ra rb j T h' o p h1 h2 I
          obtain ⟨q1,q2⟩:=q h3
          exact ⟨T',h',q1,q2,I.hh⟩) j 0 (by omega) M (by omega) T h I
        rw [rr,kp]
        simp (config:={maxSteps:=2000000}) (disch:=first | omega | (simp only [List.length_cons,List.length_nil,List.length_append,List.length_drop]; omega)) only [u4,s_res0,s_bindE_ret,s_block_ret,s_end,s_res0,s_res1,s_tup1]
    have c1:(!decide ((as.length:Int)=(bs.length:Int)))=false:=by rw [decide_eq_true (by omega)]; rfl
    obtain ⟨R,eR⟩:∃ R,R_purserref16_Same_0=R:=⟨_,rfl⟩
    obtain ⟨Lo,eL⟩:∃ R,L_purserref16_Same_0=R:=⟨_,rfl⟩
    rw [eR,eL] at fin ⊢
    obtain ⟨n,en⟩:∃ n,as.length=n:=⟨_,rfl⟩
    obtain ⟨n2,en2⟩:∃ n,bs.length=n:=⟨_,rfl⟩
    rw [en,en2] at c1 fin ⊢
    simp (config:={maxSteps:=2000000}) (disch:=first | omega | (simp only [List.length_cons,List.length_nil,List.length_append,List.length_drop]; omega)) only [c1,↓s_len,x_lenS,Nat.zero_add,↓l_loop,x_lenS,↓s_len,↓s_skip,↓s_ops,↓s_seq,↓s_cond,↓s_block,↓s_nil,↓s_op,↓s_bindS,s_bindS,↓s_bindE,s_bindE,s_norm,↓s_condV,s_condV,↓s_getp,↓s_get,↓s_con,↓s_list0,↓s_list1,↓s_mov,↓s_bin,s_same,b_neq,↓iteN_true,↓iteN_false,iteN_true,iteN_false,Nat.zero_add,Nat.reduceEqDiff,decide_true,decide_false]
    exact fin _ ⟨Nat.zero_le _,(by (simp only [s_getp,Nat.reduceEqDiff,decide_false,iteN_false]; try rfl)),(by (simp only [s_getp,Nat.reduceEqDiff,decide_false,iteN_false]; try rfl)),(by (simp only [s_getp,decide_true,iteN_true]; try rfl)),rfl⟩
  · rw [decide_eq_false (fun e => hl (by rw [e]))]
    have c1:(!decide ((as.length:Int)=(bs.length:Int)))=true:=by rw [decide_eq_false (by omega)]; rfl
    obtain ⟨Lo,eL⟩:∃ R,L_purserref16_Same_0=R:=⟨_,rfl⟩
    rw [eL]
    generalize as.length=n at *
    generalize bs.length=n2 at *
    simp (config:={maxSteps:=2000000}) (disch:=first | omega | (simp only [List.length_cons,List.length_nil,List.length_append,List.length_drop]; omega)) only [c1,↓s_len,x_lenS,Nat.zero_add,x_lenS,↓s_len,s_res0,↓s_ops,↓s_seq,↓s_cond,↓s_ret,↓s_nil,↓s_op,↓s_bindS,s_bindS,↓s_bindE,s_bindE,s_bindE_ret,s_norm,↓s_condV,s_condV,↓s_getp,↓s_get,↓s_con,↓s_list0,↓s_list1,↓s_mov,↓s_bin,s_same,b_neq,s_end,s_res0,s_res1,s_tup1,↓iteN_true,↓iteN_false,iteN_true,iteN_false,Nat.zero_add,Nat.reduceEqDiff,decide_true,decide_false]
theorem Nw.ap {h0 h:H} {w:List Nat} {a:Option (Nat × Nat)} {c:Option Nat} {e:Nat} (n:Nw h0 h w a c e) (l:List Nat) (hl:w.length+l.length≤1000000):∃ a' c' e' h',appendC h 1 1 (.slice a w.length c e) (some (l.length,ofI .u8 l))=some (.slice a' (w++l).length c' e',h')∧Nw h0 h' (w++l) a' c' e'∧h.next≤h'.next∧(∀ i,i < h.next→a≠some (i,0)→h'.get i=h.get i)∧(a'=a∨a'=some (h.next,0)):=by
  obtain ⟨a',c',e',h',r,wb,nx,fr,ow⟩:=ap_wb h w l a c e n.wb hl
  have k:=n.kp.1
  refine ⟨a',c',e',h',r,⟨⟨by omega,fun i hi => by rw [fr i (by omega) (fun e => by have:=n.ge _ _ e; omega),n.kp.2 _ hi]⟩,wb,fun q z e => ?_⟩,nx,fr,ow⟩
  rcases ow with o | o
  · exact n.ge q z (by rw [← o]; exact e)
  · rw [o] at e; cases e; exact k
theorem Nw.more {h0 h h':H} {w:List Nat} {a:Option (Nat × Nat)} {c:Option Nat} {e:Nat} (n:Nw h0 h w a c e) (k:Kp h h'):Nw h0 h' w a c e:=⟨n.kp.trans k,n.wb.kp k,n.ge⟩
theorem stAnyR (k:IntKind) (l:List Nat) (c:List V) (md:Md) (hmd:isRo md=false) (h:H) (i off:Nat) (hl:off+c.length≤l.length):storeE (some (.cells (ofI k l) md)) h i off c=some (h.put i (.cells (writeN (ofI k l) off c) md)):=by
  unfold storeE
  cases md with
  | ro => cases hmd
  | rw => simp only [show Nat.ble (off+c.length) (ofI k l).length=true from by rw [ofI_len]; exact Nat.ble_eq_true_of_le hl,_root_.cond_true]
  | sh => simp only [show Nat.ble (off+c.length) (ofI k l).length=true from by rw [ofI_len]; exact Nat.ble_eq_true_of_le hl,_root_.cond_true]
end Go.Eng
