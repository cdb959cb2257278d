/- What functions of the program come to: own work. -/
import Derived.Test.YtfopajklnakmpaaBjH
namespace Go.Eng
open Go
variable {E:Nat→Option Fn} {X:Orc}
set_option linter.unusedSimpArgs false
set_option linter.unusedVariables false
theorem com_take (l:List Nat):comV (l.take 9)=comV l:=by
  cases l with
  | nil => rfl
  | cons a r =>
    have h8:=folV_le a
    show comV (a :: r.take 8)=_
    unfold comV
    simp only
    have e1:(r.take 8).length < folV a ↔ r.length < folV a:=by rw [List.length_take]; omega
    have e2:(r.take 8).take (folV a)=r.take (folV a):=by rw [List.take_take,Nat.min_eq_left h8]
    rw [e2]
    by_cases hc:r.length < folV a
    · rw [if_pos (e1.2 hc),if_pos hc]
    · rw [if_neg (fun h => hc (e1.1 h)),if_neg hc]
theorem bsize_go (e:EnBd E) (x:NoBd X) (K:Nat) (hK:100 < K) (l:List Nat) (bl:byt l=true) (hl:l.length≤100000000) (a0:Option (Nat × Nat)) (h:H) (src:SrcH h a0 1 l) :
    ∃ h' n u er,callX E X (K+18) (.fn k_block_size) [.slice a0 l.length none 1] h=some (.tup [.int .u64 (n:Nat),.int .i64 (u:Nat),.int .i64 (er:Nat)],h')∧Kp h h'∧n < 18446744073709551616∧((comV l=some (n,u)∧er=0∧u≤l.length)∨(comV l=none∧er=10)):=by
  rw [x_cfn e.sz _ _ (Nat.le_of_ble_eq_true rfl) (x.sz _ _)]
  obtain ⟨h1,c1,k1⟩:=compactn_go e.cp e.rr.ey.wi x.cp x.rr.ey.wi (K+13) 18446744073709551615 (by omega) (by omega) h
  have e9:cplV 18446744073709551615=9:=rfl
  rw [e9] at c1
  replace c1:callX E X (K+17) (.fn k_octet_Compact) [.int .u64 18446744073709551615] h=some (.int .i64 9,h1):=c1
  obtain ⟨m,em⟩:∃ m,min l.length 9=m:=⟨_,rfl⟩
  have lt:(l.take 9).length=m:=by rw [List.length_take,Nat.min_comm]; exact em
  have sl:slcV 1 none (some (.int .i64 (m:Int))) none (.slice a0 l.length none 1)=some (.slice a0 m none 1):=slcV_hiA l.length m a0 .i64 (by omega)
  have em':(if (9:Int) < (l.length:Int) then (9:Int) else (l.length:Int))=(m:Int):=by split <;> omega
  obtain ⟨h2,p,ay,c2,k2,lep,y2,gay⟩:=look_go e.rr.lo x.rr.lo (K+16) (l.take 9) (by omega) a0 none 1 h1 ((src.mono k1).take 9)
  rw [lt] at c2
  replace c2:callX E X (K+17) (.fn k_octet_Look) _ h1=_:=c2
  obtain ⟨h3,c3,k3,y3,zl⟩:=eysiz_go e.rr.ey x.rr.ey K p (l.take 9) (byt_take bl 9) (by omega) 0 ay h2 y2
  obtain ⟨h4,c4,k4⟩:=compactn_go e.cp e.rr.ey.wi x.cp x.rr.ey.wi (K+13) (eySiz (l.take 9) 0).1 (by omega) zl h3
  replace c4:callX E X (K+17) (.fn k_octet_Compact) _ h3=_:=c4
  have kn1:=k1.1
  have kn2:=k2.1
  have kn3:=k3.1
  refine ⟨h4,(eySiz (l.take 9) 0).1,cplV (eySiz (l.take 9) 0).1,(eySiz (l.take 9) 0).2.1,?_,⟨by have:=k4.1; omega,fun j hj => by rw [k4.2 _ (by omega),k3.2 _ (by omega) (by omega),k2.2 _ (by omega),k1.2 _ hj]⟩,zl,?_⟩
  · generalize (eySiz (l.take 9) 0).1=n at *
    generalize (eySiz (l.take 9) 0).2.1=er at *
    generalize l.length=ll at *
    simp (config:={maxSteps:=2000000}) (disch:=first | omega | (simp only [List.length_cons,List.length_nil,List.length_append,List.length_drop]; omega)) only [c1,m_two,em',if_true,sl,c2,c3,c4,↓s_minmax,↓x_slcS,x_M0,x_M1,↓s_len,x_lenS,x_lenS,↓s_len,s_res0,↓s_ops,↓s_seq,↓s_ret,↓s_nil,↓s_op,↓s_bindS,s_bindS,↓s_bindE,s_bindE,s_norm,↓s_getp,↓s_get,↓s_con,↓s_os0,↓s_os1,↓s_list0,↓s_list1,↓s_mov,↓s_minmax,↓s_call,↓s_ext,s_same,m_two,s_end,s_res0,s_res1,s_tup2,↓iteN_true,↓iteN_false,iteN_true,iteN_false,Nat.reduceEqDiff,decide_true,decide_false,List.getElem?_cons_zero,List.getElem?_cons_succ,if_true]
    try rfl
  · have ee:eySiz (l.take 9) 0=(match comV l with | some (n,u) => (n,0,0+u) | none => (0,10,0)):=by
      unfold eySiz; rw [List.drop_zero,com_take]; cases comV l <;> rfl
    rw [ee]
    cases hc:comV l with
    | none => exact .inr ⟨rfl,rfl⟩
    | some z =>
      obtain ⟨n,u⟩:=z
      obtain ⟨_,q2,q3,_⟩:=com_siz l bl n u hc
      exact .inl ⟨by simp only; rw [q2],rfl,by simp only; rw [← q2]; exact q3⟩
def Z69:List V:=[.int .u32 0,.int .u8 0,.int .u8 0,.int .u8 0,.int .u8 0,.int .u8 0,.int .u8 0,.int .u8 0,.int .u8 0,.int .u8 0,.int .u8 0,.int .u8 0,.int .u8 0,.int .u8 0,.int .u8 0,.int .u8 0,.int .u8 0,.int .u8 0,.int .u8 0,.int .u8 0,.int .u8 0,.int .u8 0,.int .u8 0,.int .u8 0,.int .u8 0,.int .u8 0,.int .u8 0,.int .u8 0,.int .u8 0,.int .u8 0,.int .u8 0,.int .u8 0,.int .u8 0,.int .u8 0,.int .u8 0,.int .u8 0,.int .u8 0,.int .u8 0,.int .u8 0,.int .u8 0,.int .u8 0,.int .u8 0,.int .u8 0,.int .u8 0,.int .u8 0,.int .u8 0,.int .u8 0,.int .u8 0,.int .u8 0,.int .u8 0,.int .u8 0,.int .u8 0,.int .u8 0,.int .u8 0,.int .u8 0,.int .u8 0,.int .u8 0,.int .u8 0,.int .u8 0,.int .u8 0,.int .u8 0,.int .u8 0,.int .u8 0,.int .u8 0,.int .u8 0,.int .u32 0,.int .u32 0,.int .u32 0,.slice none 0 (some 0) 0]
theorem Z69_V:bkV ⟨hdZ,[]⟩ none (some 0) 0=Z69:=rfl
theorem fitZ69:Fit 69 Z69:=by rw [← Z69_V]; exact bkV_fit ⟨hdZ,[]⟩ hdZ_ok _ _ _
theorem fill69 (d:HdQ) (ok:d.ok):fillV Z69 [(0,68,.agg (hdV d))]=some (bkV ⟨d,[]⟩ none (some 0) 0):=by
  have c:(V.agg (hdV d)).cells=hdV d:=rfl
  have lz:Z69.length=69:=rfl
  have h0:=fill_next [] Z69 68 (.agg (hdV d)) [] 0 rfl (by rw [c,hdV_len d ok]) (by omega)
  rw [List.nil_append,List.nil_append,c] at h0
  rw [h0,x_fill0]
  rfl
/-- what Decode answers -/
def dcB (l:List Nat) (f:Nat):Option (List TxQ):=if l.length < 80 then none else match comV (l.drop 80) with
  | none => none
  | some (many,u) => match wkV l many f [] (80+u) with
    | none => none
    | some (dn,k) => if dn.length=many∧k=l.length then some dn else none
set_option maxRecDepth 100000 in
set_option maxHeartbeats 4000000 in
theorem bdec_go (e:EnBd E) (x:NoBd X) (K:Nat) (hK:100 < K) (l:List Nat) (bl:byt l=true) (hl:l.length≤100000000) (a0:Option (Nat × Nat)) (c0:Option Nat) (e0:Nat) (hc:l≠[]→c0=none∧e0=1) (h:H) (src:SrcH h a0 e0 l) (f:Nat) (hf:f < K) (fuel:∀ many u,comV (l.drop 80)=some (many,u)→wkV l many f [] (80+u)≠none) :
    ∃ h',Kp h h'∧((∃ dn d,dcB l f=some dn∧d.ok∧hdB d=l.take 80∧∃ P,callX E X (K+25) (.fn k_block_Decode) [.slice a0 l.length c0 e0] h=some (.tup [.agg P,.int .i64 0],h')∧BkC (fun j => h.next≤j) h' ⟨d,dn⟩ P)∨(dcB l f=none∧callX E X (K+25) (.fn k_block_Decode) [.slice a0 l.length c0 e0] h=some (.tup [.agg Z69,.int .i64 70],h'))):=by
  rw [x_cfn e.bd _ _ (Nat.le_of_ble_eq_true rfl) (x.bd _ _)]
  rw [show ([.int .u32 0,.int .u8 0,.int .u8 0,.int .u8 0,.int .u8 0,.int .u8 0,.int .u8 0,.int .u8 0,.int .u8 0,.int .u8 0,.int .u8 0,.int .u8 0,.int .u8 0,.int .u8 0,.int .u8 0,.int .u8 0,.int .u8 0,.int .u8 0,.int .u8 0,.int .u8 0,.int .u8 0,.int .u8 0,.int .u8 0,.int .u8 0,.int .u8 0,.int .u8 0,.int .u8 0,.int .u8 0,.int .u8 0,.int .u8 0,.int .u8 0,.int .u8 0,.int .u8 0,.int .u8 0,.int .u8 0,.int .u8 0,.int .u8 0,.int .u8 0,.int .u8 0,.int .u8 0,.int .u8 0,.int .u8 0,.int .u8 0,.int .u8 0,.int .u8 0,.int .u8 0,.int .u8 0,.int .u8 0,.int .u8 0,.int .u8 0,.int .u8 0,.int .u8 0,.int .u8 0,.int .u8 0,.int .u8 0,.int .u8 0,.int .u8 0,.int .u8 0,.int .u8 0,.int .u8 0,.int .u8 0,.int .u8 0,.int .u8 0,.int .u8 0,.int .u8 0,.int .u32 0,.int .u32 0,.int .u32 0,.slice none 0 (some 0) 0]:List V)=Z69 from rfl,show ([.int .u32 0,.int .u8 0,.int .u8 0,.int .u8 0,.int .u8 0,.int .u8 0,.int .u8 0,.int .u8 0,.int .u8 0,.int .u8 0,.int .u8 0,.int .u8 0,.int .u8 0,.int .u8 0,.int .u8 0,.int .u8 0,.int .u8 0,.int .u8 0,.int .u8 0,.int .u8 0,.int .u8 0,.int .u8 0,.int .u8 0,.int .u8 0,.int .u8 0,.int .u8 0,.int .u8 0,.int .u8 0,.int .u8 0,.int .u8 0,.int .u8 0,.int .u8 0,.int .u8 0,.int .u8 0,.int .u8 0,.int .u8 0,.int .u8 0,.int .u8 0,.int .u8 0,.int .u8 0,.int .u8 0,.int .u8 0,.int .u8 0,.int .u8 0,.int .u8 0,.int .u8 0,.int .u8 0,.int .u8 0,.int .u8 0,.int .u8 0,.int .u8 0,.int .u8 0,.int .u8 0,.int .u8 0,.int .u8 0,.int .u8 0,.int .u8 0,.int .u8 0,.int .u8 0,.int .u8 0,.int .u8 0,.int .u8 0,.int .u8 0,.int .u8 0,.int .u8 0,.int .u32 0,.int .u32 0,.int .u32 0]:List V)=Z68 from rfl]
  obtain ⟨hA,ehA⟩:∃ hA,h.new (.cells Z69 .rw)=hA:=⟨_,rfl⟩
  have kA:Kp h hA:=by rw [← ehA]; exact Kp.new _ _
  have nA:hA.next=h.next+1:=by rw [← ehA]; rfl
  have gA:hA.get h.next=some (.cells Z69 .rw):=by rw [← ehA]; exact h_new_same _ _
  have stZ:=fun h i => fit_st fitZ69 h i
  have puZ:=fun h i => fit_put fitZ69 h i Z69 rfl
  have ldZ:=fun m => fit_ld fitZ69 m
  have fz:fillV Z69 []=some Z69:=rfl
  by_cases hn:l.length < 80
  · have d1:decide ((l.length:Int) < 80)=true:=decide_eq_true (by omega)
    refine ⟨hA.put h.next (.cells Z69 .rw),⟨by show h.next≤hA.next; omega,fun j hj => by rw [h_put_ne _ _ (by omega),kA.2 _ hj]⟩,.inr ⟨by unfold dcB; rw [if_pos hn],?_⟩⟩
    generalize Z69=Z at *
    generalize Z68=Z8 at *
    generalize l.length=n at *
    simp (config:={maxSteps:=2000000}) (disch:=first | omega | (simp only [List.length_cons,List.length_nil,List.length_append,List.length_drop]; omega)) only [ehA,gA,d1,fz,stZ,puZ,ldZ,↓x_build,x_aggO,s_scope,↓s_len,x_lenS,↓h_put_get,m_load,↓m_st,m_stE,↓s_alloc,x_lenS,↓s_len,↓x_P0,s_resc,s_consR,s_res0,↓s_ops,↓s_seq,↓s_cond,↓s_ret,↓s_scope,↓s_nil,↓s_op,↓s_bindS,s_bindS,↓s_bindE,s_bindE,s_bindE_ret,s_norm,↓s_condV,s_condV,↓s_getp,↓s_getp0,↓s_get,↓s_con,↓s_list0,↓s_list1,↓s_mov,↓s_bin,s_same,b_lss,s_end,s_res0,s_res1,s_tup2,↓iteN_true,↓iteN_false,iteN_true,iteN_false,Nat.reduceEqDiff,decide_true,decide_false]
    try rfl
  have d1:decide ((l.length:Int) < 80)=false:=decide_eq_false (by omega)
  obtain ⟨rfl,rfl⟩:=hc (by intro h; rw [h] at hn; exact hn (by decide))
  -- the header
  have lt80:(l.take 80).length=80:=by rw [List.length_take]; omega
  obtain ⟨h1,k1,hh⟩:=dechead_go e.br x.br (K+4) (by omega) (l.take 80) (byt_take bl 80) (by omega) a0 none 1 hA ((src.mono kA).take 80)
  rcases hh with ⟨_,d,dok,dB,c1⟩ | ⟨no,_⟩
  rotate_left
  · exact absurd lt80 no
  rw [lt80] at c1
  replace c1:callX E X (K+24) (.fn k_block_DecodeHeader) [.slice a0 80 none 1] hA=some (.tup [.agg (hdV d),.int .i64 0],h1):=c1
  have sl1:slcV 1 none (some (.int .i64 80)) none (.slice a0 l.length none 1)=some (.slice a0 80 none 1):=slcV_hiA l.length 80 a0 .i64 (by omega)
  have sl2:slcV 1 (some (.int .i64 80)) none none (.slice a0 l.length none 1)=some (posV a0 l.length 80):=slcS_lo a0 l.length 80 none 1 .i64 (by omega) rfl
  have kn1:=k1.1
  have fH:=hdV_fit d dok
  have stH:=fun h i => fit_st fH h i
  have puH:=fun h i => fit_put fH h i Z68 rfl
  have ldH:=fun m => fit_ld fH m
  obtain ⟨p4,ep4⟩:∃ p,h1.next=p:=⟨_,rfl⟩
  have gz4:(h1.new (.cells Z68 .rw)).get p4=some (.cells Z68 .rw):=by rw [← ep4]; exact h_new_same _ _
  obtain ⟨h2,eh2⟩:∃ h2,(h1.new (.cells Z68 .rw)).put p4 (.cells (hdV d) .rw)=h2:=⟨_,rfl⟩
  have n2:h2.next=p4+1:=by rw [← eh2,← ep4]; rfl
  have k2:Kp h1 h2:=by rw [← eh2,← ep4]; (repeat (first | exact Kp.refl _ | refine Kp.put ?_ _ (by first | omega | (simp only [h_next_put,h_next_new,h_next_del]; omega)) | refine Kp.del ?_ (by first | omega | (simp only [h_next_put,h_next_new,h_next_del]; omega)) | refine Kp.trans ?_ (Kp.new _ _)))
  have g24:h2.get p4=some (.cells (hdV d) .rw):=by rw [← eh2]; exact h_put_same _ _ _
  obtain ⟨p6,ep6⟩:∃ p,h2.next=p:=⟨_,rfl⟩
  have gz6:(h2.new (.cells [.slice none 0 (some 0) 0] .rw)).get p6=some (.cells [.slice none 0 (some 0) 0] .rw):=by rw [← ep6]; exact h_new_same _ _
  obtain ⟨h3,eh3⟩:∃ h3,(h2.new (.cells [.slice none 0 (some 0) 0] .rw)).put p6 (.cells [posV a0 l.length 80] .rw)=h3:=⟨_,rfl⟩
  have n3:h3.next=p6+1:=by rw [← eh3,← ep6]; rfl
  have k3:Kp h2 h3:=by rw [← eh3,← ep6]; (repeat (first | exact Kp.refl _ | refine Kp.put ?_ _ (by first | omega | (simp only [h_next_put,h_next_new,h_next_del]; omega)) | refine Kp.del ?_ (by first | omega | (simp only [h_next_put,h_next_new,h_next_del]; omega)) | refine Kp.trans ?_ (Kp.new _ _)))
  have g36:h3.get p6=some (.cells [posV a0 l.length 80] .rw):=by rw [← eh3]; exact h_put_same _ _ _
  have k03:Kp h h3:=((kA.trans k1).trans k2).trans k3
  -- how many
  have ld80:(l.drop 80).length=l.length - 80:=List.length_drop
  obtain ⟨h4,many,u,er,c4,k4,hmany,hsz⟩:=bsize_go e x (K+6) (by omega) (l.drop 80) (byt_drop bl 80) (by omega) (upA a0 80) h3 ((src.mono k03).drop 80)
  rw [ld80] at c4
  replace c4:callX E X (K+24) (.fn k_block_size) [posV a0 l.length 80] h3=_:=c4
  have kn4:=k4.1
  have g46:h4.get p6=some (.cells [posV a0 l.length 80] .rw):=by rw [k4.2 _ (by omega),g36]
  have g44:h4.get p4=some (.cells (hdV d) .rw):=by rw [k4.2 _ (by omega),k3.2 _ (by omega),g24]
  have g4q:h4.get h.next=some (.cells Z69 .rw):=by rw [k4.2 _ (by omega),k3.2 _ (by omega),k2.2 _ (by omega),k1.2 _ (by omega),gA]
  obtain ⟨p7,ep7⟩:∃ p,h4.next=p:=⟨_,rfl⟩
  have gz7:(h4.new (.cells [.int .u64 0] .rw)).get p7=some (.cells [.int .u64 0] .rw):=by rw [← ep7]; exact h_new_same _ _
  obtain ⟨h5,eh5⟩:∃ h5,(h4.new (.cells [.int .u64 0] .rw)).put p7 (.cells [.int .u64 (many:Int)] .rw)=h5:=⟨_,rfl⟩
  have n5:h5.next=p7+1:=by rw [← eh5,← ep7]; rfl
  have k5:Kp h4 h5:=by rw [← eh5,← ep7]; (repeat (first | exact Kp.refl _ | refine Kp.put ?_ _ (by first | omega | (simp only [h_next_put,h_next_new,h_next_del]; omega)) | refine Kp.del ?_ (by first | omega | (simp only [h_next_put,h_next_new,h_next_del]; omega)) | refine Kp.trans ?_ (Kp.new _ _)))
  have g57:h5.get p7=some (.cells [.int .u64 (many:Int)] .rw):=by rw [← eh5]; exact h_put_same _ _ _
  have g56:h5.get p6=some (.cells [posV a0 l.length 80] .rw):=by rw [k5.2 _ (by omega),g46]
  have g54:h5.get p4=some (.cells (hdV d) .rw):=by rw [k5.2 _ (by omega),g44]
  have g5q:h5.get h.next=some (.cells Z69 .rw):=by rw [k5.2 _ (by omega),g4q]
  have k05:=(k03.trans k4).trans k5
  have z0:decide ((0:Int)=0)=true:=rfl
  have z10:decide ((10:Int)=0)=false:=rfl
  have stp80:=posV_pl a0 l.length 80
  have stpu:=posV_pl a0 l.length (80+u)
  rcases hsz with ⟨hcm,rfl,hu⟩ | ⟨hcm,rfl⟩
  rotate_left
  · refine ⟨h5.put h.next (.cells Z69 .rw),⟨by have:=k05.1; exact this,fun j hj => by rw [h_put_ne _ _ (by omega),k05.2 _ hj]⟩,.inr ⟨by unfold dcB; rw [if_neg hn,hcm],?_⟩⟩
    generalize posV a0 l.length 80=PV at *
    generalize hdV d=HV at *
    generalize Z69=Z at *
    generalize Z68=Z8 at *
    generalize l.length=n at *
    simp (config:={maxSteps:=2000000}) (disch:=first | omega | (simp only [List.length_cons,List.length_nil,List.length_append,List.length_drop]; omega)) only [ehA,d1,sl1,sl2,c1,ep4,stH,puH,eh2,ep6,stp80,eh3,g36,c4,ep7,eh5,g5q,fz,stZ,puZ,ldZ,Bool.not_true,Bool.not_false,↓x_slcS,x_M0,x_M1,↓x_build,x_aggO,s_scope,↓s_len,x_lenS,Nat.zero_add,↓h_put_get,↓h_new_get,↓s_load,m_load,↓m_load1,m_load1,↓m_st,m_stE,m_storeI,m_storeE,w_zero,↓s_alloc,x_lenS,↓s_len,↓x_P0,List.length_cons,List.length_nil,List.drop_succ_cons,List.drop_nil,Int.reduceEq,Int.cast_ofNat_Int,s_resc,s_consR,s_res0,↓s_skip,↓s_ops,↓s_seq,↓s_cond,↓s_ret,↓s_scope,↓s_nil,↓s_op,↓s_opg,↓s_wanted',↓s_wantV,s_wantV,↓s_bindS,s_bindS,↓s_bindE,s_bindE,s_bindE_ret,s_norm,↓s_condV,s_condV,↓s_getp,↓s_getp0,↓s_get,↓s_con,↓s_os0,↓s_os1,↓s_list0,↓s_list1,↓s_mov,↓s_pick,↓s_pickE,s_pickE,↓s_bin,↓s_call,↓s_ext,s_same,b_neq,b_lss,s_end,s_res0,s_res1,s_tup2,↓iteN_true,↓iteN_false,iteN_true,iteN_false,Nat.zero_add,List.append_nil,Nat.reduceEqDiff,decide_true,decide_false,Bool.not_true,Bool.not_false,List.getElem?_cons_zero,List.getElem?_cons_succ,beq_self_eq_true]
    try rfl
  -- the transactions
  rw [ld80] at hu
  have sl3:=posV_slc a0 l.length 80 u (by omega)
  obtain ⟨h6,eh6⟩:∃ h6,h5.put p6 (.cells [posV a0 l.length (80+u)] .rw)=h6:=⟨_,rfl⟩
  have n6:h6.next=p7+1:=by rw [← eh6]; exact n5
  have f6:∀ j,j≠p6→h6.get j=h5.get j:=fun j hj => by rw [← eh6,h_put_ne _ _ (Ne.symm hj)]
  have g66:h6.get p6=some (.cells [posV a0 l.length (80+u)] .rw):=by rw [← eh6]; exact h_put_same _ _ _
  have g64:h6.get p4=some (.cells (hdV d) .rw):=by rw [f6 _ (by omega),g54]
  have f69:=fill69 d dok
  have fB:=bkV_fit ⟨d,[]⟩ dok none (some 0) 0
  have stB:=fun h i => fit_st fB h i
  have puB:=fun h i => fit_put fB h i Z69 rfl
  obtain ⟨p10,ep10⟩:∃ p,h6.next=p:=⟨_,rfl⟩
  have gz10:(h6.new (.cells Z69 .rw)).get p10=some (.cells Z69 .rw):=by rw [← ep10]; exact h_new_same _ _
  obtain ⟨h7,eh7⟩:∃ h7,(h6.new (.cells Z69 .rw)).put p10 (.cells (bkV ⟨d,[]⟩ none (some 0) 0) .rw)=h7:=⟨_,rfl⟩
  have n7:h7.next=p10+1:=by rw [← eh7,← ep10]; rfl
  have k7:Kp h6 h7:=by rw [← eh7,← ep10]; (repeat (first | exact Kp.refl _ | refine Kp.put ?_ _ (by first | omega | (simp only [h_next_put,h_next_new,h_next_del]; omega)) | refine Kp.del ?_ (by first | omega | (simp only [h_next_put,h_next_new,h_next_del]; omega)) | refine Kp.trans ?_ (Kp.new _ _)))
  have g710:h7.get p10=some (.cells (bkV ⟨d,[]⟩ none (some 0) 0) .rw):=by rw [← eh7]; exact h_put_same _ _ _
  have g76:h7.get p6=some (.cells [posV a0 l.length (80+u)] .rw):=by rw [k7.2 _ (by omega),g66]
  have ct:=fun h => txs_go e x (K+23) (posV a0 l.length (80+u)) rfl h
  obtain ⟨pa,epa⟩:∃ p,h7.next=p:=⟨_,rfl⟩
  obtain ⟨h8,eh8⟩:∃ h8,h7.new (.cells [posV a0 l.length (80+u)] .rw)=h8:=⟨_,rfl⟩
  have n8:h8.next=pa+1:=by rw [← eh8,← epa]; rfl
  have k8:Kp h7 h8:=by rw [← eh8]; exact Kp.new _ _
  have g8a:h8.get pa=some (.cells [posV a0 l.length (80+u)] .rw):=by rw [← eh8,← epa]; exact h_new_same _ _
  have g810:h8.get p10=some (.cells (bkV ⟨d,[]⟩ none (some 0) 0) .rw):=by rw [k8.2 _ (by omega),g710]
  have g86:h8.get p6=some (.cells [posV a0 l.length (80+u)] .rw):=by rw [k8.2 _ (by omega),g76]
  have g87:h8.get p7=some (.cells [.int .u64 (many:Int)] .rw):=by rw [k8.2 _ (by omega),k7.2 _ (by omega),f6 _ (by omega),g57]
  have g8q:h8.get h.next=some (.cells Z69 .rw):=by rw [k8.2 _ (by omega),k7.2 _ (by omega),f6 _ (by omega),g5q]
  have k08:Kp h h8:=⟨by have:=k05.1; omega,fun j hj => by have:=k05.1; rw [k8.2 _ (by omega),k7.2 _ (by omega),f6 _ (by omega),k05.2 _ hj]⟩
  have lns:=k03.1
  have t56:h.next < p4∧p4 < p6∧p6 < p7∧p7 < p10∧p10 < pa:=⟨by omega,by omega,by omega,by omega,by omega⟩
  obtain ⟨o1,o2,o3,o4,o5⟩:=t56
  obtain ⟨dn,k',hw⟩:∃ dn k',wkV l many f [] (80+u)=some (dn,k'):=by
    cases hw:wkV l many f [] (80+u) with
    | none => exact absurd hw (fuel many u hcm)
    | some z => exact ⟨z.1,z.2,rfl⟩
  have dc:dcB l f=if dn.length=many∧k'=l.length then some dn else none:=by unfold dcB; rw [if_neg hn,hcm]; simp only; rw [hw]
  have fin:∀ T0,evO T0 (.t 2)=.ptr (some (h.next,0))→evO T0 (.t 6)=.ptr (some (p6,0))→evO T0 (.t 7)=.ptr (some (p7,0))→evO T0 (.t 10)=.ptr (some (p10,0))→∃ h',Kp h h'∧((∃ dn d,dcB l f=some dn∧d.ok∧hdB d=l.take 80∧∃ P,fnEnd [.cell 2 (some 69),.tmp 3] (bindE (blockE 0 (rangeEnd (pa+2) T0 [pa+1] (callF (callX E X (K+24)) (.yld (pa+2)) (.fn k_block_txs_1 [] [.ptr (some (pa,0))]) ((h8.new .defers).new (.loop 0 none 75 T0 [45,46] A_block_Decode_0 B_block_Decode_0 (pa+1)))))) (evC (callX E X (K+24)) 75 (K+24) none R_block_Decode_0))=some (.tup [.agg P,.int .i64 0],h')∧BkC (fun j => h.next≤j) h' ⟨d,dn⟩ P)∨(dcB l f=none∧fnEnd [.cell 2 (some 69),.tmp 3] (bindE (blockE 0 (rangeEnd (pa+2) T0 [pa+1] (callF (callX E X (K+24)) (.yld (pa+2)) (.fn k_block_txs_1 [] [.ptr (some (pa,0))]) ((h8.new .defers).new (.loop 0 none 75 T0 [45,46] A_block_Decode_0 B_block_Decode_0 (pa+1)))))) (evC (callX E X (K+24)) 75 (K+24) none R_block_Decode_0))=some (.tup [.agg Z69,.int .i64 70],h'))):=by
    intro T0 t2 t6 t7 t10
    obtain ⟨hB,eB⟩:∃ hB,(h8.new .defers).new (.loop 0 none 75 T0 [45,46] A_block_Decode_0 B_block_Decode_0 (pa+1))=hB:=⟨_,rfl⟩
    have nB:hB.next=pa+3:=by rw [← eB]; simp only [h_next_new,n8]
    have kB:Kp h8 hB:=by rw [← eB]; exact (Kp.new _ _).trans (Kp.new _ _)
    have gBd:hB.get (pa+1)=some .defers:=by rw [← eB,h_new_ne _ _ (by rw [h_next_new,n8]; omega)]; exact h_new_same' _ _ n8
    have gBL:hB.get (pa+2)=some (.loop 0 none 75 T0 [45,46] A_block_Decode_0 B_block_Decode_0 (pa+1)):=by rw [← eB]; exact h_new_same' _ _ (by rw [h_next_new,n8])
    obtain ⟨hC,r,I,dk,kl⟩:=txs1_go e x (K+1) (by omega) hB (pa+2) p6 p7 p10 pa (pa+3) (pa+1) T0 t6 t7 t10 (by omega) (by omega) (by omega) (by omega) (by omega) (by omega) (by omega) (by omega) (by omega) (by omega) (by omega) (by omega) (by omega) (by omega) (by omega) d dok many l bl hl a0 (fun h2 n2 f2 => by
      have s8:SrcH h8 a0 1 l:=src.mono k08
      rcases src with s0 | ⟨bi,off,vs,m,b1,b2,b3,b4,b5,b6⟩
      · exact .inl s0
      · exact .inr ⟨bi,off,vs,m,b1,b2,by omega,by rw [f2 _ (by omega) (by omega) (by omega) (by omega) (by omega),kB.2 _ (by omega),k08.2 _ b3,b4],b5,b6⟩) f (by omega) (80+u) (by omega) dn k' hw ⟨⟨none,some 0,0,by rw [kB.2 _ (by omega),g810],RowF.nil _ _ _ _ _⟩,by rw [kB.2 _ (by omega),g86],by rw [kB.2 _ (by omega),g87],by rw [kB.2 _ (by omega),g8a],gBL,by omega,fun _ _ _ _ _ _ => rfl⟩
    obtain ⟨⟨ar,cr,er,gC10,row⟩,gC6,gC7,gCL,nxC,fr⟩:=I
    have gCd:hC.get (pa+1)=some .defers:=by rw [fr _ (by omega) (by omega) (by omega) (by omega) (by omega),gBd]
    have gCq:hC.get h.next=some (.cells Z69 .rw):=by rw [fr _ (by omega) (by omega) (by omega) (by omega) (by omega),kB.2 _ (by omega),g8q]
    rw [eB]
    replace r:callX E X (K+24) (.fn k_block_txs_1) [.yld (pa+2),.ptr (some (pa,0))] hB=some (.tup [],hC):=r
    obtain ⟨hD,eD⟩:∃ hD,hC.del (pa+2)=hD:=⟨_,rfl⟩
    have nD:hD.next=hC.next:=by rw [← eD]; rfl
    have fD:∀ i,i≠pa+2→hD.get i=hC.get i:=fun i h1 => by rw [← eD,h_del_ne _ (Ne.symm h1)]
    have gD10:hD.get p10=some (.cells (bkV ⟨d,dn⟩ ar cr er) .rw):=by rw [fD _ (by omega),gC10]
    have gD6:hD.get p6=some (.cells [posV a0 l.length k'] .rw):=by rw [fD _ (by omega),gC6]
    have gD7:hD.get p7=some (.cells [.int .u64 (many:Int)] .rw):=by rw [fD _ (by omega),gC7]
    have gDd:hD.get (pa+1)=some .defers:=by rw [fD _ (by omega),gCd]
    have gDq:hD.get h.next=some (.cells Z69 .rw):=by rw [fD _ (by omega),gCq]
    have z1:(pa+2=pa+1)=False:=by simp
    have z2:(pa+1=pa+2)=False:=by simp
    have z3:(pa+2=p6)=False:=by simp; omega
    have z4:(pa+2=p7)=False:=by simp; omega
    have z5:(pa+2=p10)=False:=by simp; omega
    have z6:(pa+1=h.next)=False:=by simp; omega
    have z7:(pa+2=h.next)=False:=by simp; omega
    have z8:(h.next=pa+1)=False:=by simp; omega
    have key:∀ W:List V,∃ hF hE,hD.put h.next (.cells W .rw)=hF∧hF.get (pa+1)=some .defers∧hF.del (pa+1)=hE∧hE.get h.next=some (.cells W .rw)∧Kp h hE∧hE.next=hC.next∧∀ i,i≠h.next→i≠pa+1→i≠pa+2→hE.get i=hC.get i:=fun W => by
      refine ⟨_,_,rfl,by rw [h_put_ne _ _ (by omega),gDd],rfl,by rw [h_del_ne _ (by omega)]; exact h_put_same _ _ _,⟨by show h.next≤hD.next; omega,fun i hi => ?_⟩,nD,fun i i1 i2 i3 => ?_⟩
      · have:=k08.1
        rw [h_del_ne _ (by omega),h_put_ne _ _ (by omega),fD _ (by omega),fr _ (by omega) (by omega) (by omega) (by omega) (by omega),kB.2 _ (by omega),k08.2 _ hi]
      · rw [h_del_ne _ (Ne.symm i2),h_put_ne _ _ (Ne.symm i1),fD _ i3]
    have wl:wr .u64 (dn.length:Int)=(dn.length:Int):=u64n _ (by omega)
    have d68:=bkV_68 ⟨d,dn⟩ dok ar cr er
    have fBk:=bkV_fit ⟨d,dn⟩ dok ar cr er
    have stK:=fun h i => fit_st fBk h i
    have puK:=fun h i => fit_put fBk h i Z69 rfl
    have ldK:=fun m => fit_ld fBk m
    obtain ⟨dl,edl⟩:∃ n,dn.length=n:=⟨_,rfl⟩
    have d68':(bkV ⟨d,dn⟩ ar cr er)[68]?=some (.slice ar dl cr er):=by rw [d68]; simp only [edl]
    rw [edl] at wl dc
    by_cases hm:dl=many
    · have c1':(!decide ((dl:Int)=(many:Int)))=false:=by rw [decide_eq_true (by omega)]; rfl
      by_cases hk:k'=l.length
      · obtain ⟨hF,hE,eF,gFd,eE,gE,kE,nE,fE⟩:=key (bkV ⟨d,dn⟩ ar cr er)
        have pv:posV a0 l.length k'=.slice (upA a0 k') 0 none 1:=by unfold posV; rw [hk,Nat.sub_self]
        have c2':decide ((0:Int) < (0:Int))=false:=rfl
        rw [if_pos ⟨hm,hk⟩] at dc
        refine ⟨hE,kE,.inl ⟨dn,d,dc,dok,dB,bkV ⟨d,dn⟩ ar cr er,?_,⟨ar,cr,er,rfl,?_⟩⟩⟩
        · rw [pv] at gC6 gD6
          generalize bkV ⟨d,dn⟩ ar cr er=BV at *
          generalize Z69=Z at *
          rcases gCL with gCL | gCL
          · simp (config:={maxSteps:=2000000}) (disch:=first | omega | (simp only [List.length_cons,List.length_nil,List.length_append,List.length_drop]; omega)) only [s_callF,List.nil_append,List.cons_append,r,t2,t6,t7,t10,gCL,eD,gD10,gD7,gD6,gDq,d68',wl,c1',stK,puK,ldK,eF,gFd,eE,gE,R_block_Decode_0,r_end,r_0,r_jn,e_ret,d_cons,d_yes,d_nil,e_some,↓x_conv,x_convV,↓s_len,x_lenS,↓x_conv,x_convV,↓x_fieldAddr,x_fieldV,Nat.zero_add,↓s_load,m_load,↓m_load1,m_load1,↓m_st,m_stE,x_lenS,↓s_len,List.cons_append,List.nil_append,Int.reduceLT,Int.cast_ofNat_Int,s_resc,s_consR,s_res0,↓s_skip,↓s_ops,↓s_seq,↓s_cond,↓s_ret,↓s_nil,↓s_op,↓s_opg,↓s_wanted',↓s_wantV,s_wantV,↓s_bindS,s_bindS,↓s_bindE,s_bindE,s_norm,↓s_condV,s_condV,s_block_normal,↓s_getp,↓s_getp0,↓s_con,↓s_mov,↓s_pick,↓s_pickE,s_pickE,↓s_bin,s_same,b_neq,b_gtr,s_res0,s_res1,s_tup2,↓iteN_true,↓iteN_false,iteN_true,iteN_false,Nat.zero_add,List.nil_append,Nat.reduceEqDiff,decide_true,decide_false,List.getElem?_cons_zero,beq_self_eq_true]
            try rfl
          · simp (config:={maxSteps:=2000000}) (disch:=first | omega | (simp only [List.length_cons,List.length_nil,List.length_append,List.length_drop]; omega)) only [s_callF,List.nil_append,List.cons_append,r,t2,t6,t7,t10,gCL,eD,gD10,gD7,gD6,gDq,d68',wl,c1',stK,puK,ldK,eF,gFd,eE,gE,R_block_Decode_0,r_end,r_2,r_je,e_ret,d_cons,d_yes,d_nil,e_some,↓x_conv,x_convV,↓s_len,x_lenS,↓x_conv,x_convV,↓x_fieldAddr,x_fieldV,Nat.zero_add,↓s_load,m_load,↓m_load1,m_load1,↓m_st,m_stE,x_lenS,↓s_len,List.cons_append,List.nil_append,Int.reduceLT,Int.cast_ofNat_Int,s_resc,s_consR,s_res0,↓s_skip,↓s_ops,↓s_seq,↓s_cond,↓s_ret,↓s_nil,↓s_op,↓s_opg,↓s_wanted',↓s_wantV,s_wantV,↓s_bindS,s_bindS,↓s_bindE,s_bindE,s_norm,↓s_condV,s_condV,s_block_exit,↓s_getp,↓s_getp0,↓s_con,↓s_mov,↓s_pick,↓s_pickE,s_pickE,↓s_bin,s_same,b_neq,b_gtr,s_res0,s_res1,s_tup2,↓iteN_true,↓iteN_false,iteN_true,iteN_false,Nat.zero_add,List.nil_append,Nat.reduceEqDiff,decide_true,decide_false,List.getElem?_cons_zero,if_true,beq_self_eq_true]
            try rfl
        · refine RowG.mono2 itTx (row.row itTx) (by omega) (fun j hj _ => ?_) (fun j hj _ => ?_)
          · have hj':pa+3≤j:=by rcases hj with hj | hj <;> exact hj
            exact fE j (by omega) (by omega) (by omega)
          · have hj':pa+3≤j:=by rcases hj with hj | hj <;> exact hj
            show h.next≤j; omega
      · obtain ⟨hF,hE,eF,gFd,eE,gE,kE,nE,fE⟩:=key Z69
        have c2':decide ((0:Int) < ((l.length - k':Nat):Int))=true:=decide_eq_true (by omega)
        rw [if_neg (fun h => hk h.2)] at dc
        refine ⟨hE,kE,.inr ⟨dc,?_⟩⟩
        unfold posV at gC6 gD6
        generalize bkV ⟨d,dn⟩ ar cr er=BV at *
        unfold Z69 at *
        generalize l.length - k'=rl at *
        rcases gCL with gCL | gCL
        · simp (config:={maxSteps:=2000000}) (disch:=first | omega | (simp only [List.length_cons,List.length_nil,List.length_append,List.length_drop]; omega)) only [s_callF,List.nil_append,List.cons_append,r,t2,t6,t7,t10,gCL,eD,gD10,gD7,gD6,gDq,d68',wl,c1',c2',fz,stZ,puZ,ldZ,eF,gFd,eE,gE,R_block_Decode_0,r_end,r_0,r_jn,e_ret,d_cons,d_yes,d_nil,e_some,↓x_build,x_aggO,↓x_conv,x_convV,↓s_len,x_lenS,↓x_conv,x_convV,↓x_fieldAddr,x_fieldV,Nat.zero_add,↓s_load,m_load,↓m_load1,m_load1,↓m_st,m_stE,x_lenS,↓s_len,↓x_P0,List.cons_append,List.nil_append,s_resc,s_consR,s_res0,↓s_ops,↓s_seq,↓s_cond,↓s_ret,↓s_nil,↓s_op,↓s_opg,↓s_wanted',↓s_wantV,s_wantV,↓s_bindS,s_bindS,↓s_bindE,s_bindE,s_bindE_ret,s_norm,↓s_condV,s_condV,s_block_normal,↓s_getp,↓s_getp0,↓s_con,↓s_mov,↓s_pick,↓s_pickE,s_pickE,↓s_bin,s_same,b_neq,b_gtr,s_res0,s_res1,s_tup2,↓iteN_true,↓iteN_false,iteN_true,iteN_false,Nat.zero_add,List.nil_append,Nat.reduceEqDiff,decide_true,decide_false,List.getElem?_cons_zero,beq_self_eq_true]
          try rfl
        · simp (config:={maxSteps:=2000000}) (disch:=first | omega | (simp only [List.length_cons,List.length_nil,List.length_append,List.length_drop]; omega)) only [s_callF,List.nil_append,List.cons_append,r,t2,t6,t7,t10,gCL,eD,gD10,gD7,gD6,gDq,d68',wl,c1',c2',fz,stZ,puZ,ldZ,eF,gFd,eE,gE,R_block_Decode_0,r_end,r_2,r_je,e_ret,d_cons,d_yes,d_nil,e_some,↓x_build,x_aggO,↓x_conv,x_convV,↓s_len,x_lenS,↓x_conv,x_convV,↓x_fieldAddr,x_fieldV,Nat.zero_add,↓s_load,m_load,↓m_load1,m_load1,↓m_st,m_stE,x_lenS,↓s_len,↓x_P0,List.cons_append,List.nil_append,s_resc,s_consR,s_res0,↓s_ops,↓s_seq,↓s_cond,↓s_ret,↓s_nil,↓s_op,↓s_opg,↓s_wanted',↓s_wantV,s_wantV,↓s_bindS,s_bindS,↓s_bindE,s_bindE,s_bindE_ret,s_norm,↓s_condV,s_condV,s_block_exit,↓s_getp,↓s_getp0,↓s_con,↓s_mov,↓s_pick,↓s_pickE,s_pickE,↓s_bin,s_same,b_neq,b_gtr,s_res0,s_res1,s_tup2,↓iteN_true,↓iteN_false,iteN_true,iteN_false,Nat.zero_add,List.nil_append,Nat.reduceEqDiff,decide_true,decide_false,List.getElem?_cons_zero,if_true,beq_self_eq_true]
          try rfl
    · have c1':(!decide ((dl:Int)=(many:Int)))=true:=by rw [decide_eq_false (by omega)]; rfl
      obtain ⟨hF,hE,eF,gFd,eE,gE,kE,nE,fE⟩:=key Z69
      rw [if_neg (fun h => hm h.1)] at dc
      refine ⟨hE,kE,.inr ⟨dc,?_⟩⟩
      generalize posV a0 l.length k'=PV at *
      generalize bkV ⟨d,dn⟩ ar cr er=BV at *
      unfold Z69 at *
      rcases gCL with gCL | gCL
      · simp (config:={maxSteps:=2000000}) (disch:=first | omega | (simp only [List.length_cons,List.length_nil,List.length_append,List.length_drop]; omega)) only [s_callF,List.nil_append,List.cons_append,r,t2,t7,t10,gCL,eD,gD10,gD7,gDq,d68',wl,c1',fz,stZ,puZ,ldZ,eF,gFd,eE,gE,R_block_Decode_0,r_end,r_0,r_jn,e_ret,d_cons,d_yes,d_nil,e_some,↓x_build,x_aggO,↓x_conv,x_convV,↓s_len,x_lenS,↓x_conv,x_convV,↓x_fieldAddr,x_fieldV,Nat.zero_add,↓s_load,m_load,↓m_load1,m_load1,↓m_st,m_stE,x_lenS,↓s_len,↓x_P0,List.cons_append,List.nil_append,s_resc,s_consR,s_res0,↓s_ops,↓s_seq,↓s_cond,↓s_ret,↓s_nil,↓s_op,↓s_opg,↓s_wanted',↓s_wantV,s_wantV,beq_false,↓s_bindS,s_bindS,↓s_bindE,s_bindE,s_bindE_ret,s_norm,↓s_condV,s_condV,s_block_normal,↓s_getp,↓s_getp0,↓s_con,↓s_mov,↓s_pick,↓s_pickE,s_pickE,↓s_bin,s_same,b_neq,s_res0,s_res1,s_tup2,↓iteN_true,↓iteN_false,iteN_true,iteN_false,Nat.zero_add,List.nil_append,Nat.reduceEqDiff,decide_true,decide_false,Bool.not_true,List.getElem?_cons_zero]
        try rfl
      · simp (config:={maxSteps:=2000000}) (disch:=first | omega | (simp only [List.length_cons,List.length_nil,List.length_append,List.length_drop]; omega)) only [s_callF,List.nil_append,List.cons_append,r,t2,t7,t10,gCL,eD,gD10,gD7,gDq,d68',wl,c1',fz,stZ,puZ,ldZ,eF,gFd,eE,gE,R_block_Decode_0,r_end,r_2,r_je,e_ret,d_cons,d_yes,d_nil,e_some,↓x_build,x_aggO,↓x_conv,x_convV,↓s_len,x_lenS,↓x_conv,x_convV,↓x_fieldAddr,x_fieldV,Nat.zero_add,↓s_load,m_load,↓m_load1,m_load1,↓m_st,m_stE,x_lenS,↓s_len,↓x_P0,List.cons_append,List.nil_append,s_resc,s_consR,s_res0,↓s_ops,↓s_seq,↓s_cond,↓s_ret,↓s_nil,↓s_op,↓s_opg,↓s_wanted',↓s_wantV,s_wantV,beq_false,↓s_bindS,s_bindS,↓s_bindE,s_bindE,s_bindE_ret,s_norm,↓s_condV,s_condV,s_block_exit,↓s_getp,↓s_getp0,↓s_con,↓s_mov,↓s_pick,↓s_pickE,s_pickE,↓s_bin,s_same,b_neq,s_res0,s_res1,s_tup2,↓iteN_true,↓iteN_false,iteN_true,iteN_false,Nat.zero_add,List.nil_append,Nat.reduceEqDiff,decide_true,decide_false,Bool.not_true,List.getElem?_cons_zero,if_true]
        try rfl
  obtain ⟨R,eR⟩:∃ R,R_block_Decode_0=R:=⟨_,rfl⟩
  rw [eR] at fin ⊢
  generalize bkV ⟨d,[]⟩ none (some 0) 0=BV at *
  generalize posV a0 l.length 80=PV at *
  generalize posV a0 l.length (80+u)=PV2 at *
  generalize hdV d=HV at *
  generalize Z69=Z at *
  generalize Z68=Z8 at *
  generalize l.length=n at *
  simp (config:={maxSteps:=2000000}) (disch:=first | omega | (simp only [List.length_cons,List.length_nil,List.length_append,List.length_drop]; omega)) only [ehA,d1,sl1,sl2,c1,ep4,stH,puH,eh2,ep6,stp80,stpu,eh3,g36,c4,ep7,eh5,g56,sl3,eh6,g64,ldH,f69,ep10,stB,puB,eh7,g76,ct,epa,eh8,n8,Bool.not_true,↓x_slcS,x_M0,x_M1,↓x_build,x_aggO,s_scope,↓s_range,↓s_len,x_lenS,Nat.zero_add,↓h_new_get,Nat.add_assoc,↓s_load,m_load,↓m_load1,m_load1,↓m_st,m_stE,m_storeI,m_storeE,w_zero,↓s_alloc,x_lenS,↓s_len,↓x_P0,↓x_P1,List.length_cons,List.length_nil,List.drop_succ_cons,List.drop_nil,Nat.reduceAdd,Int.cast_ofNat_Int,↓s_skip,↓s_ops,↓s_seq,↓s_cond,↓s_block,↓s_scope,↓s_nil,↓s_op,↓s_opg,↓s_wanted',↓s_wantV,s_wantV,↓s_bindS,s_bindS,↓s_bindE,s_bindE,s_norm,↓s_condV,s_condV,↓s_getp,↓s_getp0,↓s_get,↓s_con,↓s_os0,↓s_os1,↓s_list0,↓s_list1,↓s_mov,↓s_pick,↓s_pickE,s_pickE,↓s_bin,↓s_call,↓s_ext,s_same,b_neq,b_lss,↓iteN_true,↓iteN_false,iteN_true,iteN_false,Nat.zero_add,List.append_nil,Nat.reduceEqDiff,decide_true,decide_false,Bool.not_true,List.getElem?_cons_zero,List.getElem?_cons_succ,beq_self_eq_true]
  exact fin _ (by (simp only [s_getp,s_getp0,Nat.reduceEqDiff,decide_false,decide_true,iteN_false,iteN_true]; try rfl)) (by (simp only [s_getp,s_getp0,Nat.reduceEqDiff,decide_false,decide_true,iteN_false,iteN_true]; try rfl)) (by (simp only [s_getp,s_getp0,Nat.reduceEqDiff,decide_false,decide_true,iteN_false,iteN_true]; try rfl)) (by (simp only [s_getp,s_getp0,Nat.reduceEqDiff,decide_false,decide_true,iteN_false,iteN_true]; try rfl))
end Go.Eng
namespace Go.Eng
open Go
variable {E:Nat→Option Fn} {X:Orc}
set_option linter.unusedSimpArgs false
set_option linter.unusedVariables false
/-! blocks' bytes,there and back -/
theorem wk_fuel (l:List Nat) (bl:byt l=true) (many:Nat):∀ f dn k,k≤l.length→l.length - k < f→wkV l many f dn k≠none:=by
  intro f
  induction f with
  | zero => intro dn k hk h; omega
  | succ f ih =>
    intro dn k hk h
    unfold wkV
    cases hf:(rxT (l.drop k)).2.2 with
    | true => simp
    | false =>
      simp only
      by_cases hm:dn.length=many
      · rw [if_pos hm]; simp
      · rw [if_neg hm]
        obtain ⟨w1,w2,_,_⟩:=t_at _ (byt_drop bl k) hf
        have e:=congrArg Prod.fst w2
        simp only at e
        have p:=txB_pos (rxT (l.drop k)).1
        have le:=w1.le p
        simp only [List.length_drop,Nat.zero_add] at le
        exact ih _ _ (by omega) (by omega)
theorem wk_at (l:List Nat) (bl:byt l=true) (many:Nat):∀ f dn k dn' k',wkV l many f dn k=some (dn',k')→k≤l.length→∃ os,dn'=dn++os∧(∀ o ∈ os,o.ok∧ckOk o)∧l.drop k=(os.map txB).flatten++l.drop k'∧k'=k+(os.map txB).flatten.length∧k'≤l.length:=by
  intro f
  induction f with
  | zero => intro dn k dn' k' h; cases h
  | succ f ih =>
    intro dn k dn' k' h hk
    have done:(dn,k)=(dn',k')→∃ os,dn'=dn++os∧(∀ o ∈ os,o.ok∧ckOk o)∧l.drop k=(os.map txB).flatten++l.drop k'∧k'=k+(os.map txB).flatten.length∧k'≤l.length:=fun h => by
      cases h
      exact ⟨[],by simp,(by intro o ho; cases ho),by simp,by simp,hk⟩
    unfold wkV at h
    cases hf:(rxT (l.drop k)).2.2 with
    | true => rw [hf] at h; exact done (Option.some.inj h)
    | false =>
      rw [hf] at h
      simp only at h
      by_cases hm:dn.length=many
      · rw [if_pos hm] at h; exact done (Option.some.inj h)
      · rw [if_neg hm] at h
        obtain ⟨w1,w2,w3,w4⟩:=t_at _ (byt_drop bl k) hf
        have e:=congrArg Prod.fst w2
        simp only at e
        have p:=txB_pos (rxT (l.drop k)).1
        have le:=w1.le p
        simp only [List.length_drop,Nat.zero_add] at le
        obtain ⟨os,q1,q2,q3,q4,q5⟩:=ih _ _ dn' k' h (by omega)
        obtain ⟨_,r,hr⟩:=w1
        have hr':l.drop k=txB (rxT (l.drop k)).1++r:=hr
        have hd:l.drop (k+(rxT (l.drop k)).2.1)=r:=by
          rw [← List.drop_drop,e]
          conv => lhs; arg 2; rw [hr']
          rw [List.drop_left]
        refine ⟨(rxT (l.drop k)).1 :: os,by rw [q1,List.append_assoc]; rfl,fun o ho => ?_,?_,?_,q5⟩
        · rcases List.mem_cons.1 ho with rfl | ho
          · exact ⟨w3,w4⟩
          · exact q2 o ho
        · rw [List.map_cons,List.flatten_cons,List.append_assoc,← q3,hd]; exact hr'
        · rw [List.map_cons,List.flatten_cons,List.length_append,q4,e]; omega
theorem at_wk (l:List Nat) (txs:List TxQ) (ok:∀ t ∈ txs,t.ok∧ckOk t) (p:Nat) (rest:List Nat) (h:l.drop p=(txs.map txB).flatten++rest):∀ (n f i:Nat),txs.length - i=n→n < f→i≤txs.length→wkV l txs.length f (txs.take i) (p+((txs.take i).map txB).flatten.length)=some (txs,p+(txs.map txB).flatten.length):=by
  intro n
  induction n with
  | zero =>
    intro f i hi hf hil
    have e:i=txs.length:=by omega
    subst e
    obtain ⟨f,rfl⟩:∃ g,f=g+1:=⟨f - 1,by omega⟩
    rw [List.take_length]
    unfold wkV
    cases (rxT (l.drop (p+(txs.map txB).flatten.length))).2.2 with
    | true => rfl
    | false => simp
  | succ n ih =>
    intro f i hi hf hil
    obtain ⟨f,rfl⟩:∃ g,f=g+1:=⟨f - 1,by omega⟩
    have hlt:i < txs.length:=by omega
    have ht:txs[i]?=some txs[i]:=List.getElem?_eq_getElem hlt
    have hm:txs[i] ∈ txs:=List.getElem_mem hlt
    have sp:(txs.map txB).flatten=((txs.take i).map txB).flatten++(txB txs[i]++((txs.drop (i+1)).map txB).flatten):=by
      conv => lhs; rw [← List.take_append_drop i txs,List.drop_eq_getElem_cons hlt,List.map_append,List.flatten_append,List.map_cons,List.flatten_cons]
    have hd:l.drop (p+((txs.take i).map txB).flatten.length)=txB txs[i]++(((txs.drop (i+1)).map txB).flatten++rest):=by
      rw [← List.drop_drop,h,sp,List.append_assoc,List.drop_left,List.append_assoc]
    have rt:=at_t _ txs[i] (ok _ hm).1 (ok _ hm).2 (⟨rfl,_,hd⟩:At (l.drop (p+((txs.take i).map txB).flatten.length)) (0,false) (txB txs[i]))
    unfold wkV
    rw [rt]
    simp only
    rw [if_neg (by rw [List.length_take]; omega)]
    have:=ih f (i+1) (by omega) (by omega) (by omega)
    rw [List.take_add_one,ht,List.map_append,List.flatten_append,List.length_append] at this
    simp only [Option.toList,List.map_cons,List.map_nil,List.flatten_cons,List.flatten_nil,List.append_nil] at this
    rw [Nat.add_assoc]
    exact this
theorem bkB_len (x:BkQ) (ok:x.hd.ok):(bkB x).length=80+(sizV x.txs.length).length+(x.txs.map txB).flatten.length:=by
  unfold bkB; rw [List.length_append,List.length_append,hdB_len x.hd ok]
theorem bkB_drop (x:BkQ) (ok:x.hd.ok) (more:List Nat):(bkB x++more).drop 80=sizV x.txs.length++((x.txs.map txB).flatten++more):=by
  unfold bkB
  rw [List.append_assoc,List.append_assoc,List.drop_left' (hdB_len x.hd ok)]
theorem bkB_byt (x:BkQ) (ok:x.ok):byt (bkB x)=true:=by
  unfold bkB
  exact byt_app (byt_app (hdB_byt _ ok.h) (sizV_byt _)) (flat_byt _ _ (fun o ho => txB_byt o (ok.t o ho)))
theorem bkB_le (x:BkQ) (ok:x.ok) (g:gbOk x):(bkB x).length≤10000000:=by
  rw [bkB_len x ok.h]
  have z:=sizV_le x.txs.length
  have:=flatB_le x.txs (fun t ht => ⟨ok.t t ht,g.2 t ht⟩)
  have:300000 * x.txs.length≤300000 * 30:=Nat.mul_le_mul_left _ g.1
  omega
/-- a block's bytes,with others behind them -/
theorem dcB_to (x:BkQ) (ok:x.ok) (ck:ckB x) (hn:x.txs.length < 18446744073709551616) (more:List Nat) (f:Nat) (hf:x.txs.length < f):dcB (bkB x++more) f=if more=[] then some x.txs else none:=by
  have hd:=bkB_drop x ok.h more
  have hl:=bkB_len x ok.h
  have lz:(sizV x.txs.length).length=cplV x.txs.length:=sizV_len _
  have hc:comV ((bkB x++more).drop 80)=some (x.txs.length,cplV x.txs.length):=by rw [hd]; exact siz_com _ hn _
  have hp:(bkB x++more).drop (80+cplV x.txs.length)=(x.txs.map txB).flatten++more:=by rw [← List.drop_drop,hd,← lz,List.drop_left]
  have hw:=at_wk (bkB x++more) x.txs (fun t ht => ⟨ok.t t ht,ck t ht⟩) _ more hp x.txs.length f 0 (by omega) hf (Nat.zero_le _)
  have e0:wkV (bkB x++more) x.txs.length f [] (80+cplV x.txs.length)=some (x.txs,80+cplV x.txs.length+(x.txs.map txB).flatten.length):=hw
  unfold dcB
  rw [if_neg (by rw [List.length_append]; omega),hc]
  simp only
  rw [e0]
  simp only
  rw [List.length_append,hl,lz]
  by_cases hm:more=[]
  · rw [if_pos hm,if_pos ⟨trivial,by rw [hm]; rfl⟩]
  · have:0 < more.length:=List.length_pos_iff.2 hm
    rw [if_neg hm,if_neg (fun h => by omega)]
/-- what is read has just these bytes -/
theorem dcB_of (l:List Nat) (bl:byt l=true) (f:Nat) (dn:List TxQ) (d:HdQ) (dok:d.ok) (hB:hdB d=l.take 80) (h:dcB l f=some dn):l=bkB ⟨d,dn⟩∧(⟨d,dn⟩:BkQ).ok∧ckB ⟨d,dn⟩:=by
  unfold dcB at h
  by_cases h80:l.length < 80
  · rw [if_pos h80] at h; cases h
  rw [if_neg h80] at h
  cases hc:comV (l.drop 80) with
  | none => rw [hc] at h; cases h
  | some z =>
    obtain ⟨many,u⟩:=z
    rw [hc] at h
    simp only at h
    obtain ⟨c1,c2,c3,c4⟩:=com_siz _ (byt_drop bl 80) many u hc
    rw [List.length_drop] at c3
    cases hw:wkV l many f [] (80+u) with
    | none => rw [hw] at h; cases h
    | some z =>
      obtain ⟨dn',k'⟩:=z
      rw [hw] at h
      simp only at h
      by_cases hm:dn'.length=many∧k'=l.length
      · rw [if_pos hm] at h
        cases h
        obtain ⟨os,q1,q2,q3,q4,q5⟩:=wk_at l bl many f [] (80+u) _ k' hw (by omega)
        rw [List.nil_append] at q1
        subst q1
        rw [hm.2,List.drop_length,List.append_nil] at q3
        refine ⟨?_,⟨dok,fun t ht => (q2 t ht).1⟩,fun t ht => (q2 t ht).2⟩
        have e1:l=l.take 80++l.drop 80:=(List.take_append_drop 80 l).symm
        have e2:l.drop 80=(l.drop 80).take u++l.drop (80+u):=by rw [← List.drop_drop,List.take_append_drop]
        unfold bkB
        simp only
        rw [hB,hm.1,c1,← q3,List.append_assoc,← e2]
        exact e1
      · rw [if_neg hm] at h; cases h
end Go.Eng
namespace Go.Eng
open Go
variable {E:Nat→Option Fn} {X:Orc}
set_option linter.unusedSimpArgs false
set_option linter.unusedVariables false
structure EnBc (E:Nat→Option Fn):Prop where
  be:EnBe E
  bd:EnBd E
  al:E k_octet_Pen_All=some f_octet_Pen_All
  g6:E k_purserref06_Great=some f_purserref06_Great
  g7:E k_purserref07_Great=some f_purserref07_Great
structure NoBc (X:Orc):Prop where
  be:NoBe X
  bd:NoBd X
  g6:∀ a h,X (.fn k_purserref06_Great) a h=none
  g7:∀ a h,X (.fn k_purserref07_Great) a h=none
theorem NoBc.al:NoBc (alT k_purserlaw07_alive):=by repeat' (first | exact fun _ _ => rfl | exact fun _ _ _ => rfl | exact fun _ => rfl | constructor)
theorem fuel_of (l:List Nat) (bl:byt l=true) (f:Nat) (hl:l.length < f):∀ many u,comV (l.drop 80)=some (many,u)→wkV l many f [] (80+u)≠none:=by
  intro many u hc
  obtain ⟨_,c2,c3,_⟩:=com_siz _ (byt_drop bl 80) many u hc
  have u1:1≤u:=by rw [c2]; unfold cplV; (repeat' split) <;> omega
  rw [List.length_drop] at c3
  exact wk_fuel l bl many f [] _ (by omega) (by omega)
end Go.Eng
namespace Go.Eng
open Go
variable {E:Nat→Option Fn} {X:Orc}
set_option linter.unusedSimpArgs false
set_option linter.unusedVariables false
theorem xs6 {α:Type} {xs:List α} (h:xs.length=6):∃ a b c d e f,xs=[a,b,c,d,e,f]:=by
  match xs,h with
  | [a,b,c,d,e,f],_ => exact ⟨a,b,c,d,e,f,rfl⟩
def BkAt (h:H) (x:BkQ) (vs:List V):Prop:=∃ a,vs=hdV x.hd++[.slice a x.txs.length none 4]∧∃ parts,Al2 (TxAt h) x.txs parts∧(x.txs=[]∨∃ k md,a=some (k,0)∧k < h.next∧h.get k=some (.cells parts.flatten md))
theorem BkAt.row {h:H} {txs:List TxQ} {a:Option (Nat × Nat)} (ok:∀ t ∈ txs,t.ok) (r:∃ parts,Al2 (TxAt h) txs parts∧(txs=[]∨∃ k md,a=some (k,0)∧k < h.next∧h.get k=some (.cells parts.flatten md))):RowG (fun j => j < h.next) 4 TxC h txs a 4:=by
  obtain ⟨parts,al,t⟩:=r
  have al2:Al2 (TxC (fun j => j < h.next) h) txs parts:=by
    clear t
    induction al with
    | nil => exact .nil
    | cons h1 _ ih =>
      obtain ⟨a,b,e,s1,s2⟩:=h1
      exact .cons ⟨a,b,none,none,35,2,e,s1.row (ok _ (List.mem_cons_self ..)).io,s2.row⟩ (ih (fun t ht => ok t (List.mem_cons_of_mem _ ht)))
  exact rowG_of (fun o p h => h.fit.1) al2 a t
section
variable {Hh:Type} {enc:TypeId × Value→Hh} {P:Program} {W:World} {spare:Nat→Bool} {held:Bool} {base:Nat}
theorem trod_hd {e ub:TypeId} {f0 f1 f2 f3 f4 f5:Field} (he:P.underlying e=some (.struct #[f0,f1,f2,f3,f4,f5])) (h0:P.underlying f0.type=some (.int .u32)) (h1:P.underlying f1.type=some (.array 32 ub)) (h2:P.underlying f2.type=some (.array 32 ub)) (h3:P.underlying f3.type=some (.int .u32)) (h4:P.underlying f4.type=some (.int .u32)) (h5:P.underlying f5.type=some (.int .u32)) (hu:P.underlying ub=some (.int .u8))
    {g:Nat} {cs:List Value} {x:DataW Hh × List MemPlace} (hx:DataW.trod enc P W base spare held g e cs=some x) :
    ∃ d:HdQ,d.ok∧∀ n,Rd (absD P (n+3) e x.1) (fun _ vs => vs=hdV d):=by
  obtain ⟨xs,m,_,rfl,_,hl,hf⟩:=DataW.trod_struct he hx
  obtain ⟨x0,x1,x2,x3,x4,x5,rfl⟩:=xs6 hl
  obtain ⟨d1,p1⟩:=x1
  obtain ⟨d2,p2⟩:=x2
  obtain ⟨v0,_,e0,w0⟩:=DataW.trod_int h0 (hf 0 f0 rfl)
  obtain ⟨s1,l1,b1,r1⟩:=trod_hash' h1 hu (hf 1 f1 rfl)
  obtain ⟨s2,l2,b2,r2⟩:=trod_hash' h2 hu (hf 2 f2 rfl)
  obtain ⟨v3,_,e3,w3⟩:=DataW.trod_int h3 (hf 3 f3 rfl)
  obtain ⟨v4,_,e4,w4⟩:=DataW.trod_int h4 (hf 4 f4 rfl)
  obtain ⟨v5,_,e5,w5⟩:=DataW.trod_int h5 (hf 5 f5 rfl)
  simp [Lit.wf,IntKind.min,IntKind.max,IntKind.signed,IntKind.bits] at w0 w3 w4 w5
  obtain ⟨n0,rfl⟩:=Int.eq_ofNat_of_zero_le w0.1
  obtain ⟨n3,rfl⟩:=Int.eq_ofNat_of_zero_le w3.1
  obtain ⟨n4,rfl⟩:=Int.eq_ofNat_of_zero_le w4.1
  obtain ⟨n5,rfl⟩:=Int.eq_ofNat_of_zero_le w5.1
  refine ⟨⟨n0,s1,s2,n3,n4,n5⟩,⟨by show n0 < _; omega,l1,b1,l2,b2,by show n3 < _; omega,by show n4 < _; omega,by show n5 < _; omega⟩,fun j => ?_⟩
  have hz:=rd_struct (Hh:=Hh) (j+2) he [x0.1,d1,d2,x3.1,x4.1,x5.1] rfl (Rs:=[_,_,_,_,_,_]) (.cons (by rw [e0]; exact rd_int (j+1) h0 (n0:Int)) (.cons (rd_hash j r1) (.cons (rd_hash j r2) (.cons (by rw [e3]; exact rd_int (j+1) h3 (n3:Int)) (.cons (by rw [e4]; exact rd_int (j+1) h4 (n4:Int)) (.cons (by rw [e5]; exact rd_int (j+1) h5 (n5:Int)) .nil))))))
  intro nx
  obtain ⟨vs,bls,n1,q1,q2,q3⟩:=hz nx
  refine ⟨vs,bls,n1,q1,q2,fun h hh => ?_⟩
  obtain ⟨parts,rfl,al⟩:=q3 h hh
  cases al with | cons a0 al => cases al with | cons a1 al => cases al with | cons a2 al => cases al with | cons a3 al => cases al with | cons a4 al => cases al with | cons a5 al =>
  cases al
  rw [a0,a1,a2,a3,a4,a5]
  unfold hdV
  simp
theorem trod_blk {e et:TypeId} {b0 b1:Field} {k0 k1 k2 k3 k4 k5:Field} {ei eo ub eb:TypeId} {t0 t1 t2 t3 f0 f1 f2 g0 g1 o0 o1:Field} (hbe:P.underlying e=some (.struct #[b0,b1])) (hbh:P.underlying b0.type=some (.struct #[k0,k1,k2,k3,k4,k5])) (q0:P.underlying k0.type=some (.int .u32)) (q1:P.underlying k1.type=some (.array 32 ub)) (q2:P.underlying k2.type=some (.array 32 ub)) (q3:P.underlying k3.type=some (.int .u32)) (q4:P.underlying k4.type=some (.int .u32)) (q5:P.underlying k5.type=some (.int .u32)) (hbt:P.underlying b1.type=some (.slice et))
    (het:P.underlying et=some (.struct #[t0,t1,t2,t3])) (hv:P.underlying t0.type=some (.int .u32)) (hi:P.underlying t1.type=some (.slice ei)) (hoo:P.underlying t2.type=some (.slice eo)) (hk:P.underlying t3.type=some (.int .u32))
    (he:P.underlying ei=some (.struct #[f0,f1,f2])) (ho:P.underlying f0.type=some (.struct #[g0,g1])) (hh:P.underlying g0.type=some (.array 32 ub)) (hu:P.underlying ub=some (.int .u8)) (hn:P.underlying g1.type=some (.int .u32)) (hs:P.underlying f1.type=some (.slice eb)) (hb:P.underlying eb=some (.int .u8)) (hq:P.underlying f2.type=some (.int .u32))
    (heo:P.underlying eo=some (.struct #[o0,o1])) (h0:P.underlying o0.type=some (.int .i64)) (h1:P.underlying o1.type=some (.slice eb)) (hc:P.cellsOf eb=1) (hci:P.cellsOf ei=35) (hco:P.cellsOf eo=2) (hct:P.cellsOf et=4)
    {f:Nat} {cs:List Value} {x:DataW Hh × List MemPlace} (hx:DataW.trod enc P W base spare held f e cs=some x) :
    ∃ y:BkQ,y.ok∧(P.bytesOf eb=1→∀ si so st,P.bytesOf ei=si→0 < si→P.bytesOf eo=so→0 < so→P.bytesOf et=st→0 < st→∀ b,(∀ n ∈ x.1.weights P e,n≤b)→y.txs.length≤b∧∀ t ∈ y.txs,(t.ins.length≤b∧∀ o ∈ t.ins,o.l.length≤b)∧(t.outs.length≤b∧∀ o ∈ t.outs,o.l.length≤b))∧∀ n,Rd (absD P (n+8) e x.1) (fun h vs => BkAt h y vs):=by
  obtain ⟨xs,m,_,rfl,_,hl,hf⟩:=DataW.trod_struct hbe hx
  obtain ⟨x0,x1,rfl⟩:=xs2 hl
  obtain ⟨hd,hok,r0⟩:=trod_hd hbh q0 q1 q2 q3 q4 q5 hu (hf 0 b0 rfl)
  obtain ⟨d1,p1⟩:=x1
  obtain ⟨txs,i1,i2,i3⟩:=trod_row TxAt TxQ.ok (fun x t => P.bytesOf eb=1→∀ si so,P.bytesOf ei=si→0 < si→P.bytesOf eo=so→0 < so→∀ b,(∀ n ∈ x.weights P et,n≤b)→(t.ins.length≤b∧∀ o ∈ t.ins,o.l.length≤b)∧(t.outs.length≤b∧∀ o ∈ t.outs,o.l.length≤b)) 6 hbt hct (fun g cs x hx => by
    obtain ⟨t,a,b,c⟩:=trod_tx het hv hi hoo hk he ho hh hu hn hs hb hq heo h0 h1 hc hci hco hx
    exact ⟨t,⟨a,b⟩,c⟩) (hf 1 b1 rfl)
  refine ⟨⟨hd,txs⟩,⟨hok,i1⟩,fun hb1 si so st e1 e2 e3 e4 e5 e6 b hB => ?_,fun j => ?_⟩
  · have wB:∀ n ∈ DataW.weights P b1.type d1,n≤b:=fun n hn => hB n (by
      show n ∈ DataW.weights P e (.agg [x0.1,d1])
      simp only [DataW.weights,hbe,List.map_cons,List.map_nil,DataW.weightsEach,List.mem_append]
      exact .inr (.inl hn))
    obtain ⟨a1,a2⟩:=i2 st b e5 e6 wB
    refine ⟨a1,fun t ht => ?_⟩
    obtain ⟨x,h1,h2⟩:=a2 t ht
    exact h1 hb1 si so e1 e2 e3 e4 b h2
  have hz:=rd_struct (Hh:=Hh) (j+7) hbe [x0.1,d1] rfl (Rs:=[_,_]) (.cons (r0 (j+4)) (.cons (i3 j) .nil))
  intro nx
  obtain ⟨vs,bls,n1,q1,q2,q3⟩:=hz nx
  refine ⟨vs,bls,n1,q1,q2,fun h hh => ?_⟩
  obtain ⟨parts,rfl,al⟩:=q3 h hh
  cases al with | cons a0 al => cases al with | cons a1 al =>
  cases al
  obtain ⟨a,ea,sa⟩:=a1
  exact ⟨a,by rw [a0,ea]; simp,sa⟩
end
end Go.Eng
