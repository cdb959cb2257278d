/- What functions of the program come to: own work. -/
import Derived.Test.YtnhjmgkmjgfiiaaSsI
namespace Go.Eng
open Go
variable {E:Nat→Option Fn} {X:Orc}
set_option linter.unusedSimpArgs false
set_option linter.unusedVariables false
theorem gg_no {gs:List (List Rq)} (h:ggR gs=false):gs.length≤20∧∀ g ∈ gs,g.length≤60∧∀ o ∈ g,¬ 500 < o.l.length:=by
  unfold ggR at h
  rw [Bool.or_eq_false_iff] at h
  refine ⟨by have:=of_decide_eq_false h.1; omega,fun g hg => ?_⟩
  have h2:=List.any_eq_false.1 h.2 g hg
  have h3:grR g=false:=by simpa using h2
  unfold grR at h3
  rw [Bool.or_eq_false_iff] at h3
  exact ⟨by have:=of_decide_eq_false h3.1; omega,fun o ho => by have:=List.any_eq_false.1 h3.2 o ho; simpa using this⟩
/-! nothing but groups is read -/
structure OnV (s:List Nat) (at_ num:Nat) (r:List (List Rq) × Nat):Prop where
  lo:at_≤r.2
  hi:r.2≤s.length
  nw:num+r.1.length≤18446744073709551616
  ok:∀ i g,r.1[i]?=some g→sgOk (num+i) g=true
  el:∀ g ∈ r.1,∀ o ∈ g,o.ok∧o.l.length≤s.length
  b:(s.drop at_).take (r.2 - at_)=gsB num r.1
  no:(num+r.1.length) % 18446744073709551616=0∨∀ n,s.length < n→gaV ((num+r.1.length) % 18446744073709551616) n (s.drop r.2) []=none
theorem on_of (s:List Nat) (bs:byt s=true):∀ (n at_ num:Nat),at_≤s.length→num < 18446744073709551616→s.length - at_ < n→OnV s at_ num (grV s n at_ num):=by
  intro n
  induction n with
  | zero => intro at_ num h1 h2 h3; omega
  | succ n ih =>
    intro at_ num hat hn hf
    rw [gr_succ]
    by_cases hz:num=0
    · rw [if_pos hz]
      subst hz
      exact ⟨Nat.le_refl _,hat,by simp,fun i g h => by simp at h,fun g h => by simp at h,by simp [gsB],.inl rfl⟩
    rw [if_neg hz]
    cases hg:gaV num (s.length+1) (s.drop at_) [] with
    | none =>
      rw [gaR_none hg,if_pos rfl]
      refine ⟨Nat.le_refl _,hat,by simp; omega,fun i g h => by simp at h,fun g h => by simp at h,by simp [gsB],.inr (fun n hn' => ?_)⟩
      rw [List.length_nil,Nat.add_zero,Nat.mod_eq_of_lt hn,ga_fuel num n (s.length+1) _ _ (byt_drop bs _) (by rw [List.length_drop]; omega) (by rw [List.length_drop]; omega)]
      exact hg
    | some w =>
      obtain ⟨g,j⟩:=w
      rw [gaR_some hg,if_neg (by simp)]
      obtain ⟨g',q1,q2,q3,q4,q5,q6⟩:=ga_of num _ _ _ g j (byt_drop bs _) hg
      rw [List.nil_append] at q1
      subst q1
      rw [List.length_drop] at q5
      obtain ⟨f1,f2,f3,f4,f5,f6,f7⟩:=ih (at_+j) ((num+1) % 18446744073709551616) (by omega) (Nat.mod_lt _ (by omega)) (by omega)
      simp only
      generalize hr:grV s n (at_+j) ((num+1) % 18446744073709551616)=r at *
      have wrap:r.1=[]∨num+1 < 18446744073709551616:=by
        by_cases hw:num+1 < 18446744073709551616
        · exact .inr hw
        · left
          have e0:(num+1) % 18446744073709551616=0:=by omega
          rw [e0] at f4
          cases hc:r.1 with
          | nil => rfl
          | cons a t =>
            have:=f4 0 a (by rw [hc]; rfl)
            exact absurd (sgOk_ok this).1 (by omega)
      have so:sgOk num g=true:=by
        unfold sgOk noM
        simp only [Bool.and_eq_true,decide_eq_true_eq,List.all_eq_true]
        exact ⟨⟨⟨by omega,q2⟩,fun o ho => (q3 o ho).1⟩,fun o ho => (q3 o ho).2.1⟩
      have hb:(s.drop at_).take j=sgB num g:=q4
      refine ⟨by simp only; omega,f2,?_,?_,?_,?_,?_⟩
      · simp only [List.length_cons]
        rcases wrap with w | w
        · rw [w]; simp; omega
        · rw [Nat.mod_eq_of_lt w] at f3; omega
      · intro i g' hi
        cases i with
        | zero => simp at hi; subst hi; exact so
        | succ i =>
          have hi':r.1[i]?=some g':=by simpa using hi
          rcases wrap with w | w
          · rw [w] at hi'; simp at hi'
          · have:=f4 i g' hi'
            rw [Nat.mod_eq_of_lt w] at this
            rw [show num+(i+1)=num+1+i by omega]; exact this
      · intro g' hg'
        rcases List.mem_cons.1 hg' with rfl | hg'
        · exact fun o ho => ⟨(q3 o ho).2.2.1,by have:=(q3 o ho).2.2.2; rw [List.length_drop] at this; omega⟩
        · exact f5 g' hg'
      · simp only
        have e1:r.2 - at_=j+(r.2 - (at_+j)):=by omega
        rw [e1,List.take_add,hb,List.drop_drop,f6]
        show _=sgB num g++gsB (num+1) r.1
        rcases wrap with w | w
        · rw [w]; rfl
        · rw [Nat.mod_eq_of_lt w]
      · simp only [List.length_cons]
        have e2:(num+(r.1.length+1)) % 18446744073709551616=((num+1) % 18446744073709551616+r.1.length) % 18446744073709551616:=by omega
        rw [e2]; exact f7
theorem gs_small:∀ (gs:List (List Rq)) (n i:Nat) (g:List Rq),gs[i]?=some g→(sgB (n+i) g).length+(gsB n (gs.take i)).length≤(gsB n gs).length:=by
  intro gs n i g h
  rw [gsB_split n gs i g h,List.length_append,List.length_append]; omega
end Go.Eng
namespace Go.Eng
open Go
variable {E:Nat→Option Fn} {X:Orc}
set_option linter.unusedSimpArgs false
set_option linter.unusedVariables false
theorem GwF.w7k {K:Nat→Prop} {lo:Nat} {h:H} {gs:List (List Rq)} {a:Option (Nat × Nat)} {c:Option Nat} {e:Nat} (r:GwF K lo h gs a c e):gs=[]∨∃ q0 vs0 md0,a=some (q0,0)∧e=1∧W7I q0 vs0 md0 gs (fun j => ¬ K j) h h:=by
  rcases r with ⟨r,_⟩ | ⟨h1,q,md,vs,e1,e2,e3,g,hv,hm,hl,hq,at_⟩
  · exact .inl r
  · refine .inr ⟨q,vs,md,e1,e3,g,fun i gg hg => ?_,fun _ _ => rfl,rfl⟩
    obtain ⟨b,cb,eb,e4,s⟩:=at_ i gg hg
    refine ⟨b,cb,eb,e4,?_⟩
    rcases s with s | ⟨q2,vs2,md2,f1,f2,f3,f4,f5,f6,f7,f8⟩
    · exact .inl s
    · refine .inr ⟨q2,vs2,md2,f1,f2,f5,f6,fun h => h f3.1,f7,fun k o ho => ?_⟩
      obtain ⟨b2,cb2,eb2,e5,s2⟩:=f8 k o ho
      have p0:vs2[k * 2]?=some (.int .i64 o.kind):=by
        have:=congrArg (fun l => l[0]?) e5
        simpa [List.getElem?_take,List.getElem?_drop] using this
      have p1:vs2[k * 2+1]?=some (.slice b2 o.l.length cb2 eb2):=by
        have:=congrArg (fun l => l[1]?) e5
        simpa [List.getElem?_take,List.getElem?_drop] using this
      refine ⟨⟨_,p0⟩,b2,cb2,eb2,p1,fun hne => ?_⟩
      rcases s2 with s2 | ⟨d,m',w1,w2,w3,w4,w5,w6⟩
      · exact absurd s2 hne
      · exact ⟨d,_,m',w1,w2,w5,w6,Nat.le_refl _,fun h => h w3.1⟩
theorem GwF.within {K K':Nat→Prop} {lo:Nat} {h:H} {gs:List (List Rq)} {a:Option (Nat × Nat)} {c:Option Nat} {e:Nat} (r:GwF K lo h gs a c e) (w:∀ i,K i→i < h.next→K' i):GwF K' lo h gs a c e:=by
  rcases r with r | ⟨h1,q,md,vs,e1,e2,e3,g,hv,hm,hl,hq,at_⟩
  · exact .inl r
  · exact .inr ⟨h1,q,md,vs,e1,e2,e3,g,hv,hm,hl,hq,fun i o ho => by
      obtain ⟨b,cb,eb,e4,s⟩:=at_ i o ho
      exact ⟨b,cb,eb,e4,s.mono (Nat.le_refl _) (fun _ _ _ => rfl) (fun i hk hi => ⟨w i hk.1 hi,hk.2⟩)⟩⟩
set_option maxRecDepth 100000 in
set_option maxHeartbeats 4000000 in
theorem law_SegmentReads (e:EnSg E) (x:NoSg X) (ed:EnDg E) (xd:NoDg X) (es:EnSs E) (xs:NoSs X) (esp:E k_purserlaw17_spoil=some f_purserlaw17_spoil) (xsp:∀ a h,X (.fn k_purserlaw17_spoil) a h=none) (el:E k_purserlaw17_SegmentReads=some f_purserlaw17_SegmentReads) (xl:∀ a h,X (.fn k_purserlaw17_SegmentReads) a h=none) (M:Nat) (hM:1000000 < M) (s:List Nat) (bs:byt s=true) (num:Nat) (hnum:num < 18446744073709551616) (other:List (List Rq)) (ok:∀ g ∈ other,∀ o ∈ g,o.ok) (hb:other.length < 9223372036854775807) (hbg:∀ g ∈ other,g.length < 9223372036854775807) (a0 a2_:Option (Nat × Nat)) (h:H) (ss:SrcH h a0 1 s) (oh:GgsH h a2_ other) :
    ∃ h2,callX E X (M+27) (.fn k_purserlaw17_SegmentReads) [.slice a0 s.length none 1,.int .u64 (num:Int),.slice a2_ other.length none 1] h=some (.bool true,h2):=by
  rw [x_cfn el _ _ (Nat.le_of_ble_eq_true rfl) (xl _ _)]
  by_cases hs:20000 < s.length
  · have d0:decide ((20000:Int) < (s.length:Int))=true:=decide_eq_true (by omega)
    generalize s.length=sl at *
    generalize other.length=L at *
    simp (config:={maxSteps:=2000000}) (disch:=first | omega | rfl | (simp only [ofI_len,List.length_append,List.length_take,List.length_drop,List.length_cons,List.length_nil,List.length_replicate,List.length_set]; done) | (simp only [ofI_len,List.length_append,List.length_take,List.length_drop,List.length_cons,List.length_nil,List.length_replicate,List.length_set]; omega)) only [d0,↓s_len,x_lenS,Nat.zero_add,x_lenS,↓s_len,Nat.reduceAdd,s_res0,↓s_ops,↓s_seq,↓s_cond,↓s_ret,↓s_nil,↓s_op,↓s_opg,↓s_wanted',↓s_wantV,s_wantV,beq_false,↓s_bindS,s_bindS,↓s_bindE,s_bindE,s_bindE_ret,s_norm,↓s_condV,s_condV,↓s_getp,↓s_get,↓s_con,↓s_list0,↓s_list1,↓s_mov,↓s_pick,↓s_pickE,s_pickE,↓s_bin,s_same,b_gtr,s_end,s_res0,s_res1,s_tup1,↓iteN_true,↓iteN_false,iteN_true,iteN_false,Nat.zero_add,Nat.reduceEqDiff,decide_true,decide_false,Bool.not_true]
    exact ⟨_,rfl⟩
  have d0:decide ((20000:Int) < (s.length:Int))=false:=decide_eq_false (by omega)
  have rowO:=oh.row
  have gr:=great7_go e x (M+24) (by omega) other hb hbg a2_ none 1 h _ rowO
  replace gr:callX E X (M+26) (.fn k_purserref17_Great) [.slice a2_ other.length none 1] h=_:=gr
  have y1:decide ((0:Int) < 1)=true:=rfl
  have y0:decide ((0:Int) < 0)=false:=rfl
  cases hgr:ggR other with
  | true =>
    rw [hgr,if_pos rfl] at gr
    generalize s.length=sl at *
    generalize other.length=L at *
    simp (config:={maxSteps:=2000000}) (disch:=first | omega | rfl | (simp only [ofI_len,List.length_append,List.length_take,List.length_drop,List.length_cons,List.length_nil,List.length_replicate,List.length_set]; done) | (simp only [ofI_len,List.length_append,List.length_take,List.length_drop,List.length_cons,List.length_nil,List.length_replicate,List.length_set]; omega)) only [d0,gr,↓s_len,x_lenS,Nat.zero_add,x_lenS,↓s_len,Int.reduceLT,Nat.reduceAdd,s_res0,↓s_ops,↓s_seq,↓s_cond,↓s_ret,↓s_nil,↓s_op,↓s_opg,↓s_wanted',↓s_wantV,s_wantV,↓s_bindS,s_bindS,↓s_bindE,s_bindE,s_bindE_ret,s_norm,↓s_condV,s_condV,↓s_getp,↓s_get,↓s_con,↓s_os0,↓s_os1,↓s_list0,↓s_list1,↓s_mov,↓s_pick,↓s_pickE,s_pickE,↓s_bin,↓s_call,s_same,b_gtr,s_end,s_res0,s_res1,s_tup1,↓iteN_true,↓iteN_false,iteN_true,iteN_false,Nat.zero_add,Nat.reduceEqDiff,decide_true,decide_false,beq_self_eq_true]
    exact ⟨_,rfl⟩
  | false =>
  rw [hgr,if_neg (by simp)] at gr
  obtain ⟨hl,hso⟩:=gg_no hgr
  clear hgr
  -- what is read
  obtain ⟨ao,co,eo,h1,r1,nw1⟩:=twinv_go ed.rf.tw xd.rf.tw (M+25) s (by omega) a0 none 1 h ss
  obtain ⟨h2,a2,c2,e2,r2,k2,row2⟩:=segreadw_go e x M hM s bs (by omega) num hnum ao co eo (SB.of_wb nw1.wb) h1 nw1.wb.src
  obtain ⟨h3,a3,c3,e3,r3,k3,row3⟩:=dread_go ed xd (M - 250080) s bs (by omega) num hnum a0 h2 (ss.mono (nw1.kp.trans k2))
  rw [show M - 250080+250106=M+26 by omega] at r3
  obtain ⟨_,f2,f3,f4,f5,f6,f7⟩:=on_of s bs (s.length+1) 0 num (Nat.zero_le _) hnum (by omega)
  have eG:srR s num=grV s (s.length+1) 0 num:=rfl
  rw [← eG] at f2 f3 f4 f5 f6 f7
  obtain ⟨W,eW⟩:∃ W,srR s num=W:=⟨_,rfl⟩
  have again:=fun (h:H) (sr:SrcH h ao eo s) => segread_go e x M hM s bs (by omega) num hnum ao co eo (SB.of_wb nw1.wb) h sr
  rw [eW] at r2 row2 r3 row3 f2 f3 f4 f5 f6 f7 again
  obtain ⟨L,en_⟩:=W
  simp only at r2 row2 r3 row3 f2 f3 f4 f5 f6 f7 again
  rw [List.drop_zero,Nat.sub_zero] at f6
  have lb:(gsB num L).length≤20000:=by rw [← f6,List.length_take]; omega
  have ge:=gsB_ge L num
  have oks:∀ g ∈ L,g.length≤20000∧∀ o ∈ g,o.ok∧o.l.length≤20000:=fun g hg => by
    obtain ⟨i,hi,rfl⟩:=List.getElem_of_mem hg
    have h1:=gs_small L num i _ (List.getElem?_eq_getElem hi)
    have h2:=sgB_ge (num+i) L[i]
    exact ⟨by omega,fun o ho => ⟨(f5 _ hg o ho).1,by have:=(f5 _ hg o ho).2; omega⟩⟩
  have oA:∀ g ∈ L,g.length≤1000000∧g.length < M+24∧∀ o ∈ g,o.ok:=fun g hg => ⟨by have:=(oks g hg).1; omega,by have:=(oks g hg).1; omega,fun o ho => ((oks g hg).2 o ho).1⟩
  have oA':∀ g ∈ L,g.length≤1000000∧g.length < M+19∧∀ o ∈ g,o.ok:=fun g hg => ⟨by have:=(oks g hg).1; omega,by have:=(oks g hg).1; omega,fun o ho => ((oks g hg).2 o ho).1⟩
  have oB:∀ g ∈ L,g.length < 9223372036854775807∧∀ o ∈ g,o.ok:=fun g hg => ⟨by have:=(oks g hg).1; omega,(oA g hg).2.2⟩
  have oO:∀ g ∈ other,g.length < 9223372036854775807∧∀ o ∈ g,o.ok:=fun g hg => ⟨by have:=(hso g hg).1; omega,ok g hg⟩
  have kn1:=nw1.kp.1
  have kn2:=k2.1
  have kn3:=k3.1
  have k03:Kp h h3:=(nw1.kp.trans k2).trans k3
  have row2g:=row2.gg
  have q1:=same7_go e x (M+24) L L (by omega) (by omega) (by omega) oA oB a2 a3 c2 c3 e2 e3 h3 _ _ (row2g.kp k3).gs row3.gs
  rw [decide_eq_true rfl] at q1
  obtain ⟨h4,q2,k4⟩:=ssame_go es xs (M+19) L other (by omega) (by omega) (by omega) oA' oO a2 a2_ c2 none e2 1 h3 _ _ (row2g.kp k3).gs (rowO.kp k03)
  have q3:=same7_go e x (M+24) L other (by omega) (by omega) (by omega) oA oO a3 a2_ c3 none e3 1 h4 _ _ (row3.kp k4).gs (rowO.kp (k03.trans k4))
  obtain ⟨h5,q4,k5⟩:=ssame_go es xs (M+19) L L (by omega) (by omega) (by omega) oA' oB a2 a3 c2 c3 e2 e3 h4 _ _ ((row2g.kp k3).kp k4).gs (row3.kp k4).gs
  rw [decide_eq_true rfl] at q4
  have k35:=k4.trans k5
  have k25:=k3.trans k35
  have kn5:=k35.1
  -- what is written over
  have roww:GwF (fun j => h1.next≤j∧j < h2.next) h1.next h5 L a2 c2 e2:=(row2.within (K':=fun j => h1.next≤j∧j < h2.next) (fun i hk hi => ⟨hk,hi⟩)).kp k25
  obtain ⟨h6,q5,n6,f6'⟩:=spoil7_go esp xsp (M+25) L (by omega) (by omega) (fun g hg => ⟨by have:=(oks g hg).1; omega,by have:=(oks g hg).1; omega,fun o ho => ⟨by have:=((oks g hg).2 o ho).2; omega,by have:=((oks g hg).2 o ho).2; omega⟩⟩) a2 c2 e2 (fun j => ¬ (h1.next≤j∧j < h2.next)) h5 roww.w7k
  have k16:Kp h1 h6:=⟨by omega,fun j hj => by rw [f6' j (by omega),k25.2 _ (by omega),k2.2 _ hj]⟩
  have k06:=nw1.kp.trans k16
  have row36:GgF (geK h2.next) h2.next h6 L a3 c3 e3:=(row3.kp k35).mono (by omega) (fun i hk hi => f6' i (by have:h2.next≤i:=hk; omega)) (fun i hk hi => f6' i (by omega))
  obtain ⟨h7,a7,c7,e7,q6,k7,row7⟩:=again h6 (nw1.wb.kp k16).src
  have s1:=str_src (nw1.wb.kp (k16.trans k7)).src bs co
  have s2:=str_src (ss.mono (k06.trans k7)) bs none
  have q7:=same7_go e x (M+24) L L (by omega) (by omega) (by omega) oA oB a7 a3 c7 c3 e7 e3 h7 _ _ row7.gs (row36.kp k7).gs
  rw [decide_eq_true rfl] at q7
  have z1:decide (s=s)=true:=decide_eq_true rfl
  have z2:decide ((en_:Int)=(en_:Int))=true:=decide_eq_true rfl
  have zb1:(!(true == true))=false:=rfl
  have zb2:(!(false == false))=false:=rfl
  replace q1:callX E X (M+26) (.fn k_purserref17_Same) [.slice a2 L.length c2 e2,.slice a3 L.length c3 e3] h3=_:=q1
  replace q2:callX E X (M+26) (.fn k_segment_Same) [.slice a2 L.length c2 e2,.slice a2_ other.length none 1] h3=_:=q2
  replace q3:callX E X (M+26) (.fn k_purserref17_Same) [.slice a3 L.length c3 e3,.slice a2_ other.length none 1] h4=_:=q3
  replace q4:callX E X (M+26) (.fn k_segment_Same) [.slice a2 L.length c2 e2,.slice a3 L.length c3 e3] h4=_:=q4
  replace q7:callX E X (M+26) (.fn k_purserref17_Same) [.slice a7 L.length c7 e7,.slice a3 L.length c3 e3] h7=_:=q7
  obtain ⟨B,eB⟩:∃ B,decide (L=other)=B:=⟨_,rfl⟩
  rw [eB] at q2 q3
  generalize L.length=LL at *
  generalize other.length=OL at *
  generalize s.length=sl at *
  cases B with
  | true =>
    simp (config:={maxSteps:=2000000}) (disch:=first | omega | rfl | (simp only [ofI_len,List.length_append,List.length_take,List.length_drop,List.length_cons,List.length_nil,List.length_replicate,List.length_set]; done) | (simp only [ofI_len,List.length_append,List.length_take,List.length_drop,List.length_cons,List.length_nil,List.length_replicate,List.length_set]; omega)) only [d0,gr,r1,r2,r3,q1,q2,q3,q4,q5,q6,q7,s1,s2,b_neqb,b_seq,↓ns_b2s,Bool.not_true,↓s_len,x_lenS,Nat.zero_add,x_lenS,↓s_len,Int.reduceLT,Nat.reduceAdd,s_res0,↓s_skip,↓s_ops,↓s_seq,↓s_cond,↓s_ret,↓s_nil,↓s_op,↓s_opg,↓s_wanted',↓s_wantV,s_wantV,↓s_bindS,s_bindS,↓s_bindE,s_bindE,s_norm,↓s_condV,s_condV,↓s_getp,↓s_get,↓s_con,↓s_os0,↓s_os1,↓s_list0,↓s_list1,↓s_mov,↓s_pick,↓s_pickE,s_pickE,↓s_bin,↓s_un,↓s_call,↓s_ext,s_same,b_neq,b_gtr,b_neqb,u_not,s_end,s_res0,s_res1,s_tup1,↓iteN_true,↓iteN_false,iteN_true,iteN_false,Nat.zero_add,Nat.reduceEqDiff,decide_true,decide_false,Bool.not_true,List.getElem?_cons_zero,List.getElem?_cons_succ,beq_self_eq_true]
    exact ⟨_,rfl⟩
  | false =>
    simp (config:={maxSteps:=2000000}) (disch:=first | omega | rfl | (simp only [ofI_len,List.length_append,List.length_take,List.length_drop,List.length_cons,List.length_nil,List.length_replicate,List.length_set]; done) | (simp only [ofI_len,List.length_append,List.length_take,List.length_drop,List.length_cons,List.length_nil,List.length_replicate,List.length_set]; omega)) only [d0,gr,r1,r2,r3,q1,q2,q3,q4,q5,q6,q7,s1,s2,b_neqb,b_seq,↓ns_b2s,Bool.not_true,↓s_len,x_lenS,Nat.zero_add,x_lenS,↓s_len,Int.reduceLT,Nat.reduceAdd,s_res0,↓s_skip,↓s_ops,↓s_seq,↓s_cond,↓s_ret,↓s_nil,↓s_op,↓s_opg,↓s_wanted',↓s_wantV,s_wantV,↓s_bindS,s_bindS,↓s_bindE,s_bindE,s_norm,↓s_condV,s_condV,↓s_getp,↓s_get,↓s_con,↓s_os0,↓s_os1,↓s_list0,↓s_list1,↓s_mov,↓s_pick,↓s_pickE,s_pickE,↓s_bin,↓s_un,↓s_call,↓s_ext,s_same,b_neq,b_gtr,b_neqb,u_not,s_end,s_res0,s_res1,s_tup1,↓iteN_true,↓iteN_false,iteN_true,iteN_false,Nat.zero_add,Nat.reduceEqDiff,decide_true,decide_false,Bool.not_true,List.getElem?_cons_zero,List.getElem?_cons_succ,beq_self_eq_true]
    exact ⟨_,rfl⟩
end Go.Eng
