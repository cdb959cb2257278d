/- What functions of the program come to: own work. -/
import Derived.Test.YtfopajklnakmpaaBxHd
namespace Go.Eng
open Go
variable {E : Nat → Option Fn} {X : Orc}
set_option linter.unusedSimpArgs false
set_option linter.unusedVariables false
structure EnBhs (E : Nat → Option Fn) : Prop where
  hd : EnHd E
  br : EnBr E
  bs : EnBs E
  bh : EnBh E
  al : E k_octet_Pen_All = some f_octet_Pen_All
  tws : EnTw E
  ro : EnRo E
  et : E k_purserref04_Twice = some f_purserref04_Twice
  tn : E k_purserref01_Twin = some f_purserref01_Twin
theorem noHd_x : NoHd noX := by repeat' (first | exact fun _ _ => rfl | exact fun _ _ _ => rfl | exact fun _ => rfl | constructor)
theorem noBr_x : NoBr noX := by repeat' (first | exact fun _ _ => rfl | exact fun _ _ _ => rfl | exact fun _ => rfl | constructor)
theorem noBs_x : NoBs noX := by repeat' (first | exact fun _ _ => rfl | exact fun _ _ _ => rfl | exact fun _ => rfl | constructor)
theorem noBh_x : NoBh noX := by repeat' (first | exact fun _ _ => rfl | exact fun _ _ _ => rfl | exact fun _ => rfl | constructor)
theorem noTw_x : NoTw noX := by repeat' (first | exact fun _ _ => rfl | exact fun _ _ _ => rfl | exact fun _ => rfl | constructor)
theorem noRo_x2 : NoRo noX := by repeat' (first | exact fun _ _ => rfl | exact fun _ _ _ => rfl | exact fun _ => rfl | constructor)
/-- any string,read: one answer for both -/
theorem pair_read (e : EnBhs E) (M : Nat) (hM : 1000 < M) (s : List Nat) (bs : byt s = true) :
    ∃ (r : List Nat) (z : Int),r.length = 32 ∧ (∀ h,∃ h',callX E noX (M + 399) (.fn k_block_Read) [.str s] h = some (.tup [.agg (ofI .u8 r),.int .i64 z],h') ∧ Kp h h') ∧ (∀ h,∃ h',callX E noX (M + 399) (.fn k_purserref07_Read) [.str s] h = some (.tup [.agg (ofI .u8 r),.int .i64 z],h') ∧ Kp h h') := by
  by_cases ls : s.length = 64
  · rcases firstDg s 64 (by omega) with ok | bad
    · obtain ⟨r,hr,br,rfl⟩ := hx_of s 32 (by omega) (fun i b hb => ok i b (by have := (List.getElem?_eq_some_iff.1 hb).1; omega) hb)
      refine ⟨r.reverse,0,by rw [List.length_reverse,hr],fun h => ?_,fun h => ?_⟩
      · exact read_go e.bs noBs_x (M + 396) (by omega) r hr br h
      · exact (rread_go e.hd noHd_x (M + 396) (by omega) (hx r) h).1 r hr br rfl
    · refine ⟨List.replicate 32 0,70,List.length_replicate,fun h => ?_,fun h => ?_⟩
      · exact read_bad e.bs noBs_x (M + 396) (by omega) s bs h (.inr ⟨ls,bad⟩)
      · exact (rread_go e.hd noHd_x (M + 396) (by omega) s h).2 (.inr ⟨ls,bad⟩)
  · refine ⟨List.replicate 32 0,70,List.length_replicate,fun h => ?_,fun h => ?_⟩
    · exact read_bad e.bs noBs_x (M + 396) (by omega) s bs h (.inl ls)
    · exact (rread_go e.hd noHd_x (M + 396) (by omega) s h).2 (.inl ls)
theorem pair_dh (e : EnBhs E) (M : Nat) (hM : 1000 < M) (l : List Nat) (bl : byt l = true) (hl : l.length ≤ 500) (ao : Option (Nat × Nat)) (co : Option Nat) (eo : Nat) (h1 : H) (so : SrcH h1 ao eo l) (a : Option (Nat × Nat)) :
    ∃ (D : HdQ) (z : Int),D.ok ∧ (∃ h',callX E noX (M + 399) (.fn k_block_DecodeHeader) [.slice ao l.length co eo] h1 = some (.tup [.agg (hdV D),.int .i64 z],h') ∧ Kp h1 h') ∧ (∀ h,SrcH h a 1 l → ∃ h',callX E noX (M + 399) (.fn k_purserref07_DecodeHeader) [.slice a l.length none 1] h = some (.tup [.agg (hdV D),.int .i64 z],h') ∧ Kp h h') := by
  obtain ⟨h2,k2,⟨h80,d,ok,eB,r⟩ | ⟨h80,r⟩⟩ := dechead_go e.br noBr_x (M + 379) (by omega) l bl (by omega) ao co eo h1 so
  · refine ⟨d,0,ok,⟨h2,r,k2⟩,fun h s => ?_⟩
    obtain ⟨bi,off,vs,md,ea,rest⟩ := s.resolve_left (fun h => by rw [h] at h80; cases h80)
    subst ea
    rw [h80]
    exact rdech_ok e.hd noHd_x (M + 359) (by omega) d ok bi off h (by rw [eB]; exact s)
  · refine ⟨hdZ,70,hdZ_ok,⟨h2,by rw [hdZ_V]; exact r,k2⟩,fun h s => ?_⟩
    rw [hdZ_V]
    exact rdech_bad e.hd noHd_x (M + 359) l a none 1 h h80
set_option maxRecDepth 100000 in
set_option maxHeartbeats 4000000 in
theorem law_BlockHeaders (e : EnBhs E) (el : E k_purserlaw07_BlockHeaders = some f_purserlaw07_BlockHeaders) (M : Nat) (hM : 100000 < M) (d : HdQ) (ok : d.ok) (l : List Nat) (bl : byt l = true) (s : List Nat) (hs : s.length = 32) (bs : byt s = true) (w : List Nat) (bw : byt w = true) (a : Option (Nat × Nat)) (h : H) (src : SrcH h a 1 l) :
    ∃ h2,callX E noX (M + 400) (.fn k_purserlaw07_BlockHeaders) [.agg (hdV d),.slice a l.length none 1,.agg (ofI .u8 s),.str w] h = some (.bool true,h2) := by
  rw [x_cfn el _ _ (Nat.le_of_ble_eq_true rfl) rfl]
  rw [show ([.int .u32 0,.int .u8 0,.int .u8 0,.int .u8 0,.int .u8 0,.int .u8 0,.int .u8 0,.int .u8 0,.int .u8 0,.int .u8 0,.int .u8 0,.int .u8 0,.int .u8 0,.int .u8 0,.int .u8 0,.int .u8 0,.int .u8 0,.int .u8 0,.int .u8 0,.int .u8 0,.int .u8 0,.int .u8 0,.int .u8 0,.int .u8 0,.int .u8 0,.int .u8 0,.int .u8 0,.int .u8 0,.int .u8 0,.int .u8 0,.int .u8 0,.int .u8 0,.int .u8 0,.int .u8 0,.int .u8 0,.int .u8 0,.int .u8 0,.int .u8 0,.int .u8 0,.int .u8 0,.int .u8 0,.int .u8 0,.int .u8 0,.int .u8 0,.int .u8 0,.int .u8 0,.int .u8 0,.int .u8 0,.int .u8 0,.int .u8 0,.int .u8 0,.int .u8 0,.int .u8 0,.int .u8 0,.int .u8 0,.int .u8 0,.int .u8 0,.int .u8 0,.int .u8 0,.int .u8 0,.int .u8 0,.int .u8 0,.int .u8 0,.int .u8 0,.int .u8 0,.int .u32 0,.int .u32 0,.int .u32 0] : List V) = Z68 from rfl,show ([.int .u8 0,.int .u8 0,.int .u8 0,.int .u8 0,.int .u8 0,.int .u8 0,.int .u8 0,.int .u8 0,.int .u8 0,.int .u8 0,.int .u8 0,.int .u8 0,.int .u8 0,.int .u8 0,.int .u8 0,.int .u8 0,.int .u8 0,.int .u8 0,.int .u8 0,.int .u8 0,.int .u8 0,.int .u8 0,.int .u8 0,.int .u8 0,.int .u8 0,.int .u8 0,.int .u8 0,.int .u8 0,.int .u8 0,.int .u8 0,.int .u8 0,.int .u8 0] : List V) = ofI .u8 (List.replicate 32 0) from rfl]
  obtain ⟨Z,eZ⟩ : ∃ Z,ofI .u8 (List.replicate 32 0) = Z := ⟨_,rfl⟩
  rw [eZ]
  have ca' : ∀ l : List V,(V.agg l).cells = l := fun _ => rfl
  have lz : Z68.length = 68 := rfl
  obtain ⟨p,ep⟩ : ∃ p,h.next = p := ⟨_,rfl⟩
  obtain ⟨hb,ehb⟩ : ∃ hb,(h.new (.cells (hdV d) .rw)).new (.cells (ofI .u8 s) .rw) = hb := ⟨_,rfl⟩
  have kb : Kp h hb := by rw [← ehb]; (repeat (first | exact Kp.refl _ | refine Kp.put ?_ _ (by first | omega | (simp only [h_next_put,h_next_new,h_next_del]; omega)) | refine Kp.del ?_ (by first | omega | (simp only [h_next_put,h_next_new,h_next_del]; omega)) | refine Kp.trans ?_ (Kp.new _ _)))
  have nb : hb.next = p + 2 := by rw [← ehb,← ep]; rfl
  have g0 : hb.get p = some (.cells (hdV d) .rw) := by rw [← ehb,← ep]; (simp (disch := omega) only [h_new_get,h_next_new,Nat.add_eq_left,decide_true,decide_false,iteN_true,iteN_false,reduceCtorEq,]; try rfl)
  have g0s : hb.get (p + 1) = some (.cells (ofI .u8 s) .rw) := by rw [← ehb,← ep]; (simp (disch := omega) only [h_new_get,h_next_new,decide_true,iteN_true,]; try rfl)
  have lD := fun m => fit_ld (hdV_fit d ok) m
  have lS : ∀ m,loadE (some (.cells (ofI .u8 s) m)) (some 32) 0 = some (.agg (ofI .u8 s)) := fun m => by rw [m_loadN,x_readAll _ 32 (by rw [ofI_len,hs])]
  have lq : lenV true (.str w) = some (.int .i64 (w.length : Int)) := rfl
  by_cases hl : 500 < l.length
  · have d1 : decide ((500 : Int) < (l.length : Int)) = true := decide_eq_true (by omega)
    simp (config := {maxSteps := 2000000}) (disch := first | omega | (simp only [List.length_cons,List.length_nil,List.length_append,List.length_drop]; omega)) only [ca',ep,ehb,d1,↓s_box,↓s_len,x_lenS,Nat.zero_add,h_next_new,x_lenS,↓s_len,Nat.reduceAdd,s_res0,↓s_ops,↓s_seq,↓s_cond,↓s_ret,↓s_nil,↓s_op,↓s_opg,↓s_wanted',↓s_wantV,s_wantV,beq_false,↓s_bindS,s_bindS,↓s_bindE,s_bindE,s_bindE_ret,s_norm,↓s_condV,s_condV,↓s_getp,↓s_get,↓s_con,↓s_list0,↓s_list1,↓s_mov,↓s_pick,↓s_pickE,s_pickE,↓s_bin,s_same,b_gtr,s_end,s_res0,s_res1,s_tup1,↓iteN_true,↓iteN_false,iteN_true,iteN_false,Nat.zero_add,Nat.reduceEqDiff,decide_true,decide_false,Bool.not_true]
    exact ⟨_,rfl⟩
  have d1 : decide ((500 : Int) < (l.length : Int)) = false := decide_eq_false (by omega)
  by_cases hw : 500 < w.length
  · have d2 : decide ((500 : Int) < (w.length : Int)) = true := decide_eq_true (by omega)
    simp (config := {maxSteps := 2000000}) (disch := first | omega | (simp only [List.length_cons,List.length_nil,List.length_append,List.length_drop]; omega)) only [ca',ep,ehb,d1,d2,lq,↓s_box,↓s_len,x_lenS,Nat.zero_add,h_next_new,x_lenS,↓s_len,Nat.reduceAdd,s_res0,↓s_ops,↓s_seq,↓s_cond,↓s_ret,↓s_nil,↓s_op,↓s_opg,↓s_wanted',↓s_wantV,s_wantV,↓s_bindS,s_bindS,↓s_bindE,s_bindE,s_bindE_ret,s_norm,↓s_condV,s_condV,↓s_getp,↓s_get,↓s_con,↓s_list0,↓s_list1,↓s_mov,↓s_pick,↓s_pickE,s_pickE,↓s_bin,s_same,b_gtr,s_end,s_res0,s_res1,s_tup1,↓iteN_true,↓iteN_false,iteN_true,iteN_false,Nat.zero_add,Nat.reduceEqDiff,decide_true,decide_false,beq_self_eq_true]
    exact ⟨_,rfl⟩
  have d2 : decide ((500 : Int) < (w.length : Int)) = false := decide_eq_false (by omega)
  have sb := src.mono kb
  obtain ⟨ao,co,eo,h1,r1,nw1⟩ := twinv_go (X := noX) e.tn (fun _ _ => rfl) (M + 398) l (by omega) a none 1 hb sb
  have k1 := nw1.kp
  have kn1 := k1.1
  obtain ⟨D,z,Dok,⟨h2,r2,k2⟩,doc⟩ := pair_dh e M (by omega) l bl (by omega) ao co eo h1 nw1.wb.src a
  have kn2 := k2.1
  have fD := hdV_fit D Dok
  have stD := fun h i => fit_st fD h i
  have puD := fun h i => fit_put fD h i Z68 lz
  have ldD := fun m => fit_ld fD m
  obtain ⟨q2,eq2⟩ : ∃ q,h2.next = q := ⟨_,rfl⟩
  obtain ⟨g2,eg2⟩ : ∃ g,(h2.new (.cells Z68 .rw)).put q2 (.cells (hdV D) .rw) = g := ⟨_,rfl⟩
  have kg2 : Kp h2 g2 := by rw [← eg2]; (repeat (first | exact Kp.refl _ | refine Kp.put ?_ _ (by first | omega | (simp only [h_next_put,h_next_new,h_next_del]; omega)) | refine Kp.del ?_ (by first | omega | (simp only [h_next_put,h_next_new,h_next_del]; omega)) | refine Kp.trans ?_ (Kp.new _ _)))
  have n2 : g2.next = q2 + 1 := by rw [← eg2,← eq2]; rfl
  have gd2 : g2.get q2 = some (.cells (hdV D) .rw) := by rw [← eg2]; exact h_put_same _ _ _
  have gz2 : (h2.new (.cells Z68 .rw)).get q2 = some (.cells Z68 .rw) := by rw [← eq2]; exact h_new_same _ _
  have K2 : Kp hb g2 := (k1.trans k2).trans kg2
  obtain ⟨h3,r3,k3⟩ := doc g2 (sb.mono K2)
  have kn3 := k3.1
  obtain ⟨q3,eq3⟩ : ∃ q,h3.next = q := ⟨_,rfl⟩
  obtain ⟨g3,eg3⟩ : ∃ g,(h3.new (.cells Z68 .rw)).put q3 (.cells (hdV D) .rw) = g := ⟨_,rfl⟩
  have kg3 : Kp h3 g3 := by rw [← eg3]; (repeat (first | exact Kp.refl _ | refine Kp.put ?_ _ (by first | omega | (simp only [h_next_put,h_next_new,h_next_del]; omega)) | refine Kp.del ?_ (by first | omega | (simp only [h_next_put,h_next_new,h_next_del]; omega)) | refine Kp.trans ?_ (Kp.new _ _)))
  have n3 : g3.next = q3 + 1 := by rw [← eg3,← eq3]; rfl
  have gd3 : g3.get q3 = some (.cells (hdV D) .rw) := by rw [← eg3]; exact h_put_same _ _ _
  have gz3 : (h3.new (.cells Z68 .rw)).get q3 = some (.cells Z68 .rw) := by rw [← eq3]; exact h_new_same _ _
  have K3 : Kp g2 g3 := k3.trans kg3
  obtain ⟨r,z',lr,cr,dr⟩ := pair_read e M (by omega) w bw
  obtain ⟨stR,puR,ldR⟩ := z32_st r lr Z eZ
  obtain ⟨h4,r4,k4⟩ := cr g3
  have kn4 := k4.1
  obtain ⟨q4,eq4⟩ : ∃ q,h4.next = q := ⟨_,rfl⟩
  obtain ⟨g4,eg4⟩ : ∃ g,(h4.new (.cells Z .rw)).put q4 (.cells (ofI .u8 r) .rw) = g := ⟨_,rfl⟩
  have kg4 : Kp h4 g4 := by rw [← eg4]; (repeat (first | exact Kp.refl _ | refine Kp.put ?_ _ (by first | omega | (simp only [h_next_put,h_next_new,h_next_del]; omega)) | refine Kp.del ?_ (by first | omega | (simp only [h_next_put,h_next_new,h_next_del]; omega)) | refine Kp.trans ?_ (Kp.new _ _)))
  have n4 : g4.next = q4 + 1 := by rw [← eg4,← eq4]; rfl
  have gd4 : g4.get q4 = some (.cells (ofI .u8 r) .rw) := by rw [← eg4]; exact h_put_same _ _ _
  have gz4 : (h4.new (.cells Z .rw)).get q4 = some (.cells Z .rw) := by rw [← eq4]; exact h_new_same _ _
  have K4 : Kp g3 g4 := k4.trans kg4
  obtain ⟨h5,r5,k5⟩ := dr g4
  have kn5 := k5.1
  obtain ⟨q5,eq5⟩ : ∃ q,h5.next = q := ⟨_,rfl⟩
  obtain ⟨g5,eg5⟩ : ∃ g,(h5.new (.cells Z .rw)).put q5 (.cells (ofI .u8 r) .rw) = g := ⟨_,rfl⟩
  have kg5 : Kp h5 g5 := by rw [← eg5]; (repeat (first | exact Kp.refl _ | refine Kp.put ?_ _ (by first | omega | (simp only [h_next_put,h_next_new,h_next_del]; omega)) | refine Kp.del ?_ (by first | omega | (simp only [h_next_put,h_next_new,h_next_del]; omega)) | refine Kp.trans ?_ (Kp.new _ _)))
  have n5 : g5.next = q5 + 1 := by rw [← eg5,← eq5]; rfl
  have gd5 : g5.get q5 = some (.cells (ofI .u8 r) .rw) := by rw [← eg5]; exact h_put_same _ _ _
  have gz5 : (h5.new (.cells Z .rw)).get q5 = some (.cells Z .rw) := by rw [← eq5]; exact h_new_same _ _
  have K5 : Kp g4 g5 := k5.trans kg5
  -- the last expression's calls
  obtain ⟨h6,a6,c6,e6,r6,nw6⟩ := enchead_go e.bh noBh_x e.al (M + 392) (by omega) d ok g5
  replace r6 : callX E noX (M + 399) (.fn k_block_EncodeHeader) _ g5 = _ := r6
  have k6 := nw6.kp
  obtain ⟨h7,a7,c7,e7,r7,nw7⟩ := rheader_go e.hd noHd_x (M + 356) d ok h6
  replace r7 : callX E noX (M + 399) (.fn k_purserref07_Header) _ h6 = _ := r7
  have k7 := nw7.kp
  obtain ⟨h8,r8,k8⟩ := bhash7_go e.hd noHd_x e.tws noTw_x e.bh noBh_x e.al (M + 315) (by omega) d ok h7
  replace r8 : callX E noX (M + 399) (.fn k_block_Hash) _ h7 = _ := r8
  obtain ⟨h9,r9,k9⟩ := rhash7_go e.hd noHd_x e.ro noRo_x2 e.et (fun _ _ => rfl) (M + 97) (by omega) d ok h8
  replace r9 : callX E noX (M + 399) (.fn k_purserref07_Hash) _ h8 = _ := r9
  obtain ⟨h10,r10,k10⟩ := show_go e.bs noBs_x (M + 396) (by omega) s hs bs h9
  replace r10 : callX E noX (M + 399) (.fn k_block_Show) _ h9 = _ := r10
  obtain ⟨h11,r11,k11⟩ := rshow_go e.hd noHd_x (M + 397) (by omega) s hs bs h10
  replace r11 : callX E noX (M + 399) (.fn k_purserref07_Show) _ h10 = _ := r11
  have K35 : Kp g3 g5 := K4.trans K5
  have K25 : Kp g2 g5 := K3.trans K35
  have Kb5 : Kp hb g5 := K2.trans K25
  have K67 := k6.trans k7
  have K68 := K67.trans k8
  have K69 := K68.trans k9
  have K610 := K69.trans k10
  have K611 := K610.trans k11
  have lB := hdB_len d ok
  have bB := hdB_byt d ok
  have sE : ∀ {hh : H},Kp h6 hh → b2sV hh (.slice a6 80 c6 e6) = some (.str (hdB d)) := fun k => by have := str_src (nw6.wb.src.mono k) bB c6; rw [lB] at this; exact this
  have sF : ∀ {hh : H},Kp h7 hh → b2sV hh (.slice a7 80 c7 e7) = some (.str (hdB d)) := fun k => by have := str_src (nw7.wb.src.mono k) bB c7; rw [lB] at this; exact this
  have u6 := sE (Kp.refl h6)
  have u67 := sE k7
  have u68 := sE (k7.trans k8)
  have u69 := sE ((k7.trans k8).trans k9)
  have u77 := sF (Kp.refl h7)
  have u78 := sF k8
  have at0 : ∀ {hh : H},Kp hb hh → hh.get p = some (.cells (hdV d) .rw) := fun k => by rw [k.2 _ (by omega),g0]
  have at1 : ∀ {hh : H},Kp hb hh → hh.get (p + 1) = some (.cells (ofI .u8 s) .rw) := fun k => by rw [k.2 _ (by omega),g0s]
  have i5 := at0 Kb5
  have i6 := at0 (Kb5.trans k6)
  have i7 := at0 (Kb5.trans K67)
  have i8 := at0 (Kb5.trans K68)
  have i9 := at0 (Kb5.trans K69)
  have j9 := at1 (Kb5.trans K69)
  have j10 := at1 (Kb5.trans K610)
  have j11 := at1 (Kb5.trans K611)
  have kn35 := K35.1
  have kn25 := K25.1
  have kn45 := K5.1
  have m2 : ∀ {hh : H},Kp g5 hh → hh.get q2 = some (.cells (hdV D) .rw) := fun k => by rw [k.2 _ (by omega),K25.2 _ (by omega),gd2]
  have m3 : ∀ {hh : H},Kp g5 hh → hh.get q3 = some (.cells (hdV D) .rw) := fun k => by rw [k.2 _ (by omega),K35.2 _ (by omega),gd3]
  have m4 : ∀ {hh : H},Kp g5 hh → hh.get q4 = some (.cells (ofI .u8 r) .rw) := fun k => by rw [k.2 _ (by omega),K5.2 _ (by omega),gd4]
  have m5 : ∀ {hh : H},Kp g5 hh → hh.get q5 = some (.cells (ofI .u8 r) .rw) := fun k => by rw [k.2 _ (by omega),gd5]
  have m29 := m2 K69
  have m39 := m3 K69
  have m411 := m4 K611
  have m511 := m5 K611
  have K211 : Kp h1 h11 := ((k2.trans kg2).trans K25).trans K611
  have sO := str_src (nw1.wb.src.mono K211) bl co
  have sB := str_src (sb.mono (Kb5.trans K611)) bl none
  obtain ⟨hv,ehv⟩ : ∃ x,shaV (shaV (hdB d)) = x := ⟨_,rfl⟩
  have lhv : hv.length = 32 := by rw [← ehv]; exact shaV_len _
  rw [ehv] at r8 r9
  have fl1 : ∀ h,binV .eql (.flat [.i,.i,.i,.i,.i,.i,.i,.i,.i,.i,.i,.i,.i,.i,.i,.i,.i,.i,.i,.i,.i,.i,.i,.i,.i,.i,.i,.i,.i,.i,.i,.i]) h (.agg (ofI .u8 hv)) (.agg (ofI .u8 hv)) = some (.bool true) := fun h => fleql h _ _ _ true (hash_self hv lhv _ rfl)
  have fl2 : ∀ h,binV .eql (.flat [.i,.i,.i,.i,.i,.i,.i,.i,.i,.i,.i,.i,.i,.i,.i,.i,.i,.i,.i,.i,.i,.i,.i,.i,.i,.i,.i,.i,.i,.i,.i,.i]) h (.agg (ofI .u8 r)) (.agg (ofI .u8 r)) = some (.bool true) := fun h => fleql h _ _ _ true (hash_self r lr _ rfl)
  have fl3 : ∀ h,binV .eql (.flat [.i,.i,.i,.i,.i,.i,.i,.i,.i,.i,.i,.i,.i,.i,.i,.i,.i,.i,.i,.i,.i,.i,.i,.i,.i,.i,.i,.i,.i,.i,.i,.i,.i,.i,.i,.i,.i,.i,.i,.i,.i,.i,.i,.i,.i,.i,.i,.i,.i,.i,.i,.i,.i,.i,.i,.i,.i,.i,.i,.i,.i,.i,.i,.i,.i,.i,.i,.i]) h (.agg (hdV D)) (.agg (hdV D)) = some (.bool true) := fun h => fleql h _ _ _ true (hd_self D Dok _ rfl)
  have dd : ∀ v : Int,decide (v = v) = true := fun v => decide_eq_true rfl
  have ds : ∀ v : List Nat,decide (v = v) = true := fun v => decide_eq_true rfl
  have bD := hd_beq d
  have bD2 := hd_beq D
  have b1 := vbeq_I .u8 s
  have b2 := vbeq_I .u8 r
  clear cr dr doc at0 at1 m2 m3 m4 m5 sE sF
  generalize hdV d = PD at *
  generalize hdV D = PE at *
  generalize hdB d = HB at *
  generalize ofI .u8 s = SS at *
  generalize ofI .u8 r = RR at *
  generalize ofI .u8 hv = HV at *
  generalize hx s.reverse = HX at *
  generalize Z68 = z68 at *
  obtain ⟨n,en⟩ : ∃ n,l.length = n := ⟨_,rfl⟩
  rw [en] at r1 r2 r3 sO sB d1 ⊢
  simp (config := {maxSteps := 2000000}) (disch := first | omega | (simp only [List.length_cons,List.length_nil,List.length_append,List.length_drop]; omega)) only [ca',ep,ehb,d1,d2,lq,r1,r2,eq2,eg2,stD,puD,ldD,r3,eq3,eg3,r4,eq4,eg4,stR,puR,ldR,r5,eq5,eg5,i5,i6,i7,i8,j9,j10,lD,lS,r6,u6,u67,r7,u77,r8,r9,fl1,fl2,fl3,m29,m39,r10,r11,m411,m511,sO,sB,bD,b1,vbeq_str,b_seq,↓ns_b2s,↓s_box,↓s_len,x_lenS,Nat.zero_add,↓s_evD,↓s_dnil,↓s_dL,↓s_dLg,↓s_dR,↓s_dRg,↓s_dRj,↓s_dRjg,↓s_dB,↓s_dBg,↓s_bindD,s_bindD,s_finDx,s_addP0,↓s_bump0,s_ok0,↓s_ok1,s_okR0,↓s_okR1,↓s_okE,s_okE,s_okE1,s_nth0,s_nthS,Bool.and_self,↓h_new_get,h_next_new,↓s_load,m_load,↓m_st,m_stE,↓s_alloc,x_lenS,↓s_len,Nat.reduceAdd,s_res0,↓s_skip,↓s_ops,↓s_dops,↓s_seq,↓s_cond,↓s_ret,↓s_nil,↓s_op,↓s_opg,↓s_wanted',↓s_wantV,s_wantV,↓s_bindS,s_bindS,↓s_bindE,s_bindE,s_norm,↓s_condV,s_condV,↓s_getp,↓s_getp0,↓s_get,↓s_con,↓s_os0,↓s_os1,↓s_list0,↓s_list1,↓s_mov,↓s_pick,↓s_pickE,s_pickE,↓s_bin,↓s_call,↓s_ext,s_same,b_eql,b_gtr,s_end,s_res0,s_res1,s_tup1,↓iteN_true,↓iteN_false,iteN_true,iteN_false,Nat.zero_add,Nat.reduceEqDiff,decide_true,decide_false,List.getElem?_cons_zero,List.getElem?_cons_succ,beq_self_eq_true]
  exact ⟨_,rfl⟩
end Go.Eng
namespace Go.Eng
open Go
theorem trod_strg {H : Type} {enc : TypeId × Value → H} {P : Program} {W : World} {spare : Nat → Bool} {held : Bool} {base : Nat} {t : TypeId} (ht : P.underlying t = some .string) {v : Value} {d : DataW H} {p : List MemPlace} (h : DataW.Trod enc P W base spare held t v d p) : ∃ l : List UInt8,d = .lit (.string l) := by
  obtain ⟨f,hf⟩ := h
  obtain ⟨s,_,h2,_⟩ := DataW.trod_string ht hf
  simp only [Prod.mk.injEq] at h2
  exact ⟨_,h2.1⟩
theorem absD_strg {H : Type} (P : Program) (n : Nat) {t : TypeId} (hu : P.underlying t = some .string) (l : List UInt8) (nx : Nat) : absD (H := H) P (n + 1) t (.lit (.string l)) nx = some ([.str (l.map (·.toNat))],[],nx) := by simp only [absD,hu]
theorem argV_strg {P : Program} {t : TypeId} (h : P.underlying t = some .string) (v : V) : argV P t [v] = v := by unfold argV; rw [h]
theorem byt_u8s (l : List UInt8) : byt (l.map (·.toNat)) = true := by
  refine byt_iff.2 (fun x hx => ?_)
  obtain ⟨u,_,rfl⟩ := List.mem_map.1 hx
  exact u.toNat_lt
end Go.Eng
