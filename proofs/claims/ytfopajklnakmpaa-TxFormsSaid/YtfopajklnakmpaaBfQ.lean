import Derived.Test.YtfopajklnakmpaaBfO
import Derived.Test.YtfopajklnakmpaaBfP
namespace Go.Eng
open Go
variable {E:Nat→Option Fn} {X:Orc}
set_option linter.unusedSimpArgs false
set_option linter.unusedVariables false
theorem eqnil (h:H) (a:Option (Nat × Nat)) (n:Nat) (c:Option Nat) (e:Nat):binV .eql (.ref .s) h (.slice a n c e) (.slice none 0 (some 0) 0)=some (.bool a.isNone):=by
  cases a <;> rfl
theorem SrcH.toS {h:H} {a:Option (Nat × Nat)} {e:Nat} {l:List Nat} (s:SrcH h a e l) (S:Nat→Prop) (w:∀ q z,a=some (q,z)→S q):SrcS S h a e l:=by
  rcases s with s | ⟨bi,off,vs,m,e1,e2,hb,g,hl,hv⟩
  · exact .inl s
  · exact .inr ⟨bi,off,vs,m,e1,e2,w _ _ e1,hb,g,hl,hv⟩
theorem src_n {h:H} {sz q off n:Nat} {vs:List V} {md:Md} (g:h.get q=some (.cells vs md)) (hl:off+n*sz≤vs.length) (hn:0<n) (c:Option Nat):srcCells h sz (.slice (some (q,off)) n c sz)=some (n,(vs.drop off).take (n*sz)):=by
  obtain ⟨n,rfl⟩:∃ m,n=m+1:=⟨n-1,by omega⟩
  rw [m_src,g]
  show (match readN vs off ((n+1)*sz) with | some l=>some (n+1,l) | none=>none)=_
  rw [z39 _ _ _ hl]
theorem row_plain {α:Type} {sz:Nat} {A:(Nat→Prop)→H→α→List V→Prop} (it:ItA sz A) {S:Nat→Prop} {h:H}:∀ (ops:List α) (cs:List V),cs.length=ops.length*sz→(∀ i o,ops[i]?=some o→A S h o ((cs.drop (i*sz)).take sz))→cs.all plainV=true:=by
  intro ops
  induction ops with
  | nil=>intro cs lc _; rw [List.length_nil,Nat.zero_mul] at lc; rw [List.length_eq_zero_iff.1 lc]; rfl
  | cons o r ih =>
    intro cs lc at_
    rw [List.length_cons,Nat.succ_mul] at lc
    rw [← List.take_append_drop sz cs,List.all_append]
    have h0:=at_ 0 o rfl
    rw [Nat.zero_mul,List.drop_zero] at h0
    rw [(it.fit h0).2,ih (cs.drop sz) (by rw [List.length_drop]; omega) (fun i o' ho=>by
      have:=at_ (i+1) o' ho
      rw [Nat.succ_mul] at this
      rw [List.drop_drop,Nat.add_comm]; exact this)]
    rfl
theorem app_row (h:H) (sz bts n:Nat) (cs:List V) (hn:0<n) (ro:roomy (0+n) bts=true) (pl:cs.all plainV=true):appendC (h.new (.cells [] .rw)) sz bts (.slice (some (h.next,0)) 0 (some 0) sz) (some (n,cs))=some (.slice (some (h.next+1,0)) n none sz,(h.new (.cells [] .rw)).new (.cells cs .rw)):=by
  obtain ⟨n,rfl⟩:∃ m,n=m+1:=⟨n-1,by omega⟩
  have g1:(h.new (.cells [] .rw)).get h.next=some (.cells [] .rw):=z1g _ _
  have nx:(h.new (.cells [] .rw)).next=h.next+1:=rfl
  obtain ⟨h1,e1⟩:∃ h1,h.new (.cells [] .rw)=h1:=⟨_,rfl⟩
  rw [e1] at g1 nx ⊢
  unfold appendC
  simp only
  have r:(roomy (0+(n+1)) bts && (Nat.beq sz sz || (some (h.next,0):Option (Nat × Nat)).isNone) && cs.all plainV)=true:=by
    rw [pl,ro]; simp
  have f:fullC (some 0) (0+(n+1))=true:=by
    show Nat.blt 0 (0+(n+1))=true
    simp
  rw [r]
  simp only [_root_.cond_true,g1,f]
  have rd:readN ([]:List V) 0 (0*sz)=some []:=by rw [Nat.zero_mul]; rfl
  simp only [rd,List.nil_append,Nat.zero_add,nx]
theorem part35 (cs:List V) (i j:Nat) (v:V) (f:Nat) (hf:f<35):((cs.set (i*35+f) v).drop (j*35)).take 35=if j=i then ((cs.drop (j*35)).take 35).set f v else (cs.drop (j*35)).take 35:=by
  apply List.ext_getElem?
  intro k
  by_cases hk:k<35
  · rw [List.getElem?_take_of_lt hk,List.getElem?_drop,List.getElem?_set]
    by_cases hj:j=i
    · rw [if_pos hj,List.getElem?_set,List.getElem?_take_of_lt hk,List.getElem?_drop,List.length_take,List.length_drop]
      subst hj
      by_cases hk2:f=k
      · subst hk2
        rw [if_pos rfl,if_pos rfl]
        by_cases hl:j*35+f<cs.length
        · rw [if_pos hl,if_pos (by omega)]
        · rw [if_neg hl,if_neg (by omega)]
      · rw [if_neg (by omega),if_neg hk2]
    · rw [if_neg hj,if_neg (by omega),List.getElem?_take_of_lt hk,List.getElem?_drop]
  · have h1:((List.take 35 (List.drop (j*35) (cs.set (i*35+f) v)))).length≤k:=by rw [List.length_take]; omega
    rw [List.getElem?_eq_none h1]
    split
    · rw [List.getElem?_eq_none (by rw [List.length_set,List.length_take]; omega)]
    · rw [List.getElem?_eq_none (by rw [List.length_take]; omega)]
theorem iclone_go (e:E k_slices_Clone_api_In_api_In=some f_slices_Clone_api_In_api_In) (x:∀ a h,X (.fn k_slices_Clone_api_In_api_In) a h=none) (N:Nat) (ops:List InQ) (hne:0<ops.length) (hl:ops.length≤1000) (a:Option (Nat × Nat)) (c:Option Nat) (ez:Nat) (S:Nat→Prop) (h:H) (row:RowG S 35 InC h ops a ez) :
    ∃ cs,callX E X (N+1) (.fn k_slices_Clone_api_In_api_In) [.slice a ops.length c ez] h=some (.slice (some (h.next+1,0)) ops.length none 35,(h.new (.cells [] .rw)).new (.cells cs .rw))∧cs.length=ops.length*35∧∀ i o,ops[i]?=some o→InC S h o ((cs.drop (i*35)).take 35):=by
  rw [z2c e _ _ (Nat.le_of_ble_eq_true rfl) (x _ _)]
  rcases row with r | ⟨q,off,vs,md,rfl,rfl,hs,hq,g,hl',at_⟩
  · rw [r] at hne; cases hne
  have k1:Kp h (h.new (.cells [] .rw)):=Kp.new _ _
  have sc:=src_n (sz:=35) (off:=off) (n:=ops.length) (show (h.new (.cells [] .rw)).get q=some (.cells vs md) by rw [k1.2 _ hq,g]) hl' hne c
  obtain ⟨cs,ecs⟩:∃ cs,(vs.drop off).take (ops.length*35)=cs:=⟨_,rfl⟩
  rw [ecs] at sc
  have lc:cs.length=ops.length*35:=by rw [← ecs,List.length_take,List.length_drop]; omega
  have at2:∀ i o,ops[i]?=some o→InC S h o ((cs.drop (i*35)).take 35):=fun i o ho=>by
    have hi:=(List.getElem?_eq_some_iff.1 ho).1
    rw [← ecs,List.drop_take,List.drop_drop,List.take_take,Nat.min_eq_left (by omega)]
    exact at_ i o ho
  have ap:=app_row h 35 72 ops.length cs hne (by simp [roomy]; omega) (row_plain itIn ops cs lc at2)
  refine ⟨cs,?_,lc,at2⟩
  have q0:=fun h=>eqnil h (some (q,off)) ops.length c 35
  generalize ops.length=L at *
  simp (config:={maxSteps:=2000000}) (disch:=first | omega | (simp only [List.length_cons,List.length_nil,List.length_append,List.length_drop]; omega)) only [q0,Option.isNone_some,sc,ap,↓z2n,↓z2s,z2v,↓x_P0,z2y,zo,↓z1p,↓zw,↓zy,↓z10,↓z1t,↓zu,↓s_op,↓zf,zf,↓zd,zd,zk,↓zg,zg,↓zb,↓z1s,↓z17,↓z11,↓z13,↓z12,↓z1h,zp,z1x,zo,z1m,z1n,↓za,↓z9,za,z9,Nat.reduceEqDiff,decide_true,decide_false]
  try rfl
theorem part2 (cs:List V) (i j:Nat) (v:V) (f:Nat) (hf:f<2):((cs.set (i*2+f) v).drop (j*2)).take 2=if j=i then ((cs.drop (j*2)).take 2).set f v else (cs.drop (j*2)).take 2:=by
  apply List.ext_getElem?
  intro k
  by_cases hk:k<2
  · rw [List.getElem?_take_of_lt hk,List.getElem?_drop,List.getElem?_set]
    by_cases hj:j=i
    · rw [if_pos hj,List.getElem?_set,List.getElem?_take_of_lt hk,List.getElem?_drop,List.length_take,List.length_drop]
      subst hj
      by_cases hk2:f=k
      · subst hk2
        rw [if_pos rfl,if_pos rfl]
        by_cases hl:j*2+f<cs.length
        · rw [if_pos hl,if_pos (by omega)]
        · rw [if_neg hl,if_neg (by omega)]
      · rw [if_neg (by omega),if_neg hk2]
    · rw [if_neg hj,if_neg (by omega),List.getElem?_take_of_lt hk,List.getElem?_drop]
  · have h1:((List.take 2 (List.drop (j*2) (cs.set (i*2+f) v)))).length≤k:=by rw [List.length_take]; omega
    rw [List.getElem?_eq_none h1]
    split
    · rw [List.getElem?_eq_none (by rw [List.length_set,List.length_take]; omega)]
    · rw [List.getElem?_eq_none (by rw [List.length_take]; omega)]
theorem oclone_go (e:E k_slices_Clone_api_Out_api_Out=some f_slices_Clone_api_Out_api_Out) (x:∀ a h,X (.fn k_slices_Clone_api_Out_api_Out) a h=none) (N:Nat) (ops:List OutQ) (hne:0<ops.length) (hl:ops.length≤1000) (a:Option (Nat × Nat)) (c:Option Nat) (ez:Nat) (S:Nat→Prop) (h:H) (row:RowG S 2 OutC h ops a ez) :
    ∃ cs,callX E X (N+1) (.fn k_slices_Clone_api_Out_api_Out) [.slice a ops.length c ez] h=some (.slice (some (h.next+1,0)) ops.length none 2,(h.new (.cells [] .rw)).new (.cells cs .rw))∧cs.length=ops.length*2∧∀ i o,ops[i]?=some o→OutC S h o ((cs.drop (i*2)).take 2):=by
  rw [z2c e _ _ (Nat.le_of_ble_eq_true rfl) (x _ _)]
  rcases row with r | ⟨q,off,vs,md,rfl,rfl,hs,hq,g,hl',at_⟩
  · rw [r] at hne; cases hne
  have k1:Kp h (h.new (.cells [] .rw)):=Kp.new _ _
  have sc:=src_n (sz:=2) (off:=off) (n:=ops.length) (show (h.new (.cells [] .rw)).get q=some (.cells vs md) by rw [k1.2 _ hq,g]) hl' hne c
  obtain ⟨cs,ecs⟩:∃ cs,(vs.drop off).take (ops.length*2)=cs:=⟨_,rfl⟩
  rw [ecs] at sc
  have lc:cs.length=ops.length*2:=by rw [← ecs,List.length_take,List.length_drop]; omega
  have at2:∀ i o,ops[i]?=some o→OutC S h o ((cs.drop (i*2)).take 2):=fun i o ho=>by
    have hi:=(List.getElem?_eq_some_iff.1 ho).1
    rw [← ecs,List.drop_take,List.drop_drop,List.take_take,Nat.min_eq_left (by omega)]
    exact at_ i o ho
  have ap:=app_row h 2 32 ops.length cs hne (by simp [roomy]; omega) (row_plain z4o ops cs lc at2)
  refine ⟨cs,?_,lc,at2⟩
  have q0:=fun h=>eqnil h (some (q,off)) ops.length c 2
  generalize ops.length=L at *
  simp (config:={maxSteps:=2000000}) (disch:=first | omega | (simp only [List.length_cons,List.length_nil,List.length_append,List.length_drop]; omega)) only [q0,Option.isNone_some,sc,ap,↓z2n,↓z2s,z2v,↓x_P0,z2y,zo,↓z1p,↓zw,↓zy,↓z10,↓z1t,↓zu,↓s_op,↓zf,zf,↓zd,zd,zk,↓zg,zg,↓zb,↓z1s,↓z17,↓z11,↓z13,↓z12,↓z1h,zp,z1x,zo,z1m,z1n,↓za,↓z9,za,z9,Nat.reduceEqDiff,decide_true,decide_false]
  try rfl
theorem inV_33 (o:InQ) (b:Option (Nat × Nat)) (cb:Option Nat) (eb:Nat) (l:o.tx.length=32):(inV o b cb eb)[33]?=some (.slice b o.l.length cb eb):=by
  unfold inV
  rw [List.getElem?_append_right (by rw [z1a]; omega),z1a,l]; rfl
theorem inV_s33 (o:InQ) (b b2:Option (Nat × Nat)) (cb c2:Option Nat) (eb e2:Nat) (l:o.tx.length=32):(inV o b cb eb).set 33 (.slice b2 o.l.length c2 e2)=inV o b2 c2 e2:=by
  unfold inV
  rw [List.set_append_right _ _ (by rw [z1a]; omega),z1a,l]; rfl
theorem SrcS.nil {S:Nat→Prop} {h:H} {e:Nat} {l:List Nat} {a:Option (Nat × Nat)} (s:SrcS S h a e l):a=none→l=[]:=by
  intro h0
  rcases s with s | ⟨bi,off,vs,m,e1,_⟩
  · exact s
  · rw [h0] at e1; cases e1
structure EnCp (E:Nat→Option Fn):Prop where
  cp:E k_tx_Copy=some f_tx_Copy
  ci:E k_slices_Clone_api_In_api_In=some f_slices_Clone_api_In_api_In
  co:E k_slices_Clone_api_Out_api_Out=some f_slices_Clone_api_Out_api_Out
  cl:E k_bytes_Clone=some f_bytes_Clone
structure NoCp (X:Orc):Prop where
  cp:∀ a h,X (.fn k_tx_Copy) a h=none
  ci:∀ a h,X (.fn k_slices_Clone_api_In_api_In) a h=none
  co:∀ a h,X (.fn k_slices_Clone_api_Out_api_Out) a h=none
  cl:∀ a h,X (.fn k_bytes_Clone) a h=none
end Go.Eng
