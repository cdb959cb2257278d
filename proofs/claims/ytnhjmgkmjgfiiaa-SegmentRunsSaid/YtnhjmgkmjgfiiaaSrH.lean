/- What functions of the program come to: own work. -/
import Derived.Test.YtnhjmgkmjgfiiaaSrE
namespace Go.Eng
open Go
variable {E:Nat→Option Fn} {X:Orc}
set_option linter.unusedSimpArgs false
set_option linter.unusedVariables false
theorem gg_no {gs:List (List Rq)} (h:ggR gs=false):gs.length≤20∧∀ g ∈ gs,g.length≤60∧∀ o ∈ g,¬ 500 < o.l.length:=by
  unfold ggR at h
  rw [Bool.or_eq_false_iff] at h
  refine ⟨by have:=of_decide_eq_false h.1; omega,fun g hg => ?_⟩
  have h2:=List.any_eq_false.1 h.2 g hg
  have h3:grR g=false:=by simpa using h2
  unfold grR at h3
  rw [Bool.or_eq_false_iff] at h3
  exact ⟨by have:=of_decide_eq_false h3.1; omega,fun o ho => by have:=List.any_eq_false.1 h3.2 o ho; simpa using this⟩
end Go.Eng
namespace Go.Eng
open Go
variable {E:Nat→Option Fn} {X:Orc}
set_option linter.unusedSimpArgs false
set_option linter.unusedVariables false
theorem gs_len (may:List (List Rq)) (f:Nat) (hs:∀ g ∈ may,g.length≤60∧∀ o ∈ g,¬ 500 < o.l.length):∀ i,i≤may.length→(gsB f (may.take i)).length≤31000 * i:=by
  intro i
  induction i with
  | zero => intro _; exact Nat.zero_le _
  | succ i ih =>
    intro hi
    have hg:=List.getElem?_eq_getElem (show i < may.length by omega)
    have gm:=List.mem_of_getElem? hg
    have:=sgB_small (f+i) _ (hs _ gm).1 (hs _ gm).2
    have:=ih (by omega)
    rw [Nat.mul_succ,gsB_succ f may i _ hg,List.length_append]; omega
end Go.Eng
namespace Go.Eng
open Go
variable {E:Nat→Option Fn} {X:Orc}
set_option linter.unusedSimpArgs false
set_option linter.unusedVariables false
/-! groups of which bytes are turned -/
theorem ga_stop (num:Nat) (x:List Nat) (hx:dcV x=none):∀ (l:List Rq) (acc:List Rq) (n:Nat),(∀ o ∈ l,o.kind≠255∧rqOk o=true)→gaV num n (rB l++x) acc=none:=by
  intro l
  induction l with
  | nil =>
    intro acc n _
    cases n with
    | zero => rfl
    | succ n =>
      show gaV num (n+1) x acc=none
      rw [ga_succ,hx]
  | cons o t ih =>
    intro acc n h
    cases n with
    | zero => rfl
    | succ n =>
      obtain ⟨h1,h2⟩:=h o (List.mem_cons_self ..)
      rw [rB_cons,List.append_assoc,ga_succ,dc_ok o h2 (fun l => onV_lt 0 l)]
      simp only
      rw [if_neg h1,List.drop_left' rfl,ih _ _ (fun o' ho => h o' (List.mem_cons_of_mem _ ho))]
theorem getD_appl (a b:List Nat) (i:Nat) (h:i < a.length):(a++b).getD i 0=a.getD i 0:=by
  rw [List.getD_eq_getElem?_getD,List.getElem?_append_left h,List.getD_eq_getElem?_getD]
theorem pre_of (P u r:List Nat) (hP:P.length≤r.length) (hu:∀ i,i < P.length→r.getD i 0=(P++u).getD i 0):r=P++r.drop P.length:=by
  have tk:r.take P.length=P:=by
    apply List.ext_getElem
    · rw [List.length_take]; omega
    · intro i i1 i2
      have g:∀ (m:List Nat) (h:i < m.length),m[i]=m.getD i 0:=fun m h => by rw [List.getD_eq_getElem?_getD,List.getElem?_eq_getElem h]; rfl
      rw [g _ i1,g _ i2,getD_take _ _ _ i2,hu i i2,getD_appl _ _ _ i2]
  have:=List.take_append_drop P.length r
  rw [tk] at this; exact this.symm
theorem ga_turn (num:Nat) (g:List Rq) (sok:sgOk num g=true) (ok:∀ o ∈ g,o.ok) (tail:List Nat) (bt:byt tail=true) (r:List Nat) (br:byt r=true) (lr:r.length≤(sgB num g++tail).length) (p f:Nat) (hd:∀ i,i < r.length→(i < p∨p+4≤i)→r.getD i 0=(sgB num g++tail).getD i 0) (hf:f < r.length) (hf2:f < (sgB num g).length) (nf:r.getD f 0≠(sgB num g++tail).getD f 0) (af:∀ i,i < f→r.getD i 0=(sgB num g++tail).getD i 0) (n:Nat):gaV num n r []=none:=by
  obtain ⟨R,eR⟩:∃ R,g++[mkR num g.length]=R:=⟨_,rfl⟩
  have eS:sgB num g=rB R:=by rw [← eR]; rfl
  have lR:R.length=g.length+1:=by rw [← eR,List.length_append]; rfl
  have hv:∀ o ∈ R,rqOk o=true:=fun o ho => by
    rw [← eR] at ho
    rcases List.mem_append.1 ho with h' | h'
    · exact ((sgOk_ok sok).2.2 o h').2
    · rcases List.mem_singleton.1 h' with rfl; exact (mkR_ok _ _).2
  have okR:∀ o ∈ R,o.ok:=fun o ho => by
    rw [← eR] at ho
    rcases List.mem_append.1 ho with h' | h'
    · exact ok o h'
    · rcases List.mem_singleton.1 h' with rfl; exact (mkR_ok _ _).1
  rw [eS] at lr hd hf2 nf af
  obtain ⟨w,hw,nw,bw'⟩:=first_not (fun i => i < R.length∧(rB (R.take (i+1))).length≤f) R.length (by omega)
  have h1:(rB (R.take w)).length≤f:=by
    cases w with
    | zero => simp [rB]
    | succ w => exact (bw' w (by omega)).2
  have hwl:w < R.length:=by
    apply Nat.lt_of_not_le
    intro h
    rw [List.take_of_length_le h] at h1
    omega
  have ho:R[w]?=some R[w]:=List.getElem?_eq_getElem hwl
  have om:=List.mem_of_getElem? ho
  have h2:f < (rB (R.take (w+1))).length:=Nat.lt_of_not_le (fun hc => nw ⟨hwl,hc⟩)
  have ed:R.drop w=R[w] :: R.drop (w+1):=List.drop_eq_getElem_cons hwl
  rw [rB_succ R w _ ho,List.length_append] at h2
  have e1:rB R=rB (R.take w)++rB (R.drop w):=by rw [← rB_app,List.take_append_drop]
  rw [ed,rB_cons] at e1
  have tw:R.take w=g.take w:=by rw [← eR,List.take_append_of_le_length (by omega)]
  generalize R[w]=o at *
  have brest:byt (rB (R.drop (w+1)))=true:=rB_byt _ (fun o ho => hv o (List.mem_of_mem_drop ho)) (fun o ho => okR o (List.mem_of_mem_drop ho))
  obtain ⟨rest,er⟩:∃ x,rB (R.drop (w+1))=x:=⟨_,rfl⟩
  rw [er] at e1 brest
  obtain ⟨P,eP⟩:∃ P,rB (R.take w)=P:=⟨_,rfl⟩
  rw [eP] at e1 h1 h2
  have eu:rB R++tail=P++(rqB o++(rest++tail)):=by rw [e1]; simp only [List.append_assoc]
  rw [eu] at lr hd nf af
  obtain ⟨u,eU⟩:∃ u,rqB o++(rest++tail)=u:=⟨_,rfl⟩
  rw [eU] at lr hd nf af
  have bu:byt u=true:=by rw [← eU]; exact byt_app (rqB_byt o (hv o om) (okR o om)) (byt_app brest bt)
  have lu:u.length=(rqB o++(rest++tail)).length:=by rw [eU]
  rw [List.length_append] at lr
  have er2:=pre_of P u r (by omega) (fun i hi => af i (by omega))
  have hD:∀ i,(P++u).getD (P.length+i) 0=u.getD i 0:=getD_appr P u
  have hR:∀ i,(r.drop P.length).getD i 0=r.getD (P.length+i) 0:=getD_drop r _
  obtain ⟨z,ez⟩:∃ z,r.drop P.length=z:=⟨_,rfl⟩
  have lz:z.length=r.length - P.length:=by rw [← ez,List.length_drop]
  have bz:byt z=true:=by rw [← ez]; exact byt_drop br _
  rw [ez] at er2 hR
  have hn:dcV z=none:=by
    cases hz:dcV z with
    | none => rfl
    | some y =>
      obtain ⟨o',k'⟩:=y
      exfalso
      have m:=dc_more z (u.drop z.length) bz o' k' hz
      have lq:(z++u.drop z.length).length=(rqB o++(rest++tail)).length:=by rw [← lu,List.length_append,List.length_drop]; omega
      have qd:∀ i,z.length≤i→(z++u.drop z.length).getD i 0=u.getD i 0:=fun i hi => by
        obtain ⟨k,rfl⟩:∃ k,i=z.length+k:=⟨i - z.length,by omega⟩
        rw [getD_appr,getD_drop]
      have:=dc_turn o (hv o om) (okR o om) (rest++tail) (z++u.drop z.length) (byt_app brest bt) (byt_app bz (byt_drop bu _)) lq (p - P.length) (f - P.length) (fun i hi => by
        rw [eU]
        by_cases c:i < z.length
        · rw [getD_appl _ _ _ c,hR,← hD]
          by_cases c2:P.length+i < f
          · exact af _ c2
          · exact hd _ (by omega) (by
              rcases hi with hi | hi
              · left; omega
              · right; omega)
        · exact qd i (by omega)) (by omega) (by
        rw [eU,getD_appl _ _ _ (by omega),hR,← hD,show P.length+(f - P.length)=f by omega]
        exact nf)
      rw [this] at m; cases m
  rw [er2,← eP,tw]
  exact ga_stop num z hn (g.take w) [] n (fun o ho => (sgOk_ok sok).2.2 o (List.mem_of_mem_take ho))
/-- what is read of groups that are cut,and turned -/
theorem rn_read (may:List (List Rq)) (hok:∀ i g,may[i]?=some g→sgOk (1+i) g=true) (ok:∀ g ∈ may,∀ o ∈ g,o.ok) (hl:may.length≤20) (cur:List Nat) (bc:byt cur=true) (cut:Nat) (hc:cut≤(gsB 1 may).length) (lc:cur.length=cut) (p f:Nat) (hd:∀ i,i < p∨p+4≤i→cur.getD i 0=((gsB 1 may).take cut).getD i 0) (hf:f < cut) (nf:cur.getD f 0≠((gsB 1 may).take cut).getD f 0) (af:∀ i,i < f→cur.getD i 0=((gsB 1 may).take cut).getD i 0) (w:Nat) (hw:w≤may.length) (q1:(gsB 1 (may.take w)).length≤f) (q2:∀ g,may[w]?=some g→f < (gsB 1 (may.take (w+1))).length):srR cur 1=(may.take w,(gsB 1 (may.take w)).length):=by
  have lw:(may.take w).length=w:=by rw [List.length_take]; omega
  cases ho:may[w]? with
  | none =>
    have hwl:may.length≤w:=List.getElem?_eq_none_iff.1 ho
    rw [List.take_of_length_le hwl] at q1
    omega
  | some g =>
    have q2:=q2 g ho
    have es:=gsB_split 1 may w g ho
    have om:=List.mem_of_getElem? ho
    rw [gsB_succ 1 may w g ho,List.length_append] at q2
    have sok:=hok w g ho
    have bA:=gsB_byt may 1 hok ok
    obtain ⟨tail,et⟩:∃ x,gsB (1+w+1) (may.drop (w+1))=x:=⟨_,rfl⟩
    have bt:byt tail=true:=by
      rw [← et]
      refine gsB_byt _ _ (fun i g' hg => ?_) (fun g' hg => ok g' (List.mem_of_mem_drop hg))
      rw [List.getElem?_drop] at hg
      have:=hok _ g' hg
      rw [show 1+w+1+i=1+(w+1+i) by omega]; exact this
    rw [et] at es
    obtain ⟨A,eA⟩:∃ A,gsB 1 may=A:=⟨_,rfl⟩
    rw [eA] at es hc hd nf af bA
    obtain ⟨P,eP⟩:∃ P,gsB 1 (may.take w)=P:=⟨_,rfl⟩
    rw [eP] at es q1 q2
    have tD:∀ i,i < cut→(A.take cut).getD i 0=A.getD i 0:=fun i hi => getD_take _ _ _ hi
    have ec:=pre_of P (sgB (1+w) g++tail) cur (by omega) (fun i hi => by rw [← es,← tD i (by omega)]; exact af i (by omega))
    have la:=congrArg List.length es
    rw [List.length_append] at la
    have hD:∀ i,A.getD (P.length+i) 0=(sgB (1+w) g++tail).getD i 0:=fun i => by rw [es]; exact getD_appr P _ i
    have hR:∀ i,(cur.drop P.length).getD i 0=cur.getD (P.length+i) 0:=getD_drop cur _
    have lz:(cur.drop P.length).length=cur.length - P.length:=List.length_drop ..
    have hg:∀ n,gaV (1+w) n (cur.drop P.length) []=none:=fun n => ga_turn (1+w) g sok (ok g om) tail bt (cur.drop P.length) (byt_drop bc _) (by omega) (p - P.length) (f - P.length) (fun i h1 h2 => by
      rw [hR,← hD,← tD _ (by omega)]
      by_cases c2:P.length+i < f
      · exact af _ c2
      · exact hd _ (by
          rcases h2 with h2 | h2
          · left; omega
          · right; omega)) (by omega) (by omega) (by
      rw [hR,← hD,show P.length+(f - P.length)=f by omega,← tD _ hf]; exact nf) (fun i h1 => by
      rw [hR,← hD,← tD _ (by omega)]; exact af _ (by omega)) n
    unfold srR
    have ge:=gsB_ge (may.take w) 1
    rw [lw,eP] at ge
    have:=gr_join cur (may.take w) 1 0 (cur.drop P.length) (cur.length+1) (Nat.zero_le _) (by rw [List.drop_zero,eP]; exact ec) (fun i g' h => by
      rw [List.getElem?_take] at h
      by_cases hi:i < w
      · rw [if_pos hi] at h; exact hok i g' h
      · rw [if_neg hi] at h; cases h) (Nat.le_refl _) (by omega) (by rw [lw]; exact hg _) (by omega)
    rw [this,Nat.zero_add,eP]
end Go.Eng
namespace Go.Eng
open Go
variable {E:Nat→Option Fn} {X:Orc}
set_option linter.unusedSimpArgs false
set_option linter.unusedVariables false
theorem app_1 (h:H) (s:List Nat) (hl:s.length≤1000000):∃ q c h',appendC (h.new (.cells [] .rw)) 1 1 (.slice (some (h.next,0)) 0 (some 0) 1) (some (s.length,ofI .u8 s))=some (.slice (some (q,0)) s.length c 1,h')∧Kp h h'∧h.next≤q∧q < h'.next∧h'.get q=some (.cells (ofI .u8 s) .rw)∧(s≠[]→c=none):=by
  cases hn:s.length with
  | zero =>
    obtain rfl:s=[]:=List.length_eq_zero_iff.1 hn
    exact ⟨h.next,some 0,h.new (.cells [] .rw),appN _ _ _ _ _ _,Kp.new _ _,Nat.le_refl _,Nat.lt_succ_self _,h_new_same _ _,fun h => absurd rfl h⟩
  | succ n =>
    obtain ⟨h1,e1⟩:∃ h1,h.new (.cells [] .rw)=h1:=⟨_,rfl⟩
    have g:h1.get h.next=some (.cells [] .rw):=by rw [← e1]; exact h_new_same _ _
    have k1:Kp h h1:=by rw [← e1]; exact Kp.new _ _
    rw [e1]
    refine ⟨h1.next,none,h1.new (.cells (ofI .u8 s) .rw),?_,k1.trans (Kp.new _ _),k1.1,Nat.lt_succ_self _,h_new_same _ _,fun _ => rfl⟩
    unfold appendC
    simp only
    have r:(roomy (0+(n+1)) 1 && (Nat.beq 1 1 || (some (h.next,0):Option (Nat × Nat)).isNone) && (ofI .u8 s).all plainV)=true:=by
      rw [plain_ofI]; have:roomy (0+(n+1)) 1=true:=by simp [roomy]; omega
      rw [this]; rfl
    have f:fullC (some 0) (0+(n+1))=true:=by
      show Nat.blt 0 (0+(n+1))=true
      simp
    rw [r]
    simp only [_root_.cond_true,g,f]
    have rd:readN ([]:List V) 0 (0 * 1)=some []:=rfl
    simp only [rd,List.nil_append,Nat.zero_add]
/-- bytes,turned one after the other from the last one on,and the first that was -/
def tdN (p t:Nat) (l:List Nat):Nat→List Nat × Option Nat
  | 0 => (l,none)
  | j+1 => if p+(3 - j) < l.length∧xb t (3 - j)≠0 then ((tdN p t l j).1.set (p+(3 - j)) ((tdN p t l j).1.getD (p+(3 - j)) 0 ^^^ xb t (3 - j)),some (p+(3 - j))) else tdN p t l j
theorem td_ok (p t:Nat) (l:List Nat) (bl:byt l=true):∀ j,j≤4→byt (tdN p t l j).1=true∧(tdN p t l j).1.length=l.length∧(∀ i,i < p+(4 - j)∨p+4≤i→(tdN p t l j).1.getD i 0=l.getD i 0)∧((tdN p t l j).2=none→(tdN p t l j).1=l)∧∀ f,(tdN p t l j).2=some f→p+(4 - j)≤f∧f < p+4∧f < l.length∧(tdN p t l j).1.getD f 0≠l.getD f 0∧∀ i,i < f→(tdN p t l j).1.getD i 0=l.getD i 0:=by
  intro j
  induction j with
  | zero => intro _; exact ⟨bl,rfl,fun _ _ => rfl,fun _ => rfl,fun f h => by cases h⟩
  | succ j ih =>
    intro hj
    obtain ⟨b1,l1,o1,n1,f1⟩:=ih (by omega)
    unfold tdN
    obtain ⟨k,ek⟩:∃ k,3 - j=k:=⟨_,rfl⟩
    rw [ek]
    by_cases c:p+k < l.length∧xb t k≠0
    · rw [if_pos c]
      simp only
      generalize (tdN p t l j).1=cur at *
      generalize (tdN p t l j).2=fo at *
      have hx:xb t k < 256:=Nat.mod_lt _ (by decide)
      have hg:=getD_set' cur (p+k) (cur.getD (p+k) 0 ^^^ xb t k)
      have hg:=fun j => hg j (by omega)
      have ne:cur.getD (p+k) 0 ^^^ xb t k≠l.getD (p+k) 0:=by
        rw [o1 (p+k) (by omega)]
        intro h
        apply c.2
        have:=congrArg (fun z => l.getD (p+k) 0 ^^^ z) h
        simp only [← Nat.xor_assoc,Nat.xor_self,Nat.zero_xor] at this
        exact this
      refine ⟨byt_iff.2 (fun x hx' => ?_),by rw [List.length_set,l1],fun i hi => by rw [hg,if_neg (by omega)]; exact o1 i (by omega),fun h => (by cases h),fun f hf => ?_⟩
      · rcases List.mem_or_eq_of_mem_set hx' with h | h
        · exact byt_iff.1 b1 x h
        · rw [h]; exact x256 _ _ (bytD b1 _) hx
      · obtain rfl:p+k=f:=by simpa using hf
        exact ⟨by omega,by omega,c.1,by rw [hg,if_pos rfl]; exact ne,fun i hi => by rw [hg,if_neg (by omega)]; exact o1 i (by omega)⟩
    · rw [if_neg c]
      exact ⟨b1,l1,fun i hi => o1 i (by omega),n1,fun f hf => by obtain ⟨g1,g2,g⟩:=f1 f hf; exact ⟨by omega,g2,g⟩⟩
def fN (n:Nat) (f:Option Nat):Nat:=f.getD n
structure TnI (l:List Nat) (p x t q:Nat) (v0:V) (c:Option Nat) (h0:H) (j:Nat) (T:Tr V) (h:H):Prop where
  kl:j≤4
  t2:evO T (.t 2)=.int .u16 (x:Int)
  t3:evO T (.t 3)=.int .u32 (t:Int)
  t9:evO T (.t 9)=.bool true
  t11:evO T (.t 11)=v0
  t12:evO T (.t 12)=.slice (some (q,0)) l.length c 1
  t13:evO T (.t 13)=.int .i64 (fN l.length (tdN p t l j).2:Int)
  t14:evO T (.t 14)=.int .i64 (3 - (j:Int))
  g:h.get q=some (.cells (ofI .u8 (tdN p t l j).1) .rw)
  eq:Eqx q h0 h
theorem tn_step (Q:Orc) (m:Nat) (l:List Nat) (bl:byt l=true) (hl:l.length≤900000) (x t q:Nat) (hx:x < 65536) (ht:t < 4294967296) (v0:V) (c:Option Nat) (h0:H) (j:Nat) (hj:j < 4) (T:Tr V) (h:H) (I:TnI l (x % (l.length+1)) x t q v0 c h0 j T h) :
    ∃ T' h',evC Q 132 m none L_purserlaw17_SegmentRuns_0 ⟨T,[],h⟩=some (.normal,⟨T',[],h'⟩)∧TnI l (x % (l.length+1)) x t q v0 c h0 (j+1) T' h':=by
  obtain ⟨_,t2,t3,t9,t11,t12,t13,t14,g,eq⟩:=I
  obtain ⟨p,ep⟩:∃ p,x % (l.length+1)=p:=⟨_,rfl⟩
  have hp:p < l.length+1:=by rw [← ep]; exact Nat.mod_lt _ (by omega)
  have wl:wr .i64 ((l.length:Int)+1)=((l.length+1:Nat):Int):=by rw [wr_i64 (by omega)]; omega
  have rem:∀ (e:EqK) (h:H),binV .rem e h (.int .i64 (x:Int)) (.int .i64 ((l.length+1:Nat):Int))=some (.int .i64 (p:Int)):=fun e h => by
    rw [b_rem _ _ _ _ _ (by omega),← ep]; rfl
  rw [ep] at t13 g ⊢
  obtain ⟨b1,l1,_,_,_⟩:=td_ok p t l bl j (by omega)
  obtain ⟨k,ek⟩:∃ k,3 - j=k:=⟨_,rfl⟩
  have ek':(3:Int) - (j:Int)=(k:Int):=by omega
  rw [ek'] at t14
  have c0:decide ((0:Int)≤(k:Int))=true:=decide_eq_true (by omega)
  have wi:wr .i64 ((k:Int) - 1)=3 - ((j+1:Nat):Int):=by rw [wr_i64 (by omega)]; omega
  have wx:wr .i64 (x:Int)=(x:Int):=wr_i64 (by omega)
  have wp:wr .i64 ((p:Int)+(k:Int))=((p+k:Nat):Int):=by rw [wr_i64 (by omega)]; omega
  have w8:wr .i64 (8 * (k:Int))=((8 * k:Nat):Int):=by rw [wr_i64 (by omega)]; omega
  have wu:wr .u64 ((8 * k:Nat):Int)=((8 * k:Nat):Int):=u64n _ (by omega)
  have sh:=fun e h => b_shr32 e h t (8 * k) (by omega)
  have wb:wr .u8 ((sr t (8 * k):Nat):Int)=(xb t k:Int):=by
    exact w8n _
  have kl:j+1≤4:=hj
  have hb:xb t k < 256:=Nat.mod_lt _ (by decide)
  obtain ⟨j3,ej3⟩:∃ z:Int,3 - ((j+1:Nat):Int)=z:=⟨_,rfl⟩
  rw [ej3] at wi
  by_cases cc:p+k < l.length∧xb t k≠0
  · have e1:tdN p t l (j+1)=((tdN p t l j).1.set (p+k) ((tdN p t l j).1.getD (p+k) 0 ^^^ xb t k),some (p+k)):=by
      show (if _ then _ else _)=_
      rw [ek,if_pos cc]
    have d1:decide (((p+k:Nat):Int) < (l.length:Int))=true:=decide_eq_true (by omega)
    have d2:(!decide ((xb t k:Int)=0))=true:=by rw [decide_eq_false (by omega)]; rfl
    have ix:idx ((p+k:Nat):Int) l.length=some (p+k):=idxn cc.1
    have cg:(ofI .u8 (tdN p t l j).1)[p+k]?=some (.int .u8 ((tdN p t l j).1.getD (p+k) 0:Nat)):=ofI_get _ _ _ (by omega)
    have xo:=xor8' ((tdN p t l j).1.getD (p+k) 0) (xb t k) (bytD b1 _) hb
    have ste:=fun (h:H) (v:V) => stAnyR .u8 (tdN p t l j).1 [v] .rw rfl h q (p+k) (by simp only [List.length_cons,List.length_nil]; omega)
    have su:=wr1I .u8 (tdN p t l j).1 (p+k) ((tdN p t l j).1.getD (p+k) 0 ^^^ xb t k) (by omega)
    have E1:(tdN p t l (j+1)).1=(tdN p t l j).1.set (p+k) ((tdN p t l j).1.getD (p+k) 0 ^^^ xb t k):=by rw [e1]
    have E2:fN l.length (tdN p t l (j+1)).2=p+k:=by rw [e1]; rfl
    clear e1
    obtain ⟨cu,ecu⟩:∃ z,(tdN p t l (j+1)).1=z:=⟨_,rfl⟩
    rw [← E1,ecu] at su
    generalize (tdN p t l j).1.getD (p+k) 0=y at *
    generalize fN l.length (tdN p t l j).2=fk at *
    generalize (tdN p t l j).1=cur at *
    generalize y ^^^ xb t k=z at *
    generalize xb t k=xk at *
    generalize sr t (8 * k)=sk at *
    obtain ⟨pk,epk⟩:∃ z,p+k=z:=⟨_,rfl⟩
    obtain ⟨n,en⟩:∃ z,l.length=z:=⟨_,rfl⟩
    obtain ⟨n1,en1⟩:∃ z,n+1=z:=⟨_,rfl⟩
    obtain ⟨k8,ek8⟩:∃ z,8 * k=z:=⟨_,rfl⟩
    rw [epk] at wp d1 ix cg ste su E2
    rw [en] at t12 rem wl d1 ix
    rw [en1] at rem wl
    rw [ek8] at w8 wu sh
    obtain ⟨h2,eh2⟩:∃ h2,h.put q (.cells (ofI .u8 cu) .rw)=h2:=⟨_,rfl⟩
    have g2:h2.get q=some (.cells (ofI .u8 cu) .rw):=by rw [← eh2]; exact h_put_same _ _ _
    have eq2:Eqx q h0 h2:=by rw [← eh2]; exact ⟨eq.1,fun j hj => by rw [h_put_ne _ _ (Ne.symm hj)]; exact eq.2 j hj⟩
    obtain ⟨T',r,u2,u3,u9,u11,u12,u13,u14⟩:∃ T',evC Q 132 m none L_purserlaw17_SegmentRuns_0 ⟨T,[],h⟩=some (.normal,⟨T',[],h2⟩)∧evO T' (.t 2)=.int .u16 (x:Int)∧evO T' (.t 3)=.int .u32 (t:Int)∧evO T' (.t 9)=.bool true∧evO T' (.t 11)=v0∧evO T' (.t 12)=.slice (some (q,0)) n c 1∧evO T' (.t 13)=.int .i64 (pk:Int)∧evO T' (.t 14)=.int .i64 j3:=by
      exact ⟨_,by
        simp (config:={maxSteps:=2000000}) (disch:=first | omega | (simp only [List.length_cons,List.length_nil,List.length_append,List.length_drop]; omega)) only [L_purserlaw17_SegmentRuns_0,t2,t3,t12,t14,g,cg,c0,wi,wl,wx,wp,w8,wu,sh,wb,rem,d1,d2,ix,xo,ste,su,eh2,↓s_len,x_lenS,↓b_xor32,↓b_and32,↓b_or32,↓u_not32,b_xor32,b_and32,b_or32,u_not32,w32ad,↓x_conv,x_convV,↓x_fieldAddr,x_fieldV,↓s_nilchk,x_nilchk,Nat.zero_add,Nat.add_zero,Nat.mul_one,↓l_loop,↓l_succ,↓l_normal,l_normal,l_exit,l_ret,l_iteN,↓h_put_get,↓h_new_get,↓h_del_get,h_next_put,h_next_new,h_next_del,Nat.add_assoc,Nat.add_eq_left,Nat.left_eq_add,Nat.add_left_cancel_iff,↓s_load,m_load,↓m_load1,m_load1,↓m_st,m_stE,m_storeI,w_zero,w_succ,↓s_alloc,↓x_idxA,↓x_idxS,x_idxAE,x_idxSE,x_addrE,x_idx,x_lenS,↓s_len,↓x_buildS,x_buildE,↓x_P0,↓x_P1,x_fill0,x_filli,x_fills,x_fillb,c_int,List.length_cons,List.length_nil,List.cons_append,List.drop_succ_cons,List.drop_zero,List.drop_nil,List.nil_append,Int.reduceAdd,Int.reduceToNat,Int.reduceLT,Int.reduceLE,Nat.reduceAdd,Nat.reduceMul,Nat.reduceLeDiff,Int.reduceEq,Int.reduceSub,Int.cast_ofNat_Int,s_resc,s_consR,m_load4,m_store4,s_res0,↓s_skip,↓s_ops,↓s_dops,↓s_seq,↓s_cond,↓s_block,↓s_exit,↓s_ret,↓s_scope,↓s_nil,↓s_op,↓s_opg,↓s_wanted',↓s_wantV,s_wantV,s_wantV0,beq_true,beq_false,↓s_bindS,s_bindS,↓s_bindE,s_bindE,s_bindE_ret,s_bindE_exit,s_bindE_iteN,s_norm,↓s_condV,s_condV,s_block_ret,s_block_normal,s_block_exit,s_block_iteN,↓s_getp,↓s_getp0,↓s_get,s_get0,↓s_con,↓s_fn,↓s_os0,↓s_os1,↓s_list0,↓s_list1,↓s_mov,↓s_pick,↓s_pickE,s_pickE,↓s_bin,↓s_un,↓s_minmax,↓s_call,↓s_callv,↓s_callV,↓s_ext,s_same,b_eql,b_neq,b_lss,b_leq,b_gtr,b_geq,b_add,b_sub,b_mul,b_eqlb,b_neqb,b_fnil,b_fnil',b_fnil2,b_fnil2',u_neg,u_not,m_two,s_end,s_end',s_end_iteN,s_res0,s_res1,s_tup1,s_tup2,↓iteN_true,↓iteN_false,iteN_true,iteN_false,Nat.zero_add,List.nil_append,List.append_nil,Nat.reduceEqDiff,reduceIte,decide_true,decide_false,Bool.not_true,Bool.not_false,List.getElem?_cons_zero,List.getElem?_cons_succ,Bool.false_eq_true,if_true,if_false,beq_self_eq_true]
        exact rfl,(by (simp only [s_getp,s_getp0,Nat.reduceEqDiff,decide_false,decide_true,iteN_false,iteN_true,t2]; try rfl)),(by (simp only [s_getp,s_getp0,Nat.reduceEqDiff,decide_false,decide_true,iteN_false,iteN_true,t3]; try rfl)),(by (simp only [s_getp,s_getp0,Nat.reduceEqDiff,decide_false,decide_true,iteN_false,iteN_true,t9]; try rfl)),(by (simp only [s_getp,s_getp0,Nat.reduceEqDiff,decide_false,decide_true,iteN_false,iteN_true,t11]; try rfl)),(by (simp only [s_getp,s_getp0,Nat.reduceEqDiff,decide_false,decide_true,iteN_false,iteN_true,t12]; try rfl)),(by (simp only [s_getp,s_getp0,Nat.reduceEqDiff,decide_false,decide_true,iteN_false,iteN_true,t13]; try rfl)),(by (simp only [s_getp,s_getp0,Nat.reduceEqDiff,decide_false,decide_true,iteN_false,iteN_true,t14]; try rfl))⟩
    exact ⟨T',h2,r,kl,u2,u3,u9,u11,by rw [en]; exact u12,by rw [E2]; exact u13,by rw [ej3]; exact u14,by rw [ecu]; exact g2,eq2⟩
  · have e1:tdN p t l (j+1)=tdN p t l j:=by
      show (if _ then _ else _)=_
      rw [ek,if_neg cc]
    have one:∃ T',evC Q 132 m none L_purserlaw17_SegmentRuns_0 ⟨T,[],h⟩=some (.normal,⟨T',[],h⟩)∧evO T' (.t 2)=.int .u16 (x:Int)∧evO T' (.t 3)=.int .u32 (t:Int)∧evO T' (.t 9)=.bool true∧evO T' (.t 11)=v0∧evO T' (.t 12)=.slice (some (q,0)) l.length c 1∧evO T' (.t 13)=.int .i64 (fN l.length (tdN p t l j).2:Int)∧evO T' (.t 14)=.int .i64 j3:=by
      by_cases c1:p+k < l.length
      · have c2:xb t k=0:=Classical.byContradiction (fun h => cc ⟨c1,h⟩)
        have d1:decide (((p+k:Nat):Int) < (l.length:Int))=true:=decide_eq_true (by omega)
        have d2:(!decide ((xb t k:Int)=0))=false:=by rw [decide_eq_true (by omega)]; rfl
        generalize fN l.length (tdN p t l j).2=fk at *
        generalize xb t k=xk at *
        generalize sr t (8 * k)=sk at *
        generalize p+k=pk at *
        obtain ⟨n,en⟩:∃ z,l.length=z:=⟨_,rfl⟩
        obtain ⟨n1,en1⟩:∃ z,n+1=z:=⟨_,rfl⟩
        obtain ⟨k8,ek8⟩:∃ z,8 * k=z:=⟨_,rfl⟩
        rw [en] at t12 rem wl d1 ⊢
        rw [en1] at rem wl
        rw [ek8] at w8 wu sh
        exact ⟨_,by
          simp (config:={maxSteps:=2000000}) (disch:=first | omega | (simp only [List.length_cons,List.length_nil,List.length_append,List.length_drop]; omega)) only [L_purserlaw17_SegmentRuns_0,t2,t3,t12,t14,c0,wi,wl,wx,wp,w8,wu,sh,wb,rem,d1,d2,↓s_len,x_lenS,↓b_xor32,↓b_and32,↓b_or32,↓u_not32,b_xor32,b_and32,b_or32,u_not32,w32ad,↓x_conv,x_convV,↓x_fieldAddr,x_fieldV,↓s_nilchk,x_nilchk,Nat.zero_add,Nat.add_zero,Nat.mul_one,↓l_loop,↓l_succ,↓l_normal,l_normal,l_exit,l_ret,l_iteN,↓h_put_get,↓h_new_get,↓h_del_get,h_next_put,h_next_new,h_next_del,Nat.add_assoc,Nat.add_eq_left,Nat.left_eq_add,Nat.add_left_cancel_iff,↓s_load,m_load,↓m_load1,m_load1,↓m_st,m_stE,m_storeI,w_zero,w_succ,↓s_alloc,↓x_idxA,↓x_idxS,x_idxAE,x_idxSE,x_addrE,x_idx,x_lenS,↓s_len,↓x_buildS,x_buildE,↓x_P0,↓x_P1,x_fill0,x_filli,x_fills,x_fillb,c_int,List.length_cons,List.length_nil,List.cons_append,List.drop_succ_cons,List.drop_zero,List.drop_nil,List.nil_append,Int.reduceAdd,Int.reduceToNat,Int.reduceLT,Int.reduceLE,Nat.reduceAdd,Nat.reduceMul,Nat.reduceLeDiff,Int.reduceEq,Int.reduceSub,Int.cast_ofNat_Int,s_resc,s_consR,m_load4,m_store4,s_res0,↓s_skip,↓s_ops,↓s_dops,↓s_seq,↓s_cond,↓s_block,↓s_exit,↓s_ret,↓s_scope,↓s_nil,↓s_op,↓s_opg,↓s_wanted',↓s_wantV,s_wantV,s_wantV0,beq_true,beq_false,↓s_bindS,s_bindS,↓s_bindE,s_bindE,s_bindE_ret,s_bindE_exit,s_bindE_iteN,s_norm,↓s_condV,s_condV,s_block_ret,s_block_normal,s_block_exit,s_block_iteN,↓s_getp,↓s_getp0,↓s_get,s_get0,↓s_con,↓s_fn,↓s_os0,↓s_os1,↓s_list0,↓s_list1,↓s_mov,↓s_pick,↓s_pickE,s_pickE,↓s_bin,↓s_un,↓s_minmax,↓s_call,↓s_callv,↓s_callV,↓s_ext,s_same,b_eql,b_neq,b_lss,b_leq,b_gtr,b_geq,b_add,b_sub,b_mul,b_eqlb,b_neqb,b_fnil,b_fnil',b_fnil2,b_fnil2',u_neg,u_not,m_two,s_end,s_end',s_end_iteN,s_res0,s_res1,s_tup1,s_tup2,↓iteN_true,↓iteN_false,iteN_true,iteN_false,Nat.zero_add,List.nil_append,List.append_nil,Nat.reduceEqDiff,reduceIte,decide_true,decide_false,Bool.not_true,Bool.not_false,List.getElem?_cons_zero,List.getElem?_cons_succ,Bool.false_eq_true,if_true,if_false,beq_self_eq_true]
          exact rfl,(by (simp only [s_getp,s_getp0,Nat.reduceEqDiff,decide_false,decide_true,iteN_false,iteN_true,t2]; try rfl)),(by (simp only [s_getp,s_getp0,Nat.reduceEqDiff,decide_false,decide_true,iteN_false,iteN_true,t3]; try rfl)),(by (simp only [s_getp,s_getp0,Nat.reduceEqDiff,decide_false,decide_true,iteN_false,iteN_true,t9]; try rfl)),(by (simp only [s_getp,s_getp0,Nat.reduceEqDiff,decide_false,decide_true,iteN_false,iteN_true,t11]; try rfl)),(by (simp only [s_getp,s_getp0,Nat.reduceEqDiff,decide_false,decide_true,iteN_false,iteN_true,t12]; try rfl)),(by (simp only [s_getp,s_getp0,Nat.reduceEqDiff,decide_false,decide_true,iteN_false,iteN_true,t13]; try rfl)),(by (simp only [s_getp,s_getp0,Nat.reduceEqDiff,decide_false,decide_true,iteN_false,iteN_true,t14]; try rfl))⟩
      · have d1:decide (((p+k:Nat):Int) < (l.length:Int))=false:=decide_eq_false (by omega)
        generalize fN l.length (tdN p t l j).2=fk at *
        generalize xb t k=xk at *
        generalize sr t (8 * k)=sk at *
        generalize p+k=pk at *
        obtain ⟨n,en⟩:∃ z,l.length=z:=⟨_,rfl⟩
        obtain ⟨n1,en1⟩:∃ z,n+1=z:=⟨_,rfl⟩
        obtain ⟨k8,ek8⟩:∃ z,8 * k=z:=⟨_,rfl⟩
        rw [en] at t12 rem wl d1 ⊢
        rw [en1] at rem wl
        rw [ek8] at w8 wu sh
        exact ⟨_,by
          simp (config:={maxSteps:=2000000}) (disch:=first | omega | (simp only [List.length_cons,List.length_nil,List.length_append,List.length_drop]; omega)) only [L_purserlaw17_SegmentRuns_0,t2,t3,t12,t14,c0,wi,wl,wx,wp,w8,wu,sh,wb,rem,d1,↓s_len,x_lenS,↓b_xor32,↓b_and32,↓b_or32,↓u_not32,b_xor32,b_and32,b_or32,u_not32,w32ad,↓x_conv,x_convV,↓x_fieldAddr,x_fieldV,↓s_nilchk,x_nilchk,Nat.zero_add,Nat.add_zero,Nat.mul_one,↓l_loop,↓l_succ,↓l_normal,l_normal,l_exit,l_ret,l_iteN,↓h_put_get,↓h_new_get,↓h_del_get,h_next_put,h_next_new,h_next_del,Nat.add_assoc,Nat.add_eq_left,Nat.left_eq_add,Nat.add_left_cancel_iff,↓s_load,m_load,↓m_load1,m_load1,↓m_st,m_stE,m_storeI,w_zero,w_succ,↓s_alloc,↓x_idxA,↓x_idxS,x_idxAE,x_idxSE,x_addrE,x_idx,x_lenS,↓s_len,↓x_buildS,x_buildE,↓x_P0,↓x_P1,x_fill0,x_filli,x_fills,x_fillb,c_int,List.length_cons,List.length_nil,List.cons_append,List.drop_succ_cons,List.drop_zero,List.drop_nil,List.nil_append,Int.reduceAdd,Int.reduceToNat,Int.reduceLT,Int.reduceLE,Nat.reduceAdd,Nat.reduceMul,Nat.reduceLeDiff,Int.reduceEq,Int.reduceSub,Int.cast_ofNat_Int,s_resc,s_consR,m_load4,m_store4,s_res0,↓s_skip,↓s_ops,↓s_dops,↓s_seq,↓s_cond,↓s_block,↓s_exit,↓s_ret,↓s_scope,↓s_nil,↓s_op,↓s_opg,↓s_wanted',↓s_wantV,s_wantV,s_wantV0,beq_true,beq_false,↓s_bindS,s_bindS,↓s_bindE,s_bindE,s_bindE_ret,s_bindE_exit,s_bindE_iteN,s_norm,↓s_condV,s_condV,s_block_ret,s_block_normal,s_block_exit,s_block_iteN,↓s_getp,↓s_getp0,↓s_get,s_get0,↓s_con,↓s_fn,↓s_os0,↓s_os1,↓s_list0,↓s_list1,↓s_mov,↓s_pick,↓s_pickE,s_pickE,↓s_bin,↓s_un,↓s_minmax,↓s_call,↓s_callv,↓s_callV,↓s_ext,s_same,b_eql,b_neq,b_lss,b_leq,b_gtr,b_geq,b_add,b_sub,b_mul,b_eqlb,b_neqb,b_fnil,b_fnil',b_fnil2,b_fnil2',u_neg,u_not,m_two,s_end,s_end',s_end_iteN,s_res0,s_res1,s_tup1,s_tup2,↓iteN_true,↓iteN_false,iteN_true,iteN_false,Nat.zero_add,List.nil_append,List.append_nil,Nat.reduceEqDiff,reduceIte,decide_true,decide_false,Bool.not_true,Bool.not_false,List.getElem?_cons_zero,List.getElem?_cons_succ,Bool.false_eq_true,if_true,if_false,beq_self_eq_true]
          exact rfl,(by (simp only [s_getp,s_getp0,Nat.reduceEqDiff,decide_false,decide_true,iteN_false,iteN_true,t2]; try rfl)),(by (simp only [s_getp,s_getp0,Nat.reduceEqDiff,decide_false,decide_true,iteN_false,iteN_true,t3]; try rfl)),(by (simp only [s_getp,s_getp0,Nat.reduceEqDiff,decide_false,decide_true,iteN_false,iteN_true,t9]; try rfl)),(by (simp only [s_getp,s_getp0,Nat.reduceEqDiff,decide_false,decide_true,iteN_false,iteN_true,t11]; try rfl)),(by (simp only [s_getp,s_getp0,Nat.reduceEqDiff,decide_false,decide_true,iteN_false,iteN_true,t12]; try rfl)),(by (simp only [s_getp,s_getp0,Nat.reduceEqDiff,decide_false,decide_true,iteN_false,iteN_true,t13]; try rfl)),(by (simp only [s_getp,s_getp0,Nat.reduceEqDiff,decide_false,decide_true,iteN_false,iteN_true,t14]; try rfl))⟩
    obtain ⟨T',r,u2,u3,u9,u11,u12,u13,u14⟩:=one
    exact ⟨T',h,r,kl,u2,u3,u9,u11,u12,by rw [e1]; exact u13,by rw [ej3]; exact u14,by rw [e1]; exact g,eq⟩
end Go.Eng
namespace Go.Eng
open Go
variable {E:Nat→Option Fn} {X:Orc}
set_option linter.unusedSimpArgs false
set_option linter.unusedVariables false
structure R2I (may:List (List Rq)) (cut:Nat) (v11 v12:V) (h0:H) (i:Nat) (T:Tr V) (h:H):Prop where
  il:i≤may.length
  t9:evO T (.t 9)=.bool true
  t11:evO T (.t 11)=v11
  t12:evO T (.t 12)=v12
  t13:evO T (.t 13)=.int .i64 (cut:Int)
  t17:evO T (.t 17)=.int .i64 (i:Int)
  t18:evO T (.t 18)=.int .i64 ((gsB 1 (may.take i)).length:Int)
  kp:Kp h0 h
theorem r2_round (e:EnSg E) (x:NoSg X) (M:Nat) (hM:1000000 < M) (m:Nat) (may:List (List Rq)) (hl:may.length≤20) (hs:∀ g ∈ may,g.length≤60∧∀ o ∈ g,¬ 500 < o.l.length) (ok:∀ g ∈ may,∀ o ∈ g,o.ok) (hok:∀ i g,may[i]?=some g→sgOk (1+i) g=true) (cut:Nat) (am:Option (Nat × Nat)) (cm_:Option Nat) (em:Nat) (v12:V) (h0:H) (K:Nat→Prop) (row:GsK K h0 may am em) (i:Nat) (T:Tr V) (h:H) (I:R2I may cut (.slice am may.length cm_ em) v12 h0 i T h) :
    (∀ g,may[i]?=some g→(gsB 1 (may.take (i+1))).length≤cut→∃ T' h',evC (callX E X (M+26)) 132 m none L_purserlaw17_SegmentRuns_1 ⟨T,[],h⟩=some (.normal,⟨T',[],h'⟩)∧R2I may cut (.slice am may.length cm_ em) v12 h0 (i+1) T' h') ∧
    ((∀ g,may[i]?=some g→cut < (gsB 1 (may.take (i+1))).length)→∃ T' h',evC (callX E X (M+26)) 132 m none L_purserlaw17_SegmentRuns_1 ⟨T,[],h⟩=some (.exit 2,⟨T',[],h'⟩)∧R2I may cut (.slice am may.length cm_ em) v12 h0 i T' h'):=by
  obtain ⟨il,t9,t11,t12,t13,t17,t18,kp⟩:=I
  have gl:=gs_len may 1 hs i il
  have one:∀ g,may[i]?=some g→∃ q off vs md b cb eb h1 a2 c2 e2,am=some (q,off)∧em=1∧h.get q=some (.cells vs md)∧vs[off+i]?=some (V.slice b g.length cb eb)∧i < may.length∧callX E X (M+26) (.fn k_segment_Encode) [.int .u64 ((1+i:Nat):Int),.slice b g.length cb eb] h=some (.tup [.slice a2 (sgB (1+i) g).length c2 e2,.int .i64 0],h1)∧Kp h h1∧(gsB 1 (may.take (i+1))).length=(gsB 1 (may.take i)).length+(sgB (1+i) g).length∧(sgB (1+i) g).length≤31000:=fun g hg => by
    have gm:=List.mem_of_getElem? hg
    obtain ⟨hl6,hs5⟩:=hs _ gm
    have sok:=hok i _ hg
    obtain ⟨q,off,vs,md,b,cb,eb,e1,e2,hq,gq0,cg,rg,_⟩:=gs_at (row.kp kp) i _ hg
    have rBs:=rB_small g hs5
    have hi:=(List.getElem?_eq_some_iff.1 hg).1
    obtain ⟨h1,a2,c2,e2',r1,nw1⟩:=segenc_go e x (M+3) (by omega) (1+i) (by omega) g (by omega) (ok _ gm) (fun o ho => by have:=hs5 o ho; omega) (by omega) b cb eb h rg.row
    unfold sgR at r1 nw1
    rw [if_pos sok] at r1 nw1
    exact ⟨q,off,vs,md,b,cb,eb,h1,a2,c2,e2',e1,e2,gq0,cg,hi,r1,nw1.kp,by rw [gsB_succ 1 may i g hg,List.length_append],sgB_small _ g hl6 hs5⟩
  generalize hR:(gsB 1 (may.take i)).length=r at *
  have wu:wr .u64 (i:Int)=(i:Int):=u64n _ (by omega)
  have wn:wr .u64 ((i:Int)+1)=((1+i:Nat):Int):=by rw [wr_u64 (by omega)]; omega
  have z0:decide ((0:Int)=0)=true:=rfl
  constructor
  · intro g hg hc
    obtain ⟨q,off,vs,md,b,cb,eb,h1,a2,c2,e2,rfl,rfl,gq,cg,hi,r1,k1,e1,sm⟩:=one g hg
    rw [e1] at hc
    have c0:decide ((i:Int) < (may.length:Int))=true:=decide_eq_true (by omega)
    have ix:idx (i:Int) may.length=some i:=idxn hi
    have w2:wr .i64 ((r:Int)+((sgB (1+i) g).length:Int))=((r+(sgB (1+i) g).length:Nat):Int):=by rw [wr_i64 (by omega)]; omega
    have w3:wr .i64 ((i:Int)+1)=((i+1:Nat):Int):=by rw [wr_i64 (by omega)]; omega
    have d1:decide ((cut:Int) < ((r+(sgB (1+i) g).length:Nat):Int))=false:=decide_eq_false (by omega)
    have i1:i+1≤may.length:=hi
    obtain ⟨n,en⟩:∃ n,may.length=n:=⟨_,rfl⟩
    rw [en] at t11 c0 ix
    obtain ⟨nn,enn⟩:∃ y,1+i=y:=⟨_,rfl⟩
    rw [enn] at wn r1 w2 d1 e1
    obtain ⟨gl_,egl⟩:∃ y,g.length=y:=⟨_,rfl⟩
    rw [egl] at cg r1
    obtain ⟨r2,er2⟩:∃ y,r+(sgB nn g).length=y:=⟨_,rfl⟩
    rw [er2] at w2 d1 e1
    obtain ⟨BL,eBL⟩:∃ y,(sgB nn g).length=y:=⟨_,rfl⟩
    rw [eBL] at r1 w2
    obtain ⟨T',rr,u9,u11,u12,u13,u17,u18⟩:∃ T',evC (callX E X (M+26)) 132 m none L_purserlaw17_SegmentRuns_1 ⟨T,[],h⟩=some (.normal,⟨T',[],h1⟩)∧evO T' (.t 9)=.bool true∧evO T' (.t 11)=.slice (some (q,off)) n cm_ 1∧evO T' (.t 12)=v12∧evO T' (.t 13)=.int .i64 (cut:Int)∧evO T' (.t 17)=.int .i64 ((i+1:Nat):Int)∧evO T' (.t 18)=.int .i64 (r2:Int):=by
      exact ⟨_,by
        simp (config:={maxSteps:=2000000}) (disch:=first | omega | (simp only [List.length_cons,List.length_nil,List.length_append,List.length_drop]; omega)) only [L_purserlaw17_SegmentRuns_1,t11,t13,t17,t18,gq,cg,c0,ix,wu,wn,w2,w3,d1,r1,z0,↓s_len,x_lenS,↓b_xor32,↓b_and32,↓b_or32,↓u_not32,b_xor32,b_and32,b_or32,u_not32,w32ad,↓x_conv,x_convV,↓x_fieldAddr,x_fieldV,↓s_nilchk,x_nilchk,Nat.zero_add,Nat.add_zero,Nat.mul_one,↓l_loop,↓l_succ,↓l_normal,l_normal,l_exit,l_ret,l_iteN,↓h_put_get,↓h_new_get,↓h_del_get,h_next_put,h_next_new,h_next_del,Nat.add_assoc,Nat.add_eq_left,Nat.left_eq_add,Nat.add_left_cancel_iff,↓s_load,m_load,↓m_load1,m_load1,↓m_st,m_stE,m_storeI,m_storeE,w_zero,w_succ,↓s_alloc,↓x_idxA,↓x_idxS,x_idxAE,x_idxSE,x_addrE,x_idx,x_lenS,↓s_len,↓x_buildS,x_buildE,↓x_P0,↓x_P1,x_fill0,x_filli,x_fills,x_fillb,c_int,List.length_cons,List.length_nil,List.cons_append,List.drop_succ_cons,List.drop_zero,List.drop_nil,List.nil_append,Int.reduceAdd,Int.reduceToNat,Int.reduceLT,Int.reduceLE,Nat.reduceAdd,Nat.reduceMul,Nat.reduceLeDiff,Int.reduceEq,Int.reduceSub,Int.cast_ofNat_Int,s_resc,s_consR,m_load4,m_store4,s_res0,↓s_skip,↓s_ops,↓s_dops,↓s_seq,↓s_cond,↓s_block,↓s_exit,↓s_ret,↓s_scope,↓s_nil,↓s_op,↓s_opg,↓s_wanted',↓s_wantV,s_wantV,s_wantV0,beq_true,beq_false,↓s_bindS,s_bindS,↓s_bindE,s_bindE,s_bindE_ret,s_bindE_exit,s_bindE_iteN,s_norm,↓s_condV,s_condV,s_block_ret,s_block_normal,s_block_exit,s_block_iteN,↓s_getp,↓s_getp0,↓s_get,s_get0,↓s_con,↓s_fn,↓s_os0,↓s_os1,↓s_list0,↓s_list1,↓s_mov,↓s_pick,↓s_pickE,s_pickE,↓s_bin,↓s_un,↓s_minmax,↓s_call,↓s_callv,↓s_callV,↓s_ext,s_same,b_eql,b_neq,b_lss,b_leq,b_gtr,b_geq,b_add,b_sub,b_mul,b_eqlb,b_neqb,b_fnil,b_fnil',b_fnil2,b_fnil2',u_neg,u_not,m_two,s_end,s_end',s_end_iteN,s_res0,s_res1,s_tup1,s_tup2,↓iteN_true,↓iteN_false,iteN_true,iteN_false,Nat.zero_add,List.nil_append,List.append_nil,Nat.reduceEqDiff,reduceIte,decide_true,decide_false,Bool.not_true,Bool.not_false,List.getElem?_cons_zero,List.getElem?_cons_succ,Bool.false_eq_true,if_true,if_false,beq_self_eq_true]
        exact rfl,(by (simp only [s_getp,s_getp0,Nat.reduceEqDiff,decide_false,decide_true,iteN_false,iteN_true,t9]; try rfl)),(by (simp only [s_getp,s_getp0,Nat.reduceEqDiff,decide_false,decide_true,iteN_false,iteN_true,t11]; try rfl)),(by (simp only [s_getp,s_getp0,Nat.reduceEqDiff,decide_false,decide_true,iteN_false,iteN_true,t12]; try rfl)),(by (simp only [s_getp,s_getp0,Nat.reduceEqDiff,decide_false,decide_true,iteN_false,iteN_true,t13]; try rfl)),(by (simp only [s_getp,s_getp0,Nat.reduceEqDiff,decide_false,decide_true,iteN_false,iteN_true,t17]; try rfl)),(by (simp only [s_getp,s_getp0,Nat.reduceEqDiff,decide_false,decide_true,iteN_false,iteN_true,t18]; try rfl))⟩
    exact ⟨T',h1,rr,i1,u9,by rw [en]; exact u11,u12,u13,u17,by rw [e1]; exact u18,kp.trans k1⟩
  · intro hc
    cases hg:may[i]? with
    | none =>
      have hi:may.length≤i:=List.getElem?_eq_none_iff.1 hg
      have c0:decide ((i:Int) < (may.length:Int))=false:=decide_eq_false (by omega)
      obtain ⟨n,en⟩:∃ n,may.length=n:=⟨_,rfl⟩
      rw [en] at t11 c0
      exact ⟨_,h,by
        simp (config:={maxSteps:=2000000}) (disch:=first | omega | (simp only [List.length_cons,List.length_nil,List.length_append,List.length_drop]; omega)) only [L_purserlaw17_SegmentRuns_1,t11,t13,t17,t18,c0,↓s_len,x_lenS,↓b_xor32,↓b_and32,↓b_or32,↓u_not32,b_xor32,b_and32,b_or32,u_not32,w32ad,↓x_conv,x_convV,↓x_fieldAddr,x_fieldV,↓s_nilchk,x_nilchk,Nat.zero_add,Nat.add_zero,Nat.mul_one,↓l_loop,↓l_succ,↓l_normal,l_normal,l_exit,l_ret,l_iteN,↓h_put_get,↓h_new_get,↓h_del_get,h_next_put,h_next_new,h_next_del,Nat.add_assoc,Nat.add_eq_left,Nat.left_eq_add,Nat.add_left_cancel_iff,↓s_load,m_load,↓m_load1,m_load1,↓m_st,m_stE,m_storeI,m_storeE,w_zero,w_succ,↓s_alloc,↓x_idxA,↓x_idxS,x_idxAE,x_idxSE,x_addrE,x_idx,x_lenS,↓s_len,↓x_buildS,x_buildE,↓x_P0,↓x_P1,x_fill0,x_filli,x_fills,x_fillb,c_int,List.length_cons,List.length_nil,List.cons_append,List.drop_succ_cons,List.drop_zero,List.drop_nil,List.nil_append,Int.reduceAdd,Int.reduceToNat,Int.reduceLT,Int.reduceLE,Nat.reduceAdd,Nat.reduceMul,Nat.reduceLeDiff,Int.reduceEq,Int.reduceSub,Int.cast_ofNat_Int,s_resc,s_consR,m_load4,m_store4,s_res0,↓s_skip,↓s_ops,↓s_dops,↓s_seq,↓s_cond,↓s_block,↓s_exit,↓s_ret,↓s_scope,↓s_nil,↓s_op,↓s_opg,↓s_wanted',↓s_wantV,s_wantV,s_wantV0,beq_true,beq_false,↓s_bindS,s_bindS,↓s_bindE,s_bindE,s_bindE_ret,s_bindE_exit,s_bindE_iteN,s_norm,↓s_condV,s_condV,s_block_ret,s_block_normal,s_block_exit,s_block_iteN,↓s_getp,↓s_getp0,↓s_get,s_get0,↓s_con,↓s_fn,↓s_os0,↓s_os1,↓s_list0,↓s_list1,↓s_mov,↓s_pick,↓s_pickE,s_pickE,↓s_bin,↓s_un,↓s_minmax,↓s_call,↓s_callv,↓s_callV,↓s_ext,s_same,b_eql,b_neq,b_lss,b_leq,b_gtr,b_geq,b_add,b_sub,b_mul,b_eqlb,b_neqb,b_fnil,b_fnil',b_fnil2,b_fnil2',u_neg,u_not,m_two,s_end,s_end',s_end_iteN,s_res0,s_res1,s_tup1,s_tup2,↓iteN_true,↓iteN_false,iteN_true,iteN_false,Nat.zero_add,List.nil_append,List.append_nil,Nat.reduceEqDiff,reduceIte,decide_true,decide_false,Bool.not_true,Bool.not_false,List.getElem?_cons_zero,List.getElem?_cons_succ,Bool.false_eq_true,if_true,if_false,beq_self_eq_true]
        exact rfl,il,(by (simp only [s_getp,s_getp0,Nat.reduceEqDiff,decide_false,decide_true,iteN_false,iteN_true,t9]; try rfl)),by rw [en]; exact (by (simp only [s_getp,s_getp0,Nat.reduceEqDiff,decide_false,decide_true,iteN_false,iteN_true,t11]; try rfl)),(by (simp only [s_getp,s_getp0,Nat.reduceEqDiff,decide_false,decide_true,iteN_false,iteN_true,t12]; try rfl)),(by (simp only [s_getp,s_getp0,Nat.reduceEqDiff,decide_false,decide_true,iteN_false,iteN_true,t13]; try rfl)),(by (simp only [s_getp,s_getp0,Nat.reduceEqDiff,decide_false,decide_true,iteN_false,iteN_true,t17]; try rfl)),by rw [hR]; exact (by (simp only [s_getp,s_getp0,Nat.reduceEqDiff,decide_false,decide_true,iteN_false,iteN_true,t18]; try rfl)),kp⟩
    | some g =>
      have hc:=hc g hg
      obtain ⟨q,off,vs,md,b,cb,eb,h1,a2,c2,e2,rfl,rfl,gq,cg,hi,r1,k1,e1,sm⟩:=one g hg
      rw [e1] at hc
      have c0:decide ((i:Int) < (may.length:Int))=true:=decide_eq_true (by omega)
      have ix:idx (i:Int) may.length=some i:=idxn hi
      have w2:wr .i64 ((r:Int)+((sgB (1+i) g).length:Int))=((r+(sgB (1+i) g).length:Nat):Int):=by rw [wr_i64 (by omega)]; omega
      have d1:decide ((cut:Int) < ((r+(sgB (1+i) g).length:Nat):Int))=true:=decide_eq_true (by omega)
      obtain ⟨n,en⟩:∃ n,may.length=n:=⟨_,rfl⟩
      rw [en] at t11 c0 ix
      obtain ⟨nn,enn⟩:∃ y,1+i=y:=⟨_,rfl⟩
      rw [enn] at wn r1 w2 d1
      obtain ⟨gl_,egl⟩:∃ y,g.length=y:=⟨_,rfl⟩
      rw [egl] at cg r1
      obtain ⟨r2,er2⟩:∃ y,r+(sgB nn g).length=y:=⟨_,rfl⟩
      rw [er2] at w2 d1
      obtain ⟨BL,eBL⟩:∃ y,(sgB nn g).length=y:=⟨_,rfl⟩
      rw [eBL] at r1 w2
      exact ⟨_,h1,by
        simp (config:={maxSteps:=2000000}) (disch:=first | omega | (simp only [List.length_cons,List.length_nil,List.length_append,List.length_drop]; omega)) only [L_purserlaw17_SegmentRuns_1,t11,t13,t17,t18,gq,cg,c0,ix,wu,wn,w2,d1,r1,z0,↓s_len,x_lenS,↓b_xor32,↓b_and32,↓b_or32,↓u_not32,b_xor32,b_and32,b_or32,u_not32,w32ad,↓x_conv,x_convV,↓x_fieldAddr,x_fieldV,↓s_nilchk,x_nilchk,Nat.zero_add,Nat.add_zero,Nat.mul_one,↓l_loop,↓l_succ,↓l_normal,l_normal,l_exit,l_ret,l_iteN,↓h_put_get,↓h_new_get,↓h_del_get,h_next_put,h_next_new,h_next_del,Nat.add_assoc,Nat.add_eq_left,Nat.left_eq_add,Nat.add_left_cancel_iff,↓s_load,m_load,↓m_load1,m_load1,↓m_st,m_stE,m_storeI,m_storeE,w_zero,w_succ,↓s_alloc,↓x_idxA,↓x_idxS,x_idxAE,x_idxSE,x_addrE,x_idx,x_lenS,↓s_len,↓x_buildS,x_buildE,↓x_P0,↓x_P1,x_fill0,x_filli,x_fills,x_fillb,c_int,List.length_cons,List.length_nil,List.cons_append,List.drop_succ_cons,List.drop_zero,List.drop_nil,List.nil_append,Int.reduceAdd,Int.reduceToNat,Int.reduceLT,Int.reduceLE,Nat.reduceAdd,Nat.reduceMul,Nat.reduceLeDiff,Int.reduceEq,Int.reduceSub,Int.cast_ofNat_Int,s_resc,s_consR,m_load4,m_store4,s_res0,↓s_skip,↓s_ops,↓s_dops,↓s_seq,↓s_cond,↓s_block,↓s_exit,↓s_ret,↓s_scope,↓s_nil,↓s_op,↓s_opg,↓s_wanted',↓s_wantV,s_wantV,s_wantV0,beq_true,beq_false,↓s_bindS,s_bindS,↓s_bindE,s_bindE,s_bindE_ret,s_bindE_exit,s_bindE_iteN,s_norm,↓s_condV,s_condV,s_block_ret,s_block_normal,s_block_exit,s_block_iteN,↓s_getp,↓s_getp0,↓s_get,s_get0,↓s_con,↓s_fn,↓s_os0,↓s_os1,↓s_list0,↓s_list1,↓s_mov,↓s_pick,↓s_pickE,s_pickE,↓s_bin,↓s_un,↓s_minmax,↓s_call,↓s_callv,↓s_callV,↓s_ext,s_same,b_eql,b_neq,b_lss,b_leq,b_gtr,b_geq,b_add,b_sub,b_mul,b_eqlb,b_neqb,b_fnil,b_fnil',b_fnil2,b_fnil2',u_neg,u_not,m_two,s_end,s_end',s_end_iteN,s_res0,s_res1,s_tup1,s_tup2,↓iteN_true,↓iteN_false,iteN_true,iteN_false,Nat.zero_add,List.nil_append,List.append_nil,Nat.reduceEqDiff,reduceIte,decide_true,decide_false,Bool.not_true,Bool.not_false,List.getElem?_cons_zero,List.getElem?_cons_succ,Bool.false_eq_true,if_true,if_false,beq_self_eq_true]
        exact rfl,il,(by (simp only [s_getp,s_getp0,Nat.reduceEqDiff,decide_false,decide_true,iteN_false,iteN_true,t9]; try rfl)),by rw [en]; exact (by (simp only [s_getp,s_getp0,Nat.reduceEqDiff,decide_false,decide_true,iteN_false,iteN_true,t11]; try rfl)),(by (simp only [s_getp,s_getp0,Nat.reduceEqDiff,decide_false,decide_true,iteN_false,iteN_true,t12]; try rfl)),(by (simp only [s_getp,s_getp0,Nat.reduceEqDiff,decide_false,decide_true,iteN_false,iteN_true,t13]; try rfl)),(by (simp only [s_getp,s_getp0,Nat.reduceEqDiff,decide_false,decide_true,iteN_false,iteN_true,t17]; try rfl)),by rw [hR]; exact (by (simp only [s_getp,s_getp0,Nat.reduceEqDiff,decide_false,decide_true,iteN_false,iteN_true,t18]; try rfl)),kp.trans k1⟩
set_option maxRecDepth 100000 in
set_option maxHeartbeats 4000000 in
theorem law_SegmentRuns (e:EnSg E) (el:E k_purserlaw17_SegmentRuns=some f_purserlaw17_SegmentRuns) (M:Nat) (hM:1000000 < M) (gs:List (List Rq)) (ok:∀ g ∈ gs,∀ o ∈ g,o.ok) (hb:gs.length < 9223372036854775807) (hbg:∀ g ∈ gs,g.length < 9223372036854775807) (y x t:Nat) (hy:y < 65536) (hx:x < 65536) (ht:t < 4294967296) (a0:Option (Nat × Nat)) (h:H) (oh:GgsH h a0 gs) :
    ∃ h2,callX E (alR k_purserlaw17_alive) (M+27) (.fn k_purserlaw17_SegmentRuns) [.slice a0 gs.length none 1,.int .u16 (y:Int),.int .u16 (x:Int),.int .u32 (t:Int)] h=some (.bool true,h2):=by
  rw [x_cfn el _ _ (Nat.le_of_ble_eq_true rfl) rfl]
  have xs:NoSg (alR k_purserlaw17_alive):=al_sg
  have al:∀ h,callX E (alR k_purserlaw17_alive) (M+26) (.fn k_purserlaw17_alive) [] h=some (.bool true,h):=fun h => x_known rfl
  have row:=oh.row
  have gr:=great7_go e xs (M+24) (by omega) gs hb hbg a0 none 1 h _ row
  replace gr:callX E (alR k_purserlaw17_alive) (M+26) (.fn k_purserref17_Great) [.slice a0 gs.length none 1] h=_:=gr
  have y1:decide ((0:Int) < 1)=true:=rfl
  have y0:decide ((0:Int) < 0)=false:=rfl
  cases hgr:ggR gs with
  | true =>
    rw [hgr,if_pos rfl] at gr
    generalize gs.length=L at *
    simp (config:={maxSteps:=2000000}) (disch:=first | omega | rfl | (simp only [ofI_len,List.length_append,List.length_take,List.length_drop,List.length_cons,List.length_nil,List.length_replicate,List.length_set]; done) | (simp only [ofI_len,List.length_append,List.length_take,List.length_drop,List.length_cons,List.length_nil,List.length_replicate,List.length_set]; omega)) only [al,gr,y1,↓s_len,x_lenS,↓b_xor32,↓b_and32,↓b_or32,↓u_not32,b_xor32,b_and32,b_or32,u_not32,w32ad,↓x_conv,x_convV,↓x_fieldAddr,x_fieldV,↓s_nilchk,x_nilchk,Nat.zero_add,Nat.add_zero,Nat.mul_one,↓s_evD,↓s_dnil,↓s_dL,↓s_dLg,↓s_dR,↓s_dRg,↓s_dRj,↓s_dRjg,↓s_dB,↓s_dBg,↓s_dAlloc,↓s_bindD,s_bindD,s_finD,s_finDx,s_addP0,s_addP1,s_addB,s_lookP,↓s_bump0,↓s_bump_get,s_bump_next,s_ok0,↓s_ok1,s_okR0,↓s_okR1,↓s_okE,s_okE,s_okE1,s_nth0,s_nthS,Nat.add_zero,Bool.and_self,Bool.and_true,Bool.true_and,↓l_loop,↓l_succ,↓l_normal,l_normal,l_exit,l_ret,l_iteN,↓h_put_get,↓h_new_get,↓h_del_get,h_next_put,h_next_new,h_next_del,Nat.add_assoc,Nat.add_eq_left,Nat.left_eq_add,Nat.add_left_cancel_iff,↓s_load,m_load,↓m_load1,m_load1,↓m_st,m_stE,m_storeI,m_storeE,w_zero,w_succ,↓s_alloc,↓x_idxA,↓x_idxS,x_idxAE,x_idxSE,x_addrE,x_idx,x_lenS,↓s_len,↓x_buildS,x_buildE,↓x_P0,↓x_P1,x_fill0,x_filli,x_fills,x_fillb,c_int,List.length_cons,List.length_nil,List.cons_append,List.drop_succ_cons,List.drop_zero,List.drop_nil,List.nil_append,Int.reduceAdd,Int.reduceToNat,Int.reduceLT,Int.reduceLE,Nat.reduceAdd,Nat.reduceMul,Nat.reduceLeDiff,Int.reduceEq,Int.reduceSub,Int.cast_ofNat_Int,s_resc,s_consR,m_load4,m_store4,s_res0,↓s_skip,↓s_ops,↓s_dops,↓s_seq,↓s_cond,↓s_block,↓s_exit,↓s_ret,↓s_scope,↓s_nil,↓s_op,↓s_opg,↓s_wanted',↓s_wantV,s_wantV,s_wantV0,beq_true,beq_false,↓s_bindS,s_bindS,↓s_bindE,s_bindE,s_bindE_ret,s_bindE_exit,s_bindE_iteN,s_norm,↓s_condV,s_condV,s_block_ret,s_block_normal,s_block_exit,s_block_iteN,↓s_getp,↓s_getp0,↓s_get,s_get0,↓s_con,↓s_fn,↓s_os0,↓s_os1,↓s_list0,↓s_list1,↓s_mov,↓s_pick,↓s_pickE,s_pickE,↓s_bin,↓s_un,↓s_minmax,↓s_call,↓s_callv,↓s_callV,↓s_ext,s_same,b_eql,b_neq,b_lss,b_leq,b_gtr,b_geq,b_add,b_sub,b_mul,b_eqlb,b_neqb,b_fnil,b_fnil',b_fnil2,b_fnil2',u_neg,u_not,m_two,s_end,s_end',s_end_iteN,s_res0,s_res1,s_tup1,s_tup2,↓iteN_true,↓iteN_false,iteN_true,iteN_false,Nat.zero_add,List.nil_append,List.append_nil,Nat.reduceEqDiff,reduceIte,decide_true,decide_false,Bool.not_true,Bool.not_false,List.getElem?_cons_zero,List.getElem?_cons_succ,Bool.false_eq_true,if_true,if_false,beq_self_eq_true]
    exact ⟨_,rfl⟩
  | false =>
  rw [hgr,if_neg (by simp)] at gr
  obtain ⟨hl,hs⟩:=gg_no hgr
  clear hgr
  obtain ⟨h1,a1,c1,e1,am,cm_,em,r1,nw1,rowM⟩:=written_go e xs (M+2) (by omega) 1 gs hl hs ok (by omega) a0 none 1 h row
  have wok:=wrV_ok 1 gs hs
  generalize wrV 1 gs=W at *
  obtain ⟨W1,may⟩:=W
  simp only at r1 nw1 rowM
  replace r1:callX E (alR k_purserlaw17_alive) (M+26) (.fn k_purserlaw17_written) [.int .u64 1,.slice a0 gs.length none 1] h=some (.tup [.slice a1 W1.length c1 e1,.slice am may.length cm_ em],h1):=r1
  have cnt:may.length≤gs.length:=wok.cnt
  have hok:∀ i g,may[i]?=some g→sgOk (1+i) g=true:=wok.ok
  have hsm:∀ g ∈ may,g.length≤60∧∀ o ∈ g,¬ 500 < o.l.length:=fun g hg => hs g (wok.mem g hg)
  have okm:∀ g ∈ may,∀ o ∈ g,o.ok:=fun g hg => ok g (wok.mem g hg)
  have eW:W1=gsB 1 may:=wok.b
  subst eW
  clear wok
  have hml:may.length≤20:=by omega
  have bw:=gsB_byt may 1 hok okm
  have gl:=gs_len may 1 hsm may.length (Nat.le_refl _)
  rw [List.take_length] at gl
  obtain ⟨B,eB⟩:∃ B,(gsB 1 may).length=B:=⟨_,rfl⟩
  obtain ⟨cut,ecut⟩:∃ c,y % (B+1)=c:=⟨_,rfl⟩
  have hcut:cut≤B:=by have:=Nat.mod_lt y (show 0 < B+1 by omega); omega
  have wy:wr .i64 (y:Int)=(y:Int):=wr_i64 (by omega)
  have wB:wr .i64 ((B:Int)+1)=((B+1:Nat):Int):=by rw [wr_i64 (by omega)]; omega
  have rem:∀ (e:EqK) (h:H),binV .rem e h (.int .i64 (y:Int)) (.int .i64 ((B+1:Nat):Int))=some (.int .i64 (cut:Int)):=fun e h => by
    rw [b_rem _ _ _ _ _ (by omega),← ecut]; rfl
  obtain ⟨c8,sl8⟩:=nw1.wb.hiR cut .i64 (by omega)
  obtain ⟨l,el_⟩:∃ l,(gsB 1 may).take cut=l:=⟨_,rfl⟩
  have ll:l.length=cut:=by rw [← el_,List.length_take]; omega
  have bl:byt l=true:=by rw [← el_]; exact byt_take bw _
  obtain ⟨q,c2,h2,ap,k2,hq1,hq2,gq,hc2⟩:=app_1 h1 l (by omega)
  have sc:=(((nw1.wb.src.take cut).e1).mono (Kp.new h1 (.cells [] .rw))).cellz c8
  rw [el_,ll] at sc
  rw [ll] at ap
  have kp2:Kp h h2:=nw1.kp.trans k2
  have rowM2:=rowM.kp k2
  -- what is turned
  obtain ⟨bc,lc,od,nd,fd⟩:=td_ok (x % (l.length+1)) t l bl 4 (Nat.le_refl _)
  obtain ⟨first,efi⟩:∃ f,(tdN (x % (l.length+1)) t l 4).2=f:=⟨_,rfl⟩
  obtain ⟨cur,ecu⟩:∃ f,(tdN (x % (l.length+1)) t l 4).1=f:=⟨_,rfl⟩
  rw [ecu] at bc lc od nd fd
  rw [efi] at nd fd
  obtain ⟨F,eF⟩:∃ F,fN l.length first=F:=⟨_,rfl⟩
  have hF:F≤cut:=by
    rw [← eF]
    cases hf:first with
    | none => show l.length≤cut; omega
    | some f => have:=(fd f hf).2.2.1; show f≤cut; omega
  obtain ⟨w,hw,nw,bw'⟩:=first_not (fun i => i < may.length∧(gsB 1 (may.take (i+1))).length≤F) may.length (by omega)
  have hw1:(gsB 1 (may.take w)).length≤F:=by
    cases w with
    | zero => simp [gsB]
    | succ w => exact (bw' w (by omega)).2
  have hw2:∀ g,may[w]?=some g→F < (gsB 1 (may.take (w+1))).length:=fun o ho => by
    have:=(List.getElem?_eq_some_iff.1 ho).1
    exact Nat.lt_of_not_le (fun hc => nw ⟨this,hc⟩)
  have lw:(may.take w).length=w:=by rw [List.length_take]; omega
  have gew:=gsB_ge (may.take w) 1
  rw [lw] at gew
  have rd:srR cur 1=(may.take w,(gsB 1 (may.take w)).length):=by
    cases hf:first with
    | none =>
      have eFc:F=cut:=by rw [← eF,hf]; exact ll
      rw [eFc] at hw1 hw2
      rw [nd hf,← el_]
      unfold srR
      exact gs_cut 1 may hok okm (Nat.le_refl _) (by omega) w cut hw (by omega) hw1 hw2 _ (by rw [el_]; omega)
    | some f =>
      obtain ⟨f1,f2,f3,f4,f5⟩:=fd f hf
      have eFf:F=f:=by rw [← eF,hf]; rfl
      rw [eFf] at hw1 hw2
      rw [← el_] at od f4 f5
      exact rn_read may hok okm hml cur bc cut (by omega) (by omega) (x % (l.length+1)) f (fun i hi => od i (by rw [el_]; omega)) (by omega) f4 f5 w hw hw1 hw2
  have fin:∀ T,TnI l (x % (l.length+1)) x t q (.slice am may.length cm_ em) c2 h2 0 T h2→∃ hz,fnEnd [.tmp 8] (bindE (blockE 0 (loopN (evC (callX E (alR k_purserlaw17_alive) (M+26)) 132 (M+26) none L_purserlaw17_SegmentRuns_0) (M+26) ⟨T,[],h2⟩)) (evC (callX E (alR k_purserlaw17_alive) (M+26)) 132 (M+26) none R_purserlaw17_SegmentRuns_1))=some (.bool true,hz):=by
    intro T I
    obtain ⟨T',h3,rr,J⟩:=loop_go (f:=evC (callX E (alR k_purserlaw17_alive) (M+26)) 132 (M+26) none L_purserlaw17_SegmentRuns_0) (TnI l (x % (l.length+1)) x t q (.slice am may.length cm_ em) c2 h2) 4 (.exit 0) (by intro h; cases h) (TnI l (x % (l.length+1)) x t q (.slice am may.length cm_ em) c2 h2 4) (fun i T h' hi I => tn_step _ _ l bl (by omega) x t q hx ht _ c2 h2 i hi T h' I) (fun T h' I => by
      obtain ⟨kl,t2,t3,t9,t11,t12,t13,t14,g,eq⟩:=I
      have c0:decide ((0:Int)≤3 - ((4:Nat):Int))=false:=rfl
      exact ⟨_,_,by
        simp (config:={maxSteps:=2000000}) (disch:=first | omega | (simp only [List.length_cons,List.length_nil,List.length_append,List.length_drop]; omega)) only [L_purserlaw17_SegmentRuns_0,t14,c0,↓b_xor32,↓b_and32,↓b_or32,↓u_not32,b_xor32,b_and32,b_or32,u_not32,w32ad,↓x_conv,x_convV,↓x_fieldAddr,x_fieldV,↓s_nilchk,x_nilchk,Nat.zero_add,Nat.add_zero,Nat.mul_one,↓l_loop,↓l_succ,↓l_normal,l_normal,l_exit,l_ret,l_iteN,↓h_put_get,↓h_new_get,↓h_del_get,h_next_put,h_next_new,h_next_del,Nat.add_assoc,Nat.add_eq_left,Nat.left_eq_add,Nat.add_left_cancel_iff,↓s_load,m_load,↓m_load1,m_load1,↓m_st,m_stE,m_storeI,m_storeE,w_zero,w_succ,↓s_alloc,↓x_idxA,↓x_idxS,x_idxAE,x_idxSE,x_addrE,x_idx,x_lenS,↓s_len,↓x_buildS,x_buildE,↓x_P0,↓x_P1,x_fill0,x_filli,x_fills,x_fillb,c_int,List.length_cons,List.length_nil,List.cons_append,List.drop_succ_cons,List.drop_zero,List.drop_nil,List.nil_append,Int.reduceAdd,Int.reduceToNat,Int.reduceLT,Int.reduceLE,Nat.reduceAdd,Nat.reduceMul,Nat.reduceLeDiff,Int.reduceEq,Int.reduceSub,Int.cast_ofNat_Int,s_resc,s_consR,m_load4,m_store4,s_res0,↓s_skip,↓s_ops,↓s_dops,↓s_seq,↓s_cond,↓s_block,↓s_exit,↓s_ret,↓s_scope,↓s_nil,↓s_op,↓s_opg,↓s_wanted',↓s_wantV,s_wantV,s_wantV0,beq_true,beq_false,↓s_bindS,s_bindS,↓s_bindE,s_bindE,s_bindE_ret,s_bindE_exit,s_bindE_iteN,s_norm,↓s_condV,s_condV,s_block_ret,s_block_normal,s_block_exit,s_block_iteN,↓s_getp,↓s_getp0,↓s_get,s_get0,↓s_con,↓s_fn,↓s_os0,↓s_os1,↓s_list0,↓s_list1,↓s_mov,↓s_pick,↓s_pickE,s_pickE,↓s_bin,↓s_un,↓s_minmax,↓s_call,↓s_callv,↓s_callV,↓s_ext,s_same,b_eql,b_neq,b_lss,b_leq,b_gtr,b_geq,b_add,b_sub,b_mul,b_eqlb,b_neqb,b_fnil,b_fnil',b_fnil2,b_fnil2',u_neg,u_not,m_two,s_end,s_end',s_end_iteN,s_res0,s_res1,s_tup1,s_tup2,↓iteN_true,↓iteN_false,iteN_true,iteN_false,Nat.zero_add,List.nil_append,List.append_nil,Nat.reduceEqDiff,reduceIte,decide_true,decide_false,Bool.not_true,Bool.not_false,List.getElem?_cons_zero,List.getElem?_cons_succ,Bool.false_eq_true,if_true,if_false,beq_self_eq_true]
        exact rfl,⟨kl,(by (simp only [s_getp,s_getp0,Nat.reduceEqDiff,decide_false,decide_true,iteN_false,iteN_true,t2]; try rfl)),(by (simp only [s_getp,s_getp0,Nat.reduceEqDiff,decide_false,decide_true,iteN_false,iteN_true,t3]; try rfl)),(by (simp only [s_getp,s_getp0,Nat.reduceEqDiff,decide_false,decide_true,iteN_false,iteN_true,t9]; try rfl)),(by (simp only [s_getp,s_getp0,Nat.reduceEqDiff,decide_false,decide_true,iteN_false,iteN_true,t11]; try rfl)),(by (simp only [s_getp,s_getp0,Nat.reduceEqDiff,decide_false,decide_true,iteN_false,iteN_true,t12]; try rfl)),(by (simp only [s_getp,s_getp0,Nat.reduceEqDiff,decide_false,decide_true,iteN_false,iteN_true,t13]; try rfl)),(by (simp only [s_getp,s_getp0,Nat.reduceEqDiff,decide_false,decide_true,iteN_false,iteN_true,t14]; try rfl)),g,eq⟩⟩) 4 0 (by omega) (M+26) (by omega) T h2 I
    rw [rr]
    obtain ⟨_,t2,t3,t9,t11,t12,t13,t14,g3,eq⟩:=J
    rw [efi,eF] at t13
    rw [ecu] at g3
    rw [ll] at t12
    have k3:Kp h1 h3:=⟨by rw [eq.1]; exact k2.1,fun j hj => by rw [eq.2 j (by omega),k2.2 j hj]⟩
    have lcc:cur.length=cut:=by rw [lc,ll]
    have src3:SrcH h3 (some (q,0)) 1 cur:=.inr ⟨q,0,_,.rw,rfl,rfl,by rw [eq.1]; exact hq2,g3,by rw [ofI_len]; omega,by rw [List.drop_zero]; exact List.take_of_length_le (by rw [ofI_len]; exact Nat.le_refl _)⟩
    have sb3:SB cur (some (q,0)) c2 1:=⟨fun hne => hc2 (fun e => by rw [e] at ll; have:cur=[]:=List.length_eq_zero_iff.1 (by rw [lcc,← ll]; rfl); exact hne this),fun _ => .inl rfl⟩
    have rowM3:=rowM.kp k3
    have fin2:∀ T,R2I may F (.slice am may.length cm_ em) (.slice (some (q,0)) cut c2 1) h3 0 T h3→∃ h2_1,fnEnd [.tmp 8] (bindE (blockE 2 (loopN (evC (callX E (alR k_purserlaw17_alive) (M+26)) 132 (M+26) none L_purserlaw17_SegmentRuns_1) (M+26) ⟨T,[],h3⟩)) (evC (callX E (alR k_purserlaw17_alive) (M+26)) 132 (M+26) none R_purserlaw17_SegmentRuns_0))=some (.bool true,h2_1):=by
      intro T I
      have round:=fun i T h' I => r2_round e xs M hM (M+26) may hml hsm okm hok F am cm_ em (.slice (some (q,0)) cut c2 1) h3 _ rowM3.gs i T h' I
      obtain ⟨T',h4,rr,J⟩:=loop_go (f:=evC (callX E (alR k_purserlaw17_alive) (M+26)) 132 (M+26) none L_purserlaw17_SegmentRuns_1) (R2I may F (.slice am may.length cm_ em) (.slice (some (q,0)) cut c2 1) h3) w (.exit 2) (by intro h; cases h) (R2I may F (.slice am may.length cm_ em) (.slice (some (q,0)) cut c2 1) h3 w) (fun i T h' hi I => (round i T h' I).1 _ (List.getElem?_eq_getElem (by omega)) (bw' i hi).2) (fun T h' I => (round w T h' I).2 hw2) w 0 (by omega) (M+26) (by omega) T h3 I
      rw [rr]
      obtain ⟨il,t9,t11,t12,t13,t17,t18,kp⟩:=J
      obtain ⟨h5,a5,c5,e5,r5,k5,row5⟩:=segread_go e xs M hM cur bc (by omega) 1 (by omega) (some (q,0)) c2 1 sb3 h4 (src3.mono kp)
      rw [rd,lcc] at r5
      rw [rd] at row5
      simp only at r5 row5
      rw [lw] at r5
      replace r5:callX E (alR k_purserlaw17_alive) (M+26) (.fn k_segment_Read) [.slice (some (q,0)) cut c2 1,.int .u64 1] h4=_:=r5
      have rowM5:=rowM3.kp (kp.trans k5)
      obtain ⟨cs,sl⟩:=rowM5.hi w .i64 hw
      have oks2:∀ g ∈ may.take w,g.length≤1000000∧g.length < M+24∧∀ o ∈ g,o.ok:=fun g hg => by
        have:=hsm g (List.mem_of_mem_take hg)
        exact ⟨by omega,by omega,okm g (List.mem_of_mem_take hg)⟩
      have r6:=same7_go e xs (M+24) (may.take w) (may.take w) (by omega) (by omega) (by omega) oks2 (fun g hg => ⟨by have:=(oks2 g hg).1; omega,(oks2 g hg).2.2⟩) a5 am c5 cs e5 1 h5 _ _ row5.gs (rowM5.gs.take w).e1
      rw [decide_eq_true rfl,lw] at r6
      replace r6:callX E (alR k_purserlaw17_alive) (M+26) (.fn k_purserref17_Same) [.slice a5 w c5 e5,.slice am w cs 1] h5=_:=r6
      have q3:decide (((gsB 1 (may.take w)).length:Int)=((gsB 1 (may.take w)).length:Int))=true:=decide_eq_true rfl
      generalize (gsB 1 (may.take w)).length=rw_ at *
      generalize may.length=L at *
      simp (config:={maxSteps:=2000000}) (disch:=first | omega | rfl | (simp only [ofI_len,List.length_append,List.length_take,List.length_drop,List.length_cons,List.length_nil,List.length_replicate,List.length_set]; done) | (simp only [ofI_len,List.length_append,List.length_take,List.length_drop,List.length_cons,List.length_nil,List.length_replicate,List.length_set]; omega)) only [R_purserlaw17_SegmentRuns_0,t9,t11,t12,t13,t17,t18,r5,r6,sl,q3,↓x_slcS,x_M0,x_M1,↓s_len,x_lenS,↓b_xor32,↓b_and32,↓b_or32,↓u_not32,b_xor32,b_and32,b_or32,u_not32,w32ad,↓x_conv,x_convV,↓x_fieldAddr,x_fieldV,↓s_nilchk,x_nilchk,Nat.zero_add,Nat.add_zero,Nat.mul_one,↓s_evD,↓s_dnil,↓s_dL,↓s_dLg,↓s_dR,↓s_dRg,↓s_dRj,↓s_dRjg,↓s_dB,↓s_dBg,↓s_dAlloc,↓s_bindD,s_bindD,s_finD,s_finDx,s_addP0,s_addP1,s_addB,s_lookP,↓s_bump0,↓s_bump_get,s_bump_next,s_ok0,↓s_ok1,s_okR0,↓s_okR1,↓s_okE,s_okE,s_okE1,s_nth0,s_nthS,Nat.add_zero,Bool.and_self,Bool.and_true,Bool.true_and,↓l_loop,↓l_succ,↓l_normal,l_normal,l_exit,l_ret,l_iteN,↓h_put_get,↓h_new_get,↓h_del_get,h_next_put,h_next_new,h_next_del,Nat.add_assoc,Nat.add_eq_left,Nat.left_eq_add,Nat.add_left_cancel_iff,↓s_load,m_load,↓m_load1,m_load1,↓m_st,m_stE,m_storeI,m_storeE,w_zero,w_succ,↓s_alloc,↓x_idxA,↓x_idxS,x_idxAE,x_idxSE,x_addrE,x_idx,x_lenS,↓s_len,↓x_buildS,x_buildE,↓x_P0,↓x_P1,x_fill0,x_filli,x_fills,x_fillb,c_int,List.length_cons,List.length_nil,List.cons_append,List.drop_succ_cons,List.drop_zero,List.drop_nil,List.nil_append,Int.reduceAdd,Int.reduceToNat,Int.reduceLT,Int.reduceLE,Nat.reduceAdd,Nat.reduceMul,Nat.reduceLeDiff,Int.reduceEq,Int.reduceSub,Int.cast_ofNat_Int,s_resc,s_consR,m_load4,m_store4,s_res0,↓s_skip,↓s_ops,↓s_dops,↓s_seq,↓s_cond,↓s_block,↓s_exit,↓s_ret,↓s_scope,↓s_nil,↓s_op,↓s_opg,↓s_wanted',↓s_wantV,s_wantV,s_wantV0,beq_true,beq_false,↓s_bindS,s_bindS,↓s_bindE,s_bindE,s_bindE_ret,s_bindE_exit,s_bindE_iteN,s_norm,↓s_condV,s_condV,s_block_ret,s_block_normal,s_block_exit,s_block_iteN,↓s_getp,↓s_getp0,↓s_get,s_get0,↓s_con,↓s_fn,↓s_os0,↓s_os1,↓s_list0,↓s_list1,↓s_mov,↓s_pick,↓s_pickE,s_pickE,↓s_bin,↓s_un,↓s_minmax,↓s_call,↓s_callv,↓s_callV,↓s_ext,s_same,b_eql,b_neq,b_lss,b_leq,b_gtr,b_geq,b_add,b_sub,b_mul,b_eqlb,b_neqb,b_fnil,b_fnil',b_fnil2,b_fnil2',u_neg,u_not,m_two,s_end,s_end',s_end_iteN,s_res0,s_res1,s_tup1,s_tup2,↓iteN_true,↓iteN_false,iteN_true,iteN_false,Nat.zero_add,List.nil_append,List.append_nil,Nat.reduceEqDiff,reduceIte,decide_true,decide_false,Bool.not_true,Bool.not_false,List.getElem?_cons_zero,List.getElem?_cons_succ,Bool.false_eq_true,if_true,if_false,beq_self_eq_true]
      exact ⟨_,rfl⟩
    obtain ⟨R,eR⟩:∃ R,R_purserlaw17_SegmentRuns_0=R:=⟨_,rfl⟩
    obtain ⟨Lo,eL⟩:∃ R,L_purserlaw17_SegmentRuns_1=R:=⟨_,rfl⟩
    rw [eR,eL] at fin2
    have fin3:=fun T q9 q11 q12 q13 q17 q18 => fin2 T ⟨Nat.zero_le _,q9,q11,q12,q13,q17,q18,Kp.refl _⟩
    clear fin2
    have l0:(gsB 1 (may.take 0)).length=0:=rfl
    rw [l0] at fin3
    simp (config:={maxSteps:=2000000}) (disch:=first | omega | rfl | (simp only [ofI_len,List.length_append,List.length_take,List.length_drop,List.length_cons,List.length_nil,List.length_replicate,List.length_set]; done) | (simp only [ofI_len,List.length_append,List.length_take,List.length_drop,List.length_cons,List.length_nil,List.length_replicate,List.length_set]; omega)) only [R_purserlaw17_SegmentRuns_1,eR,eL,↓b_xor32,↓b_and32,↓b_or32,↓u_not32,b_xor32,b_and32,b_or32,u_not32,w32ad,↓x_conv,x_convV,↓x_fieldAddr,x_fieldV,↓s_nilchk,x_nilchk,Nat.zero_add,Nat.add_zero,Nat.mul_one,↓s_evD,↓s_dnil,↓s_dL,↓s_dLg,↓s_dR,↓s_dRg,↓s_dRj,↓s_dRjg,↓s_dB,↓s_dBg,↓s_dAlloc,↓s_bindD,s_bindD,s_finD,s_finDx,s_addP0,s_addP1,s_addB,s_lookP,↓s_bump0,↓s_bump_get,s_bump_next,s_ok0,↓s_ok1,s_okR0,↓s_okR1,↓s_okE,s_okE,s_okE1,s_nth0,s_nthS,Nat.add_zero,Bool.and_self,Bool.and_true,Bool.true_and,↓l_loop,↓l_succ,↓l_normal,l_normal,l_exit,l_ret,l_iteN,↓h_put_get,↓h_new_get,↓h_del_get,h_next_put,h_next_new,h_next_del,Nat.add_assoc,Nat.add_eq_left,Nat.left_eq_add,Nat.add_left_cancel_iff,↓s_load,m_load,↓m_load1,m_load1,↓m_st,m_stE,m_storeI,m_storeE,w_zero,w_succ,↓s_alloc,↓x_idxA,↓x_idxS,x_idxAE,x_idxSE,x_addrE,x_idx,x_lenS,↓s_len,↓x_buildS,x_buildE,↓x_P0,↓x_P1,x_fill0,x_filli,x_fills,x_fillb,c_int,List.length_cons,List.length_nil,List.cons_append,List.drop_succ_cons,List.drop_zero,List.drop_nil,List.nil_append,Int.reduceAdd,Int.reduceToNat,Int.reduceLT,Int.reduceLE,Nat.reduceAdd,Nat.reduceMul,Nat.reduceLeDiff,Int.reduceEq,Int.reduceSub,Int.cast_ofNat_Int,s_resc,s_consR,m_load4,m_store4,s_res0,↓s_skip,↓s_ops,↓s_dops,↓s_seq,↓s_cond,↓s_block,↓s_exit,↓s_ret,↓s_scope,↓s_nil,↓s_op,↓s_opg,↓s_wanted',↓s_wantV,s_wantV,s_wantV0,beq_true,beq_false,↓s_bindS,s_bindS,↓s_bindE,s_bindE,s_bindE_ret,s_bindE_exit,s_bindE_iteN,s_norm,↓s_condV,s_condV,s_block_ret,s_block_normal,s_block_exit,s_block_iteN,↓s_getp,↓s_getp0,↓s_get,s_get0,↓s_con,↓s_fn,↓s_os0,↓s_os1,↓s_list0,↓s_list1,↓s_mov,↓s_pick,↓s_pickE,s_pickE,↓s_bin,↓s_un,↓s_minmax,↓s_call,↓s_callv,↓s_callV,↓s_ext,s_same,b_eql,b_neq,b_lss,b_leq,b_gtr,b_geq,b_add,b_sub,b_mul,b_eqlb,b_neqb,b_fnil,b_fnil',b_fnil2,b_fnil2',u_neg,u_not,m_two,s_end,s_end',s_end_iteN,s_res0,s_res1,s_tup1,s_tup2,↓iteN_true,↓iteN_false,iteN_true,iteN_false,Nat.zero_add,List.nil_append,List.append_nil,Nat.reduceEqDiff,reduceIte,decide_true,decide_false,Bool.not_true,Bool.not_false,List.getElem?_cons_zero,List.getElem?_cons_succ,Bool.false_eq_true,if_true,if_false,beq_self_eq_true]
    exact fin3 _ (by (simp only [s_getp,s_getp0,Nat.reduceEqDiff,decide_false,decide_true,iteN_false,iteN_true,t9]; try rfl)) (by (simp only [s_getp,s_getp0,Nat.reduceEqDiff,decide_false,decide_true,iteN_false,iteN_true,t11]; try rfl)) (by (simp only [s_getp,s_getp0,Nat.reduceEqDiff,decide_false,decide_true,iteN_false,iteN_true,t12]; try rfl)) (by (simp only [s_getp,s_getp0,Nat.reduceEqDiff,decide_false,decide_true,iteN_false,iteN_true,t13]; try rfl)) (by (simp only [s_getp,s_getp0,Nat.reduceEqDiff,decide_false,decide_true,iteN_false,iteN_true,t9]; try rfl)) (by (simp only [s_getp,s_getp0,Nat.reduceEqDiff,decide_false,decide_true,iteN_false,iteN_true,t9]; try rfl))
  obtain ⟨R,eR⟩:∃ R,R_purserlaw17_SegmentRuns_1=R:=⟨_,rfl⟩
  obtain ⟨Lo,eL⟩:∃ R,L_purserlaw17_SegmentRuns_0=R:=⟨_,rfl⟩
  rw [eR,eL] at fin ⊢
  have fin':=fun T q2 q3 q9 q11 q12 q13 q14 => fin T ⟨by omega,q2,q3,q9,q11,q12,q13,q14,gq,Eqx.refl _ _⟩
  clear fin
  have l0:fN l.length (tdN (x % (l.length+1)) t l 0).2=l.length:=rfl
  have l1:(3:Int) - ((0:Nat):Int)=3:=rfl
  rw [l0,l1,ll] at fin'
  rw [eB] at r1 sl8
  obtain ⟨B1,eB1⟩:∃ b,B+1=b:=⟨_,rfl⟩
  rw [eB1] at wB rem
  obtain ⟨CL,eCL⟩:∃ b,ofI .u8 l=b:=⟨_,rfl⟩
  rw [eCL] at sc ap
  obtain ⟨n,en⟩:∃ n,may.length=n:=⟨_,rfl⟩
  rw [en] at r1 fin'
  generalize gs.length=L at *
  simp (config:={maxSteps:=2000000}) (disch:=first | omega | rfl | (simp only [ofI_len,List.length_append,List.length_take,List.length_drop,List.length_cons,List.length_nil,List.length_replicate,List.length_set]; done) | (simp only [ofI_len,List.length_append,List.length_take,List.length_drop,List.length_cons,List.length_nil,List.length_replicate,List.length_set]; omega)) only [al,gr,y0,r1,wy,wB,rem,sl8,sc,ap,↓s_append,↓x_slcS,x_M0,x_M1,↓s_len,x_lenS,↓b_xor32,↓b_and32,↓b_or32,↓u_not32,b_xor32,b_and32,b_or32,u_not32,w32ad,↓x_conv,x_convV,↓x_fieldAddr,x_fieldV,↓s_nilchk,x_nilchk,Nat.zero_add,Nat.add_zero,Nat.mul_one,↓s_evD,↓s_dnil,↓s_dL,↓s_dLg,↓s_dR,↓s_dRg,↓s_dRj,↓s_dRjg,↓s_dB,↓s_dBg,↓s_dAlloc,↓s_bindD,s_bindD,s_finD,s_finDx,s_addP0,s_addP1,s_addB,s_lookP,↓s_bump0,↓s_bump_get,s_bump_next,s_ok0,↓s_ok1,s_okR0,↓s_okR1,↓s_okE,s_okE,s_okE1,s_nth0,s_nthS,Nat.add_zero,Bool.and_self,Bool.and_true,Bool.true_and,↓l_loop,↓l_succ,↓l_normal,l_normal,l_exit,l_ret,l_iteN,↓h_put_get,↓h_new_get,↓h_del_get,h_next_put,h_next_new,h_next_del,Nat.add_assoc,Nat.add_eq_left,Nat.left_eq_add,Nat.add_left_cancel_iff,↓s_load,m_load,↓m_load1,m_load1,↓m_st,m_stE,m_storeI,m_storeE,w_zero,w_succ,↓s_alloc,↓x_idxA,↓x_idxS,x_idxAE,x_idxSE,x_addrE,x_idx,x_lenS,↓s_len,↓x_buildS,x_buildE,↓x_P0,↓x_P1,x_fill0,x_filli,x_fills,x_fillb,c_int,List.length_cons,List.length_nil,List.cons_append,List.drop_succ_cons,List.drop_zero,List.drop_nil,List.nil_append,Int.reduceAdd,Int.reduceToNat,Int.reduceLT,Int.reduceLE,Nat.reduceAdd,Nat.reduceMul,Nat.reduceLeDiff,Int.reduceEq,Int.reduceSub,Int.cast_ofNat_Int,s_resc,s_consR,m_load4,m_store4,s_res0,↓s_skip,↓s_ops,↓s_dops,↓s_seq,↓s_cond,↓s_block,↓s_exit,↓s_ret,↓s_scope,↓s_nil,↓s_op,↓s_opg,↓s_wanted',↓s_wantV,s_wantV,s_wantV0,beq_true,beq_false,↓s_bindS,s_bindS,↓s_bindE,s_bindE,s_bindE_ret,s_bindE_exit,s_bindE_iteN,s_norm,↓s_condV,s_condV,s_block_ret,s_block_normal,s_block_exit,s_block_iteN,↓s_getp,↓s_getp0,↓s_get,s_get0,↓s_con,↓s_fn,↓s_os0,↓s_os1,↓s_list0,↓s_list1,↓s_mov,↓s_pick,↓s_pickE,s_pickE,↓s_bin,↓s_un,↓s_minmax,↓s_call,↓s_callv,↓s_callV,↓s_ext,s_same,b_eql,b_neq,b_lss,b_leq,b_gtr,b_geq,b_add,b_sub,b_mul,b_eqlb,b_neqb,b_fnil,b_fnil',b_fnil2,b_fnil2',u_neg,u_not,m_two,s_end,s_end',s_end_iteN,s_res0,s_res1,s_tup1,s_tup2,↓iteN_true,↓iteN_false,iteN_true,iteN_false,Nat.zero_add,List.nil_append,List.append_nil,Nat.reduceEqDiff,reduceIte,decide_true,decide_false,Bool.not_true,Bool.not_false,List.getElem?_cons_zero,List.getElem?_cons_succ,Bool.false_eq_true,if_true,if_false,beq_self_eq_true]
  exact fin' _ (by (simp only [s_getp,s_getp0,Nat.reduceEqDiff,decide_false,decide_true,iteN_false,iteN_true,eR]; try rfl)) (by (simp only [s_getp,s_getp0,Nat.reduceEqDiff,decide_false,decide_true,iteN_false,iteN_true,eR]; try rfl)) (by (simp only [s_getp,s_getp0,Nat.reduceEqDiff,decide_false,decide_true,iteN_false,iteN_true,eR]; try rfl)) (by (simp only [s_getp,s_getp0,Nat.reduceEqDiff,decide_false,decide_true,iteN_false,iteN_true,eR]; try rfl)) (by (simp only [s_getp,s_getp0,Nat.reduceEqDiff,decide_false,decide_true,iteN_false,iteN_true,eR]; try rfl)) (by (simp only [s_getp,s_getp0,Nat.reduceEqDiff,decide_false,decide_true,iteN_false,iteN_true,eR]; try rfl)) (by (simp only [s_getp,s_getp0,Nat.reduceEqDiff,decide_false,decide_true,iteN_false,iteN_true,eR]; try rfl))
end Go.Eng
