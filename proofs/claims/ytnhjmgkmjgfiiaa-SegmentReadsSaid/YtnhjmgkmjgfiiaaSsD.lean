/- What functions of the program come to: own work. -/
import Derived.Test.YtnhjmgkmjgfiiaaSsC
namespace Go.Eng
open Go
variable {E:Nat→Option Fn} {X:Orc}
set_option linter.unusedSimpArgs false
set_option linter.unusedVariables false
/-! rows of rows of records -/
def SrcK (K:Nat→Prop) (h:H) (a:Option (Nat × Nat)) (e:Nat) (l:List Nat):Prop:=l=[]∨∃ bi off vs m,a=some (bi,off)∧e=1∧K bi∧bi < h.next∧h.get bi=some (.cells vs m)∧off+l.length≤vs.length∧(vs.drop off).take l.length=ofI .u8 l
def RrK (K:Nat→Prop) (h:H) (ops:List Rq) (a:Option (Nat × Nat)) (e:Nat):Prop:=ops=[]∨∃ q off vs md,a=some (q,off)∧e=2∧K q∧q < h.next∧h.get q=some (.cells vs md)∧off+ops.length * 2≤vs.length∧∀ i o,ops[i]?=some o→∃ b cb eb,(vs.drop (off+i * 2)).take 2=[.int .i64 o.kind,.slice b o.l.length cb eb]∧SrcK K h b eb o.l
theorem SrcK.mono {K K':Nat→Prop} {h h':H} {a:Option (Nat × Nat)} {e:Nat} {l:List Nat} (s:SrcK K h a e l) (hn:h.next≤h'.next) (k:∀ i,K i→i < h.next→h'.get i=h.get i) (w:∀ i,K i→i < h.next→K' i):SrcK K' h' a e l:=by
  rcases s with s | ⟨bi,off,vs,m,e1,e2,hk,hb,g,hl,hv⟩
  · exact .inl s
  · exact .inr ⟨bi,off,vs,m,e1,e2,w _ hk hb,by omega,by rw [k _ hk hb,g],hl,hv⟩
theorem SrcK.src {K:Nat→Prop} {h:H} {a:Option (Nat × Nat)} {e:Nat} {l:List Nat} (s:SrcK K h a e l):SrcH h a e l:=by
  rcases s with s | ⟨bi,off,vs,m,e1,e2,hk,hb,g,hl,hv⟩
  · exact .inl s
  · exact .inr ⟨bi,off,vs,m,e1,e2,hb,g,hl,hv⟩
theorem SrcH.k {h:H} {a:Option (Nat × Nat)} {e:Nat} {l:List Nat} (s:SrcH h a e l):SrcK (fun i => i < h.next) h a e l:=by
  rcases s with s | ⟨bi,off,vs,m,e1,e2,hb,g,hl,hv⟩
  · exact .inl s
  · exact .inr ⟨bi,off,vs,m,e1,e2,hb,hb,g,hl,hv⟩
theorem RrK.mono {K K':Nat→Prop} {h h':H} {ops:List Rq} {a:Option (Nat × Nat)} {e:Nat} (r:RrK K h ops a e) (hn:h.next≤h'.next) (k:∀ i,K i→i < h.next→h'.get i=h.get i) (w:∀ i,K i→i < h.next→K' i):RrK K' h' ops a e:=by
  rcases r with r | ⟨q,off,vs,md,e1,e2,hk,hq,g,hl,at_⟩
  · exact .inl r
  · exact .inr ⟨q,off,vs,md,e1,e2,w _ hk hq,by omega,by rw [k _ hk hq,g],hl,fun i o ho => by
      obtain ⟨b,cb,eb,e3,s⟩:=at_ i o ho
      exact ⟨b,cb,eb,e3,s.mono hn k w⟩⟩
theorem RrK.row {K:Nat→Prop} {h:H} {ops:List Rq} {a:Option (Nat × Nat)} {e:Nat} (r:RrK K h ops a e):RrS h ops a e:=by
  rcases r with r | ⟨q,off,vs,md,e1,e2,hk,hq,g,hl,at_⟩
  · exact .inl r
  · exact .inr ⟨q,off,vs,md,e1,e2,hq,g,hl,fun i o ho => by
      obtain ⟨b,cb,eb,e3,s⟩:=at_ i o ho
      exact ⟨b,cb,eb,e3,s.src⟩⟩
theorem RrS.k {h:H} {ops:List Rq} {a:Option (Nat × Nat)} {e:Nat} (r:RrS h ops a e):RrK (fun i => i < h.next) h ops a e:=by
  rcases r with r | ⟨q,off,vs,md,e1,e2,hq,g,hl,at_⟩
  · exact .inl r
  · exact .inr ⟨q,off,vs,md,e1,e2,hq,hq,g,hl,fun i o ho => by
      obtain ⟨b,cb,eb,e3,s⟩:=at_ i o ho
      exact ⟨b,cb,eb,e3,s.k⟩⟩
theorem RrF.k {lo:Nat} {h:H} {dn:List Rq} {a:Option (Nat × Nat)} {c:Option Nat} {e:Nat} (r:RrF lo h dn a c e):RrK (fun i => lo≤i) h dn a e:=by
  rcases r with ⟨r,_⟩ | ⟨h1,q,md,ps,e1,e2,e3,g,al,hm,hq,hl⟩
  · exact .inl r
  · refine .inr ⟨q,0,_,md,e1,e3,hl,hq,g,by rw [flat_len (k:=2) (ral_len2 al),al.len]; omega,fun i o ho => ?_⟩
    obtain ⟨p,hp,b,cb,eb,rfl,s,d⟩:=al.get i o ho
    refine ⟨b,cb,eb,by rw [Nat.zero_add]; exact flat_get (ral_len2 al) i _ hp,?_⟩
    rcases s with s | ⟨bi,m,f1,f2,f4,f5,f3⟩
    · exact .inl s
    · by_cases hne:o.l=[]
      · exact .inl hne
      · exact .inr ⟨bi,0,_,m,f1,f2,(d hne bi 0 f1).1,f3,f4,by rw [ofI_len]; omega,by rw [List.drop_zero]; exact List.take_of_length_le (by rw [ofI_len]; exact Nat.le_refl _)⟩
/-- a row of groups that can be read -/
def GsK (K:Nat→Prop) (h:H) (gs:List (List Rq)) (a:Option (Nat × Nat)) (e:Nat):Prop:=gs=[]∨∃ q off vs md,a=some (q,off)∧e=1∧K q∧q < h.next∧h.get q=some (.cells vs md)∧off+gs.length≤vs.length∧∀ (i:Nat) (g:List Rq),gs[i]?=some g→∃ b cb eb,vs[off+i]?=some (V.slice b g.length cb eb)∧RrK K h g b eb
theorem GsK.mono {K K':Nat→Prop} {h h':H} {gs:List (List Rq)} {a:Option (Nat × Nat)} {e:Nat} (r:GsK K h gs a e) (hn:h.next≤h'.next) (k:∀ i,K i→i < h.next→h'.get i=h.get i) (w:∀ i,K i→i < h.next→K' i):GsK K' h' gs a e:=by
  rcases r with r | ⟨q,off,vs,md,e1,e2,hk,hq,g,hl,at_⟩
  · exact .inl r
  · exact .inr ⟨q,off,vs,md,e1,e2,w _ hk hq,by omega,by rw [k _ hk hq,g],hl,fun i o ho => by
      obtain ⟨b,cb,eb,e3,s⟩:=at_ i o ho
      exact ⟨b,cb,eb,e3,s.mono hn k w⟩⟩
theorem GsK.kp {K:Nat→Prop} {h h':H} {gs:List (List Rq)} {a:Option (Nat × Nat)} {e:Nat} (r:GsK K h gs a e) (k:Kp h h'):GsK K h' gs a e:=r.mono k.1 (fun i _ hi => k.2 i hi) (fun _ h _ => h)
theorem RrK.kp {K:Nat→Prop} {h h':H} {ops:List Rq} {a:Option (Nat × Nat)} {e:Nat} (r:RrK K h ops a e) (k:Kp h h'):RrK K h' ops a e:=r.mono k.1 (fun i _ hi => k.2 i hi) (fun _ h _ => h)
theorem GsK.any {K:Nat→Prop} {h:H} {gs:List (List Rq)} {a:Option (Nat × Nat)} {e:Nat} (r:GsK K h gs a e):GsK (fun _ => True) h gs a e:=r.mono (Nat.le_refl _) (fun _ _ _ => rfl) (fun _ _ _ => trivial)
theorem GsK.take {K:Nat→Prop} {h:H} {gs:List (List Rq)} {a:Option (Nat × Nat)} {e:Nat} (r:GsK K h gs a e) (n:Nat):GsK K h (gs.take n) a e:=by
  rcases r with r | ⟨q,off,vs,md,e1,e2,hk,hq,g,hl,at_⟩
  · left; rw [r,List.take_nil]
  · refine .inr ⟨q,off,vs,md,e1,e2,hk,hq,g,by rw [List.length_take]; omega,fun i o ho => at_ i o ?_⟩
    rw [List.getElem?_take] at ho
    by_cases hi:i < n
    · rw [if_pos hi] at ho; exact ho
    · rw [if_neg hi] at ho; cases ho
theorem gs_at {K:Nat→Prop} {h:H} {gs:List (List Rq)} {a:Option (Nat × Nat)} {e:Nat} (r:GsK K h gs a e) (i:Nat) (g:List Rq) (ho:gs[i]?=some g):∃ q off vs md b cb eb,a=some (q,off)∧e=1∧q < h.next∧h.get q=some (.cells vs md)∧vs[off+i]?=some (V.slice b g.length cb eb)∧RrK K h g b eb∧K q:=by
  rcases r with r | ⟨q,off,vs,md,e1,e2,hk,hq,g',hl,at_⟩
  · rw [r] at ho; simp at ho
  · obtain ⟨b,cb,eb,e3,s⟩:=at_ i g ho
    exact ⟨q,off,vs,md,b,cb,eb,e1,e2,hq,g',e3,s,hk⟩
/-- a row of groups that grows: the groups lie in K -/
def GgF (K:Nat→Prop) (lo:Nat) (h:H) (gs:List (List Rq)) (a:Option (Nat × Nat)) (c:Option Nat) (e:Nat):Prop:=(gs=[]∧a=none∧c=some 0∧e=0)∨(0 < gs.length∧∃ q md vs,a=some (q,0)∧c=none∧e=1∧h.get q=some (.cells vs md)∧vs.length=gs.length∧isRo md=false∧lo≤q∧q < h.next∧∀ (i:Nat) (g:List Rq),gs[i]?=some g→∃ b cb eb,vs[i]?=some (V.slice b g.length cb eb)∧RrK (fun j => K j∧j≠q) h g b eb)
theorem GgF.nil (K:Nat→Prop) (lo:Nat) (h:H):GgF K lo h [] none (some 0) 0:=.inl ⟨rfl,rfl,rfl,rfl⟩
theorem GgF.mono {K:Nat→Prop} {lo:Nat} {h h':H} {gs:List (List Rq)} {a:Option (Nat × Nat)} {c:Option Nat} {e:Nat} (r:GgF K lo h gs a c e) (hn:h.next≤h'.next) (k:∀ i,K i→i < h.next→h'.get i=h.get i) (kl:∀ i,lo≤i→i < h.next→h'.get i=h.get i):GgF K lo h' gs a c e:=by
  rcases r with r | ⟨h1,q,md,vs,e1,e2,e3,g,hv,hm,hl,hq,at_⟩
  · exact .inl r
  · exact .inr ⟨h1,q,md,vs,e1,e2,e3,by rw [kl _ hl hq,g],hv,hm,hl,by omega,fun i o ho => by
      obtain ⟨b,cb,eb,e4,s⟩:=at_ i o ho
      exact ⟨b,cb,eb,e4,s.mono hn (fun i hk hi => k i hk.1 hi) (fun _ h _ => h)⟩⟩
theorem GgF.kp {K:Nat→Prop} {lo:Nat} {h h':H} {gs:List (List Rq)} {a:Option (Nat × Nat)} {c:Option Nat} {e:Nat} (r:GgF K lo h gs a c e) (k:Kp h h'):GgF K lo h' gs a c e:=r.mono k.1 (fun i _ hi => k.2 i hi) (fun i _ hi => k.2 i hi)
theorem GgF.lt {K:Nat→Prop} {lo:Nat} {h:H} {gs:List (List Rq)} {a:Option (Nat × Nat)} {c:Option Nat} {e:Nat} (r:GgF K lo h gs a c e) {q z:Nat} (ea:a=some (q,z)):lo≤q∧q < h.next∧z=0:=by
  rcases r with ⟨_,h1,_⟩ | ⟨_,q',_,_,h1,_,_,_,_,_,hl,hq,_⟩
  · rw [h1] at ea; cases ea
  · rw [h1] at ea; cases ea; exact ⟨hl,hq,rfl⟩
theorem GgF.gs {K:Nat→Prop} {lo:Nat} {h:H} {gs:List (List Rq)} {a:Option (Nat × Nat)} {c:Option Nat} {e:Nat} (r:GgF K lo h gs a c e):GsK (fun j => K j∨lo≤j) h gs a e:=by
  rcases r with r | ⟨h1,q,md,vs,e1,e2,e3,g,hv,hm,hl,hq,at_⟩
  · exact .inl r.1
  · exact .inr ⟨q,0,vs,md,e1,e3,.inr hl,hq,g,by omega,fun i o ho => by
      obtain ⟨b,cb,eb,e4,s⟩:=at_ i o ho
      exact ⟨b,cb,eb,by rw [Nat.zero_add]; exact e4,s.mono (Nat.le_refl _) (fun _ _ _ => rfl) (fun _ h _ => .inl h.1)⟩⟩
theorem gap_row (K:Nat→Prop) (lo:Nat) (h:H) (hlo:lo≤h.next) (gs:List (List Rq)) (hd:gs.length≤1000000) (a:Option (Nat × Nat)) (c:Option Nat) (e:Nat) (r:GgF K lo h gs a c e) (g:List Rq) (b:Option (Nat × Nat)) (cb:Option Nat) (eb:Nat) (hs:RrK (fun j => K j∧a≠some (j,0)) h g b eb) :
    ∃ h',appendC h 1 24 (.slice a gs.length c e) (some (1,[.slice b g.length cb eb]))=some (.slice (some (h.next,0)) (gs.length+1) none 1,h')∧GgF K lo h' (gs++[g]) (some (h.next,0)) none 1∧h'.next=h.next+1∧∀ i,i < h.next→a≠some (i,0)→h'.get i=h.get i:=by
  rcases r with ⟨rfl,rfl,rfl,rfl⟩ | ⟨h1,q,md,vs,rfl,rfl,rfl,gq,hv,hm,hl,hq,at_⟩
  · have k:Kp h (h.new (.cells [.slice b g.length cb eb] .rw)):=Kp.new _ _
    refine ⟨h.new (.cells [.slice b g.length cb eb] .rw),?_,.inr ⟨by simp,h.next,.rw,[.slice b g.length cb eb],rfl,rfl,rfl,h_new_same _ _,rfl,rfl,hlo,Nat.lt_succ_self _,fun i g' ho => ?_⟩,rfl,fun i hi _ => h_new_ne _ _ (by omega)⟩
    · unfold appendC
      simp only [List.length_nil]
      have r:(roomy (0+1) 24 && (Nat.beq 0 1 || (none:Option (Nat × Nat)).isNone) && ([V.slice b g.length cb eb]).all plainV)=true:=rfl
      rw [r]
      rfl
    · cases i with
      | succ i => simp at ho
      | zero =>
        cases ho
        exact ⟨b,cb,eb,rfl,hs.mono k.1 (fun i _ hi => k.2 i hi) (fun i hk hi => ⟨hk.1,by omega⟩)⟩
  · have nx:((h.del q).new (.cells (vs++[.slice b g.length cb eb]) .sh)).next=h.next+1:=by simp only [h_next_new,h_next_del]
    have fr:∀ i,i < h.next→i≠q→((h.del q).new (.cells (vs++[.slice b g.length cb eb]) .sh)).get i=h.get i:=fun i hi hne => by
      rw [h_new_ne _ _ (by rw [h_next_del]; omega),h_del_ne _ (fun e => hne e.symm)]
    refine ⟨(h.del q).new (.cells (vs++[.slice b g.length cb eb]) .sh),?_,.inr ⟨by simp,h.next,.sh,vs++[.slice b g.length cb eb],rfl,rfl,rfl,h_new_same' _ _ (by rw [h_next_del]),by rw [List.length_append,List.length_append,hv]; rfl,rfl,hlo,by rw [nx]; omega,fun i g' ho => ?_⟩,nx,fun i hi hne => fr i hi (fun e => hne (by rw [e]))⟩
    · unfold appendC
      simp only
      have r:(roomy (gs.length+1) 24 && (Nat.beq 1 1 || (some (q,0):Option (Nat × Nat)).isNone) && ([V.slice b g.length cb eb]).all plainV)=true:=by
        have:roomy (gs.length+1) 24=true:=by simp [roomy]; omega
        rw [this]; rfl
      have f:fullC none (gs.length+1)=false:=rfl
      have rd:readN vs 0 (gs.length * 1)=some vs:=by
        have:=readN_of vs 0 (gs.length * 1) (by omega)
        rw [List.drop_zero,List.take_of_length_le (by omega)] at this
        exact this
      rw [r]
      simp only [_root_.cond_true,gq,f]
      cases md with
      | ro => cases hm
      | rw => simp only [rd]
      | sh => simp only [rd]
    · by_cases hi:i < gs.length
      · rw [List.getElem?_append_left hi] at ho
        obtain ⟨b',cb',eb',e4,s⟩:=at_ i g' ho
        exact ⟨b',cb',eb',by rw [List.getElem?_append_left (by omega)]; exact e4,s.mono (by rw [nx]; omega) (fun i hk hi => fr i hi hk.2) (fun i hk hi => ⟨hk.1,by omega⟩)⟩
      · have hi2:i=gs.length:=by
          have:=(List.getElem?_eq_some_iff.1 ho).1
          rw [List.length_append] at this; simp at this; omega
        subst hi2
        rw [List.getElem?_append_right (Nat.le_refl _),Nat.sub_self] at ho
        cases ho
        refine ⟨b,cb,eb,by rw [List.getElem?_append_right (by omega),hv,Nat.sub_self]; rfl,hs.mono (by rw [nx]; omega) (fun i hk hi => fr i hi (fun e => hk.2 (by rw [e]))) (fun i hk hi => ⟨hk.1,by omega⟩)⟩
theorem src_g (h:H) (a:Option (Nat × Nat)) (n:Nat) (c:Option Nat) (e:Nat):srcCells (h.new (.cells [.slice a n c e] .rw)) 1 (.slice (some (h.next,0)) 1 (some 1) 1)=some (1,[.slice a n c e]):=by
  rw [m_src,h_new_same]; rfl
end Go.Eng
namespace Go.Eng
open Go
variable {E:Nat→Option Fn} {X:Orc}
set_option linter.unusedSimpArgs false
set_option linter.unusedVariables false
structure EnSg (E:Nat→Option Fn):Prop where
  cm:EnCm E
  de:E k_record_Decode=some f_record_Decode
  rh:E k_record_readHead=some f_record_readHead
  en:E k_record_Encode=some f_record_Encode
  ck:E k_record_Check=some f_record_Check
  hd:E k_record_head=some f_record_head
  be:E k_bytes_Equal=some f_bytes_Equal
  mr:E k_segment_marker=some f_segment_marker
  ft:E k_segment_fits=some f_segment_fits
  cl:E k_slices_Clone_api_Record_api_Record=some f_slices_Clone_api_Record_api_Record
  ec:E k_segment_Encode=some f_segment_Encode
  ga:E k_segment_groupAt=some f_segment_groupAt
  ga1:E k_segment_groupAt_1=some f_segment_groupAt_1
  gr:E k_segment_groups=some f_segment_groups
  gr1:E k_segment_groups_1=some f_segment_groups_1
  rd:E k_segment_Read=some f_segment_Read
  sa:E k_purserref16_Same=some f_purserref16_Same
  ss:E k_purserref17_Same=some f_purserref17_Same
  g6:E k_purserref16_Great=some f_purserref16_Great
  g7:E k_purserref17_Great=some f_purserref17_Great
  wr:E k_purserlaw17_written=some f_purserlaw17_written
structure NoSg (X:Orc):Prop where
  cm:NoCm X
  y:∀ l a h,X (.yld l) a h=none
  de:∀ a h,X (.fn k_record_Decode) a h=none
  rh:∀ a h,X (.fn k_record_readHead) a h=none
  en:∀ a h,X (.fn k_record_Encode) a h=none
  ck:∀ a h,X (.fn k_record_Check) a h=none
  hd:∀ a h,X (.fn k_record_head) a h=none
  be:∀ a h,X (.fn k_bytes_Equal) a h=none
  mr:∀ a h,X (.fn k_segment_marker) a h=none
  ft:∀ a h,X (.fn k_segment_fits) a h=none
  cl:∀ a h,X (.fn k_slices_Clone_api_Record_api_Record) a h=none
  ec:∀ a h,X (.fn k_segment_Encode) a h=none
  ga:∀ a h,X (.fn k_segment_groupAt) a h=none
  ga1:∀ a h,X (.fn k_segment_groupAt_1) a h=none
  gr:∀ a h,X (.fn k_segment_groups) a h=none
  gr1:∀ a h,X (.fn k_segment_groups_1) a h=none
  rd:∀ a h,X (.fn k_segment_Read) a h=none
  sa:∀ a h,X (.fn k_purserref16_Same) a h=none
  ss:∀ a h,X (.fn k_purserref17_Same) a h=none
  g6:∀ a h,X (.fn k_purserref16_Great) a h=none
  g7:∀ a h,X (.fn k_purserref17_Great) a h=none
  wr:∀ a h,X (.fn k_purserlaw17_written) a h=none
/-- the record that ends a group -/
def mkP (n m:Nat):List Nat:=leN 8 n++leN 4 m
def mkR (n m:Nat):Rq:=⟨255,mkP n m⟩
theorem mkP_len (n m:Nat):(mkP n m).length=12:=by unfold mkP; rw [List.length_append,leN_len,leN_len]
theorem mkR_ok (n m:Nat):(mkR n m).ok∧rqOk (mkR n m)=true:=by
  refine ⟨⟨by show (-9223372036854775808:Int)≤255; omega,by show (255:Int) < _; omega,byt_app (leN_byt _ _) (leN_byt _ _)⟩,?_⟩
  unfold rqOk mkR
  simp only [mkP_len,Bool.and_eq_true,decide_eq_true_eq]
  omega
theorem fix8 (n:Nat) (h:n < 18446744073709551616):fixE 8 n=0∧fixB 8 n=leN 8 n:=by
  have hz:sizedI 8=true:=rfl
  have e2:fixE 8 n=0:=by
    unfold fixE; rw [hz,if_pos rfl,if_pos (by have:=(wid_pow' n 8 (by omega) (by omega)).2 (by show n < 18446744073709551616; exact h); omega)]
  exact ⟨e2,by unfold fixB; rw [e2,if_pos rfl]; rfl⟩
theorem marker_go (e:EnSg E) (x:NoSg X) (M n m:Nat) (hn:n < 18446744073709551616) (hm:m < 4294967296) (h:H) :
    ∃ h' a c ez,callX E X (M+20) (.fn k_segment_marker) [.int .u64 (n:Int),.int .i64 (m:Int)] h=some (.agg [.int .i64 255,.slice a 12 c ez],h')∧Nw h h' (mkP n m) a c ez:=by
  rw [x_cfn e.mr _ _ (Nat.le_of_ble_eq_true rfl) (x.mr _ _)]
  obtain ⟨hQ,eQ⟩:∃ hQ,(h.new (.cells [.int .i64 0,.slice none 0 (some 0) 0] .rw)).new (.cells [.slice none 0 (some 0) 0] .rw)=hQ:=⟨_,rfl⟩
  have kQ:Kp h hQ:=by rw [← eQ]; (repeat (first | exact Kp.refl _ | refine Kp.put ?_ _ (by first | omega | (simp only [h_next_put,h_next_new,h_next_del]; omega)) | refine Kp.del ?_ (by first | omega | (simp only [h_next_put,h_next_new,h_next_del]; omega)) | refine Kp.trans ?_ (Kp.new _ _)))
  have nQ:hQ.next=h.next+2:=by rw [← eQ]; rfl
  have gQ0:hQ.get h.next=some (.cells [.int .i64 0,.slice none 0 (some 0) 0] .rw):=by rw [← eQ]; (simp (disch:=omega) only [h_new_get,h_next_new,Nat.add_eq_left,decide_true,decide_false,iteN_true,iteN_false,reduceCtorEq,]; try rfl)
  have gQ1:hQ.get (h.next+1)=some (.cells [.slice none 0 (some 0) 0] .rw):=by rw [← eQ]; (simp (disch:=omega) only [h_new_get,h_next_new,decide_true,iteN_true,]; try rfl)
  obtain ⟨h1,a1,r1,p1,f1⟩:=fixedv_go e.cm.ep.fi x.cm.fi (M+15) (h.next+1) 8 n (by omega) (by omega) [] (by simp) none hQ (.new _ _ (by omega) gQ1)
  obtain ⟨z1,z2⟩:=fix8 n hn
  rw [z1] at r1
  rw [z2,List.nil_append] at p1
  have fn1:=f1.nx
  obtain ⟨h2,a2,r2,p2,f2⟩:=fixedv_go e.cm.ep.fi x.cm.fi (M+15) (h.next+1) 4 m (by omega) (by omega) (leN 8 n) (by rw [leN_len]; omega) a1 h1 p1
  obtain ⟨z3,z4⟩:=fix4 m (by omega)
  rw [z3] at r2
  rw [z4] at p2
  have f12:=f1.trans f2
  obtain ⟨a3,c3,e3,h3,r3,nw3⟩:=allv_go e.cm.ep.al x.cm.all (M+18) (h.next+1) (leN 8 n++leN 4 m) (by rw [List.length_append,leN_len,leN_len]; simp) a2 h2 p2
  have l12:(leN 8 n++leN 4 m).length=12:=by rw [List.length_append,leN_len,leN_len]
  rw [l12] at r3
  have fx:=f12.nx
  have kn3:=nw3.kp.1
  have g0:h3.get h.next=some (.cells [.int .i64 0,.slice none 0 (some 0) 0] .rw):=by rw [nw3.kp.2 _ (by omega),f12.fr _ (by omega) (by omega) (fun e => by cases e),gQ0]
  obtain ⟨h4,eh4⟩:∃ h4,h3.put h.next (.cells [.int .i64 255,.slice a3 12 c3 e3] .rw)=h4:=⟨_,rfl⟩
  have g4:h4.get h.next=some (.cells [.int .i64 255,.slice a3 12 c3 e3] .rw):=by rw [← eh4]; exact h_put_same _ _ _
  have ge3:∀ q o,a3=some (q,o)→h.next < q:=fun q o e => by have:=nw3.ge q o e; omega
  refine ⟨h4,a3,c3,e3,?_,⟨⟨by rw [← eh4]; show h.next≤h3.next; omega,fun j hj => by rw [← eh4,h_put_ne _ _ (by omega),nw3.kp.2 _ (by omega),f12.fr _ (by omega) (by omega) (fun e => by cases e),kQ.2 _ hj]⟩,nw3.wb.mono (by rw [← eh4]; exact Nat.le_refl _) (fun q hq e => by rw [← eh4,h_put_ne _ _ (by have:=ge3 q 0 e; omega)]),fun q o e => by have:=ge3 q o e; omega⟩⟩
  have w2:wr .u64 (m:Int)=(m:Int):=u64n _ (by omega)
  replace r1:callX E X (M+19) (.fn k_octet_Pen_Fixed) [.ptr (some (h.next+1,0)),.int .i64 8,.int .u64 (n:Int)] hQ=some (.int .i64 0,h1):=r1
  replace r2:callX E X (M+19) (.fn k_octet_Pen_Fixed) [.ptr (some (h.next+1,0)),.int .i64 4,.int .u64 (m:Int)] h1=some (.int .i64 0,h2):=r2
  simp (config:={maxSteps:=2000000}) (disch:=first | omega | (simp only [List.length_cons,List.length_nil,List.length_append,List.length_drop]; omega)) only [eQ,w2,r1,r2,r3,g0,eh4,g4,st2i,ld2,x_build,x_aggO,x_P0,x_P1,x_fill0,x_fills,x_filli,↓x_conv,x_convV,Nat.zero_add,h_next_new,m_load,↓m_st,m_stE,m_storeE,w_zero,w_succ,↓s_alloc,↓x_P0,↓x_P1,x_fill0,x_filli,x_fills,List.length_cons,List.length_nil,List.cons_append,List.drop_succ_cons,List.drop_zero,List.drop_nil,List.nil_append,Nat.reduceAdd,s_resc,s_consR,s_res0,↓s_ops,↓s_seq,↓s_ret,↓s_nil,↓s_op,↓s_bindS,s_bindS,↓s_bindE,s_bindE,s_norm,↓s_getp,↓s_getp0,↓s_get,↓s_con,↓s_os0,↓s_os1,↓s_list0,↓s_list1,↓s_mov,↓s_call,s_same,s_end,s_res0,s_tup1,↓iteN_true,↓iteN_false,iteN_true,iteN_false,Nat.zero_add,List.nil_append,List.append_nil,Nat.reduceEqDiff,decide_true,decide_false]
  try rfl
end Go.Eng
namespace Go.Eng
open Go
variable {E:Nat→Option Fn} {X:Orc}
set_option linter.unusedSimpArgs false
set_option linter.unusedVariables false
end Go.Eng
namespace Go.Eng
open Go
variable {E:Nat→Option Fn} {X:Orc}
set_option linter.unusedSimpArgs false
set_option linter.unusedVariables false
def fldE (off:Nat) (sz:Option Nat) (v:V) (h:H):Option (V × H):=match v with
  | .agg cs => same h (partV cs off sz)
  | _ => none
theorem s_fld (Q:Orc) (T:Tr V) (h:H) (off:Nat) (sz:Option Nat) (x:O):Eng.step (.fld off sz x) Q T h=fldE off sz (evO T x) h:=_root_.id rfl
theorem x_fld1 (u v:V) (h:H):fldE 1 none (.agg [u,v]) h=some (v,h):=_root_.id rfl
def noM (ops:List Rq):Bool:=ops.all (fun o => decide (o.kind≠255))
theorem noM_or (ops:List Rq):(∀ o ∈ ops,o.kind≠255)∨∃ (j:Nat) (o:Rq),ops[j]?=some o∧o.kind=255∧∀ (i:Nat) (o':Rq),i < j→ops[i]?=some o'→o'.kind≠255:=by
  induction ops with
  | nil => exact .inl (fun o ho => by cases ho)
  | cons a r ih =>
    by_cases ha:a.kind=255
    · exact .inr ⟨0,a,rfl,ha,fun i o' hi => by omega⟩
    · rcases ih with ih | ⟨j,o,h1,h2,h3⟩
      · exact .inl (fun o ho => by rcases List.mem_cons.1 ho with rfl | ho; exact ha; exact ih o ho)
      · refine .inr ⟨j+1,o,by simpa using h1,h2,fun i o' hi ho => ?_⟩
        cases i with
        | zero => simp at ho; subst ho; exact ha
        | succ i => simp at ho; exact h3 i o' (by omega) ho
end Go.Eng
namespace Go.Eng
open Go
variable {E:Nat→Option Fn} {X:Orc}
set_option linter.unusedSimpArgs false
set_option linter.unusedVariables false
theorem fl2 (y z u v:V):fillV [y,z] [(0,2,.agg [u,v])]=some [u,v]:=rfl
/-- what Encode of a group answers -/
def sgB (n:Nat) (ops:List Rq):List Nat:=rB (ops++[mkR n ops.length])
def sgOk (n:Nat) (ops:List Rq):Bool:=decide (1≤n) && decide (ops≠[]) && noM ops && ops.all rqOk
def sgR (n:Nat) (ops:List Rq):List Nat × Nat:=if sgOk n ops=true then (sgB n ops,0) else ([],170)
theorem mkR_len (n m:Nat):(rqB (mkR n m)).length=25:=by rw [rqB_len]; show 13+(mkP n m).length=25; rw [mkP_len]
theorem sgB_len (n:Nat) (ops:List Rq):(sgB n ops).length=(rB ops).length+25:=by
  unfold sgB
  rw [rB_app,List.length_append]
  show _+(rB [mkR n ops.length]).length=_
  rw [rB_cons,List.length_append,mkR_len]; rfl
end Go.Eng
namespace Go.Eng
open Go
variable {E:Nat→Option Fn} {X:Orc}
set_option linter.unusedSimpArgs false
set_option linter.unusedVariables false
/-- a record that is told to the group -/
theorem col_go (e:EnSg E) (x:NoSg X) (M p lo:Nat) (hp:p < lo) (h:H) (hlo:lo≤h.next) (dn:List Rq) (hd:dn.length≤1000000) (a:Option (Nat × Nat)) (c:Option Nat) (ez:Nat) (gp:h.get p=some (.cells [.slice a dn.length c ez] .rw)) (row:RrF lo h dn a c ez) (o:Rq) (b:Option (Nat × Nat)) (cb:Option Nat) (eb:Nat) (hs:Ow h o.l b eb) (hb:o.l≠[]→∀ q z,b=some (q,z)→lo≤q∧a≠some (q,0)) :
    ∃ h' a' c' e',callX E X (M+1) (.fn k_segment_groupAt_1) [.agg [.int .i64 o.kind,.slice b o.l.length cb eb],.ptr (some (p,0))] h=some (.tup [],h')∧h'.get p=some (.cells [.slice a' (dn.length+1) c' e'] .rw)∧RrF lo h' (dn++[o]) a' c' e'∧h.next≤h'.next∧∀ i,i < lo→i≠p→h'.get i=h.get i:=by
  rw [x_cfn e.ga1 _ _ (Nat.le_of_ble_eq_true rfl) (x.ga1 _ _)]
  have ca:∀ l:List V,(V.agg l).cells=l:=fun _ => rfl
  obtain ⟨h1,e1⟩:∃ h1,h.new (.cells [.int .i64 o.kind,.slice b o.l.length cb eb] .rw)=h1:=⟨_,rfl⟩
  have k1:Kp h h1:=by rw [← e1]; exact Kp.new _ _
  have n1:h1.next=h.next+1:=by rw [← e1]; rfl
  have g1:h1.get h.next=some (.cells [.int .i64 o.kind,.slice b o.l.length cb eb] .rw):=by rw [← e1]; exact h_new_same _ _
  have gp1:h1.get p=some (.cells [.slice a dn.length c ez] .rw):=by rw [k1.2 _ (by omega),gp]
  obtain ⟨h2,e2⟩:∃ h2,h1.new (.cells [.int .i64 o.kind,.slice b o.l.length cb eb] .rw)=h2:=⟨_,rfl⟩
  have k2:Kp h1 h2:=by rw [← e2]; exact Kp.new _ _
  have n2:h2.next=h1.next+1:=by rw [← e2]; rfl
  have sc:=src_r h1 .i64 o.kind b o.l.length cb eb
  rw [e2] at sc
  have k02:=k1.trans k2
  obtain ⟨h3,ap,row3,n3,f3⟩:=rap_row lo h2 (by omega) dn hd a c ez (row.kp k02) o b cb eb (hs.kp k02) hb
  have nap:a≠some (p,0):=fun e => by have:=(row.lt e).1; omega
  have gp3:h3.get p=some (.cells [.slice a dn.length c ez] .rw):=by rw [f3 _ (by omega) nap,k02.2 _ (by omega),gp]
  obtain ⟨h4,e4⟩:∃ h4,h3.put p (.cells [.slice (some (h2.next,0)) (dn.length+1) none 2] .rw)=h4:=⟨_,rfl⟩
  refine ⟨h4,some (h2.next,0),none,2,?_,by rw [← e4]; exact h_put_same _ _ _,row3.mono (by rw [← e4]; exact Nat.le_refl _) (fun i i1 i2 => by rw [← e4,h_put_ne _ _ (by omega)]),by rw [← e4]; show h.next≤h3.next; omega,fun i hi hne => by rw [← e4,h_put_ne _ _ (Ne.symm hne),f3 i (by omega) (fun e => by have:=(row.lt e).1; omega),k02.2 _ (by omega)]⟩
  generalize dn.length=dl at *
  generalize o.l.length=ol at *
  simp (config:={maxSteps:=2000000}) (disch:=first | omega | (simp only [List.length_cons,List.length_nil,List.length_append,List.length_drop]; omega)) only [ca,e1,gp1,g1,e2,fl2,sc,ap,gp3,e4,ld2,m_storeS,↓s_box,↓s_append,Nat.zero_add,↓s_load,m_load,↓m_load1,m_load1,↓m_st,m_stE,m_storeE,w_zero,↓x_buildS,x_buildE,↓x_P0,↓x_P1,List.length_cons,List.length_nil,List.drop_succ_cons,List.drop_nil,s_res0,↓s_ops,↓s_seq,↓s_nil,↓s_op,↓s_bindS,s_bindS,↓s_bindE,s_bindE,s_norm,↓s_getp,↓s_get,↓s_list0,↓s_list1,s_same,s_end',s_res0,↓iteN_true,↓iteN_false,iteN_true,iteN_false,Nat.zero_add,List.append_nil,Nat.reduceEqDiff,decide_true,decide_false,List.getElem?_cons_zero]
  try rfl
/-- the group that stands ahead -/
def gaV (num:Nat):Nat→List Nat→List Rq→Option (List Rq × Nat)
  | 0,_,_ => none
  | n+1,b,acc => match dcV b with
    | none => none
    | some (o,k) => if o.kind=255 then (if acc=[]∨o.l≠mkP num acc.length then none else some (acc,k)) else match gaV num n (b.drop k) (acc++[o]) with
      | none => none
      | some (g,j) => some (g,k+j)
theorem ga_succ (num n:Nat) (b:List Nat) (acc:List Rq):gaV num (n+1) b acc=(match dcV b with
    | none => none
    | some (o,k) => if o.kind=255 then (if acc=[]∨o.l≠mkP num acc.length then none else some (acc,k)) else match gaV num n (b.drop k) (acc++[o]) with
      | none => none
      | some (g,j) => some (g,k+j)):=rfl
structure GaI (v:V) (at_ num p:Nat) (dn:List Rq) (nx:Nat) (h0:H) (T:Tr V) (h:H):Prop where
  t0:evO T (.t 0)=v
  t1:evO T (.t 1)=.int .i64 (at_:Int)
  t2:evO T (.t 2)=.int .u64 (num:Int)
  t6:evO T (.t 6)=.ptr (some (p,0))
  t7:evO T (.t 7)=.int .i64 (nx:Int)
  t9:evO T (.t 9)=.fn k_segment_groupAt_1 [] [.ptr (some (p,0))]
  st:∃ a c e,h.get p=some (.cells [.slice a dn.length c e] .rw)∧RrF (p+1) h dn a c e
  nxt:p+1≤h.next
  fr:∀ i,i < p→h.get i=h0.get i
structure GaE (p:Nat) (dn:List Rq) (nx:Nat) (ok:Bool) (h0:H) (T:Tr V) (h:H):Prop where
  t6:evO T (.t 6)=.ptr (some (p,0))
  t7:evO T (.t 7)=.int .i64 (nx:Int)
  t8:evO T (.t 8)=.bool ok
  st:∃ a c e,h.get p=some (.cells [.slice a dn.length c e] .rw)∧RrF (p+1) h dn a c e
  nxt:p+1≤h.next
  fr:∀ i,i < p→h.get i=h0.get i
set_option maxHeartbeats 1000000 in
theorem ga_round (e:EnSg E) (x:NoSg X) (M:Nat) (hM:250100 < M) (m:Nat) (s:List Nat) (bs:byt s=true) (hs:s.length≤900000) (a:Option (Nat × Nat)) (c:Option Nat) (ez:Nat) (sb:SB s a c ez) (at_ num p:Nat) (hn:num < 18446744073709551616) (h0:H) (hp:h0.next=p) (src:SrcH h0 a ez s) (dn:List Rq) (nx:Nat) (hat:at_≤nx) (hnx:nx≤s.length) (hdn:dn.length≤nx) (T:Tr V) (h:H) (I:GaI (.slice a s.length c ez) at_ num p dn nx h0 T h) :
    (dcV (s.drop nx)=none→∃ T' h',evC (callX E X (M+22)) 53 m none L_segment_groupAt_0 ⟨T,[],h⟩=some (.ret,⟨T',[],h'⟩)∧GaE p [] 0 false h0 T' h') ∧
    (∀ o k,dcV (s.drop nx)=some (o,k)→o.kind≠255→∃ T' h',evC (callX E X (M+22)) 53 m none L_segment_groupAt_0 ⟨T,[],h⟩=some (.normal,⟨T',[],h'⟩)∧GaI (.slice a s.length c ez) at_ num p (dn++[o]) (nx+k) h0 T' h') ∧
    (∀ o k,dcV (s.drop nx)=some (o,k)→o.kind=255→(dn=[]∨o.l≠mkP num dn.length)→∃ T' h',evC (callX E X (M+22)) 53 m none L_segment_groupAt_0 ⟨T,[],h⟩=some (.ret,⟨T',[],h'⟩)∧GaE p [] 0 false h0 T' h') ∧
    (∀ o k,dcV (s.drop nx)=some (o,k)→o.kind=255→¬ (dn=[]∨o.l≠mkP num dn.length)→∃ T' h',evC (callX E X (M+22)) 53 m none L_segment_groupAt_0 ⟨T,[],h⟩=some (.ret,⟨T',[],h'⟩)∧GaE p dn (nx+k) true h0 T' h'):=by
  obtain ⟨t0,t1,t2,t6,t7,t9,⟨ar,cr,er,gp,row⟩,hnxt,fr⟩:=I
  have srcH:SrcH h a ez s:=(src.k.mono (K':=fun _ => True) (by omega) (fun i hk hi => fr i (by omega)) (fun _ _ _ => trivial)).src
  obtain ⟨h1,k1,r1⟩:=decode_goB e.de e.rh e.cm x.cm x.de x.rh M hM s bs hs nx hnx a c ez sb h srcH
  have z0:decide ((0:Int)=0)=true:=rfl
  have z1:decide ((160:Int)=0)=false:=rfl
  have kn1:=k1.1
  refine ⟨fun hd => ?_,?_⟩
  · rw [hd] at r1
    replace r1:callX E X (M+22) (.fn k_record_Decode) [.slice a s.length c ez,.int .i64 (nx:Int)] h=some (.tup [.agg [.int .i64 0,.slice none 0 (some 0) 0],.int .i64 0,.int .i64 160],h1):=r1
    obtain ⟨h2,eh2⟩:∃ h2,(h1.new (.cells [.int .i64 0,.slice none 0 (some 0) 0] .rw)).put h1.next (.cells [.int .i64 0,.slice none 0 (some 0) 0] .rw)=h2:=⟨_,rfl⟩
    have k2:Kp h h2:=k1.trans (by rw [← eh2]; (repeat (first | exact Kp.refl _ | refine Kp.put ?_ _ (by first | omega | (simp only [h_next_put,h_next_new,h_next_del]; omega)) | refine Kp.del ?_ (by first | omega | (simp only [h_next_put,h_next_new,h_next_del]; omega)) | refine Kp.trans ?_ (Kp.new _ _))))
    have n2:h2.next=h1.next+1:=by rw [← eh2]; rfl
    have gp2:h2.get p=some (.cells [.slice ar dn.length cr er] .rw):=by rw [k2.2 _ (by omega),gp]
    obtain ⟨h3,eh3⟩:∃ h3,h2.put p (.cells [.slice none 0 (some 0) 0] .rw)=h3:=⟨_,rfl⟩
    obtain ⟨sl,esl⟩:∃ n,s.length=n:=⟨_,rfl⟩
    obtain ⟨dl,edl⟩:∃ n,dn.length=n:=⟨_,rfl⟩
    rw [esl] at t0 r1
    rw [edl] at gp2
    exact ⟨_,h3,by
      simp (config:={maxSteps:=2000000}) (disch:=first | omega | (simp only [List.length_cons,List.length_nil,List.length_append,List.length_drop]; omega)) only [L_segment_groupAt_0,t0,t6,t7,r1,eh2,gp2,eh3,m_storeS,st2i,Bool.not_false,Nat.zero_add,↓h_new_get,↓m_st,m_stE,m_storeE,w_zero,↓s_alloc,List.length_cons,List.length_nil,List.drop_succ_cons,List.drop_nil,Nat.reduceAdd,Int.reduceEq,↓s_ops,↓s_seq,↓s_cond,↓s_block,↓s_ret,↓s_nil,↓s_op,↓s_opg,↓s_wanted',↓s_wantV,s_wantV,beq_false,↓s_bindS,s_bindS,↓s_bindE,s_bindE,s_bindE_ret,s_norm,↓s_condV,s_condV,s_block_ret,↓s_getp,↓s_getp0,↓s_con,↓s_os0,↓s_os1,↓s_mov,↓s_pick,↓s_pickE,s_pickE,↓s_bin,↓s_call,↓s_ext,s_same,b_neq,↓iteN_true,↓iteN_false,iteN_true,iteN_false,Nat.zero_add,List.append_nil,Nat.reduceEqDiff,decide_true,decide_false,Bool.not_true,Bool.not_false,List.getElem?_cons_zero,List.getElem?_cons_succ]
      exact rfl,(by (simp only [s_getp,s_getp0,Nat.reduceEqDiff,decide_false,iteN_false,t6]; try rfl)),(by (simp only [s_getp,Nat.reduceEqDiff,decide_false,decide_true,iteN_false,iteN_true]; try rfl)),(by (simp only [s_getp,decide_true,iteN_true]; try rfl)),⟨none,some 0,0,by rw [← eh3]; exact h_put_same _ _ _,.inl ⟨rfl,rfl,rfl,rfl⟩⟩,by rw [← eh3]; show p+1≤h2.next; omega,fun i hi => by rw [← eh3,h_put_ne _ _ (by omega),k2.2 _ (by omega),fr i hi]⟩
  · have some_:∀ o k,dcV (s.drop nx)=some (o,k)→∃ a2 c2 e2,callX E X (M+22) (.fn k_record_Decode) [.slice a s.length c ez,.int .i64 (nx:Int)] h=some (.tup [.agg [.int .i64 o.kind,.slice a2 o.l.length c2 e2],.int .i64 ((nx+k:Nat):Int),.int .i64 0],h1)∧Wb h1 o.l a2 c2 e2∧(∀ q z,a2=some (q,z)→h.next < q)∧nx+k≤s.length∧o.ok:=fun o k hd => by
      rw [hd] at r1
      obtain ⟨a2,c2,e2,r,w,g⟩:=r1
      obtain ⟨f1,f2,f3,f4,f5⟩:=dc_of _ (byt_drop bs _) o k hd
      rw [List.length_drop] at f5
      exact ⟨a2,c2,e2,r,w,g,by omega,f2⟩
    refine ⟨fun o k hd hk => ?_,fun o k hd hk hbad => ?_,fun o k hd hk hgood => ?_⟩
    · obtain ⟨a2,c2,e2,r1,wb2,ge2,hle,oko⟩:=some_ o k hd
      obtain ⟨h2,eh2⟩:∃ h2,(h1.new (.cells [.int .i64 0,.slice none 0 (some 0) 0] .rw)).put h1.next (.cells [.int .i64 o.kind,.slice a2 o.l.length c2 e2] .rw)=h2:=⟨_,rfl⟩
      have k12:Kp h1 h2:=by rw [← eh2]; (repeat (first | exact Kp.refl _ | refine Kp.put ?_ _ (by first | omega | (simp only [h_next_put,h_next_new,h_next_del]; omega)) | refine Kp.del ?_ (by first | omega | (simp only [h_next_put,h_next_new,h_next_del]; omega)) | refine Kp.trans ?_ (Kp.new _ _)))
      have k2:Kp h h2:=k1.trans k12
      have n2:h2.next=h1.next+1:=by rw [← eh2]; rfl
      have g2:h2.get h1.next=some (.cells [.int .i64 o.kind,.slice a2 o.l.length c2 e2] .rw):=by rw [← eh2]; exact h_put_same _ _ _
      have gp2:h2.get p=some (.cells [.slice ar dn.length cr er] .rw):=by rw [k2.2 _ (by omega),gp]
      obtain ⟨h3,a3,c3,e3,rc,gp3,row3,n3,f3⟩:=col_go e x (M+21) p (p+1) (by omega) h2 (by omega) dn (by omega) ar cr er gp2 (row.kp k2) o a2 c2 e2 (wb2.ow.kp k12) (fun _ q z eq => ⟨by have:=ge2 q z eq; omega,fun e => by have:=(row.lt e).2; have:=ge2 q z eq; omega⟩)
      have w1:wr .i64 (((nx+k:Nat):Int) - (at_:Int))=((nx+k - at_:Nat):Int):=by rw [wr_i64 (by omega)]; omega
      have d1:decide ((1500000:Int) < ((nx+k - at_:Nat):Int))=false:=decide_eq_false (by omega)
      have d2:decide (o.kind=255)=false:=decide_eq_false hk
      have ll:(dn++[o]).length=dn.length+1:=by rw [List.length_append]; rfl
      obtain ⟨nk,enk⟩:∃ n,nx+k=n:=⟨_,rfl⟩
      rw [enk] at r1 w1 d1
      generalize nk - at_=nd at *
      obtain ⟨sl,esl⟩:∃ n,s.length=n:=⟨_,rfl⟩
      obtain ⟨ol,eol⟩:∃ n,o.l.length=n:=⟨_,rfl⟩
      rw [esl] at t0 r1
      rw [eol] at r1 eh2 g2 rc
      exact ⟨_,h3,by
        simp (config:={maxSteps:=2000000}) (disch:=first | omega | (simp only [List.length_cons,List.length_nil,List.length_append,List.length_drop]; omega)) only [L_segment_groupAt_0,t0,t1,t7,t9,r1,eh2,g2,w1,d1,d2,rc,st2i,ld2,Bool.not_false,Bool.not_true,↓x_fieldAddr,x_fieldV,Nat.zero_add,Nat.add_zero,↓h_new_get,↓s_load,m_load,↓m_load1,m_load1,↓m_st,m_stE,m_storeE,w_zero,↓s_alloc,List.length_cons,List.length_nil,List.cons_append,List.drop_succ_cons,List.drop_nil,List.nil_append,Nat.reduceAdd,↓s_skip,↓s_ops,↓s_seq,↓s_cond,↓s_block,↓s_exit,↓s_nil,↓s_op,↓s_opg,↓s_wanted',↓s_wantV,s_wantV,↓s_bindS,s_bindS,↓s_bindE,s_bindE,s_bindE_exit,s_norm,↓s_condV,s_condV,s_block_exit,↓s_getp,↓s_getp0,↓s_con,↓s_os0,↓s_os1,↓s_mov,↓s_pick,↓s_pickE,s_pickE,↓s_bin,↓s_call,↓s_callv,↓s_callV,↓s_ext,s_same,b_neq,b_gtr,b_sub,↓iteN_true,↓iteN_false,iteN_true,iteN_false,Nat.zero_add,List.nil_append,List.append_nil,Nat.reduceEqDiff,decide_true,decide_false,Bool.not_true,Bool.not_false,List.getElem?_cons_zero,List.getElem?_cons_succ,if_true,beq_self_eq_true]
        exact rfl,by rw [esl]; exact (by (simp only [s_getp,s_getp0,Nat.reduceEqDiff,decide_false,iteN_false,t0]; try rfl)),(by (simp only [s_getp,s_getp0,Nat.reduceEqDiff,decide_false,iteN_false,t1]; try rfl)),(by (simp only [s_getp,s_getp0,Nat.reduceEqDiff,decide_false,iteN_false,t2]; try rfl)),(by (simp only [s_getp,s_getp0,Nat.reduceEqDiff,decide_false,iteN_false,t6]; try rfl)),by rw [enk]; exact (by (simp only [s_getp,Nat.reduceEqDiff,decide_false,decide_true,iteN_false,iteN_true]; try rfl)),(by (simp only [s_getp,s_getp0,Nat.reduceEqDiff,decide_false,iteN_false,t9]; try rfl)),⟨a3,c3,e3,by rw [ll]; exact gp3,row3⟩,by omega,fun i hi => by rw [f3 i (by omega) (by omega),k2.2 _ (by omega),fr i hi]⟩
    · obtain ⟨a2,c2,e2,r1,wb2,ge2,hle,oko⟩:=some_ o k hd
      obtain ⟨h2,eh2⟩:∃ h2,(h1.new (.cells [.int .i64 0,.slice none 0 (some 0) 0] .rw)).put h1.next (.cells [.int .i64 o.kind,.slice a2 o.l.length c2 e2] .rw)=h2:=⟨_,rfl⟩
      have k12:Kp h1 h2:=by rw [← eh2]; (repeat (first | exact Kp.refl _ | refine Kp.put ?_ _ (by first | omega | (simp only [h_next_put,h_next_new,h_next_del]; omega)) | refine Kp.del ?_ (by first | omega | (simp only [h_next_put,h_next_new,h_next_del]; omega)) | refine Kp.trans ?_ (Kp.new _ _)))
      have k2:Kp h h2:=k1.trans k12
      have n2:h2.next=h1.next+1:=by rw [← eh2]; rfl
      have g2:h2.get h1.next=some (.cells [.int .i64 o.kind,.slice a2 o.l.length c2 e2] .rw):=by rw [← eh2]; exact h_put_same _ _ _
      have gp2:h2.get p=some (.cells [.slice ar dn.length cr er] .rw):=by rw [k2.2 _ (by omega),gp]
      have w1:wr .i64 (((nx+k:Nat):Int) - (at_:Int))=((nx+k - at_:Nat):Int):=by rw [wr_i64 (by omega)]; omega
      have d1:decide ((1500000:Int) < ((nx+k - at_:Nat):Int))=false:=decide_eq_false (by omega)
      have d2:decide (o.kind=255)=true:=decide_eq_true hk
      obtain ⟨nk,enk⟩:∃ n,nx+k=n:=⟨_,rfl⟩
      rw [enk] at r1 w1 d1
      generalize nk - at_=nd at *
      by_cases hdn0:dn=[]
      · subst hdn0
        have d3:decide (((0:Nat):Int)=0)=true:=rfl
        rw [List.length_nil] at gp2
        obtain ⟨h3,eh3⟩:∃ h3,h2.put p (.cells [.slice none 0 (some 0) 0] .rw)=h3:=⟨_,rfl⟩
        obtain ⟨sl,esl⟩:∃ n,s.length=n:=⟨_,rfl⟩
        obtain ⟨ol,eol⟩:∃ n,o.l.length=n:=⟨_,rfl⟩
        rw [esl] at t0 r1
        rw [eol] at r1 eh2 g2
        exact ⟨_,h3,by
          simp (config:={maxSteps:=2000000}) (disch:=first | omega | (simp only [List.length_cons,List.length_nil,List.length_append,List.length_drop]; omega)) only [L_segment_groupAt_0,t0,t1,t6,t7,r1,eh2,g2,gp2,w1,d1,d2,eh3,m_storeS,st2i,Bool.not_true,↓s_len,x_lenS,↓x_fieldAddr,x_fieldV,Nat.zero_add,Nat.add_zero,↓s_evD,↓s_dnil,↓s_dL,↓s_dLg,↓s_dR,↓s_dRg,↓s_dRjg,↓s_dBg,↓s_bindD,s_bindD,s_finD,s_addP0,↓s_bump0,Nat.add_zero,↓h_new_get,↓s_load,m_load,↓m_load1,m_load1,↓m_st,m_stE,m_storeE,w_zero,↓s_alloc,x_lenS,↓s_len,List.length_cons,List.length_nil,List.drop_succ_cons,List.drop_nil,Nat.reduceAdd,Int.cast_ofNat_Int,↓s_skip,↓s_ops,↓s_dops,↓s_seq,↓s_cond,↓s_block,↓s_ret,↓s_nil,↓s_op,↓s_opg,↓s_wanted',↓s_wantV,s_wantV,beq_false,↓s_bindS,s_bindS,↓s_bindE,s_bindE,s_bindE_ret,s_norm,↓s_condV,s_condV,s_block_ret,↓s_getp,↓s_getp0,↓s_con,↓s_os0,↓s_os1,↓s_mov,↓s_pick,↓s_pickE,s_pickE,↓s_bin,↓s_call,↓s_ext,s_same,b_eql,b_neq,b_gtr,b_sub,↓iteN_true,↓iteN_false,iteN_true,iteN_false,Nat.zero_add,List.append_nil,Nat.reduceEqDiff,decide_true,decide_false,Bool.not_true,List.getElem?_cons_zero,List.getElem?_cons_succ,beq_self_eq_true]
          exact rfl,(by (simp only [s_getp,s_getp0,Nat.reduceEqDiff,decide_false,iteN_false,t6]; try rfl)),(by (simp only [s_getp,Nat.reduceEqDiff,decide_false,decide_true,iteN_false,iteN_true]; try rfl)),(by (simp only [s_getp,decide_true,iteN_true]; try rfl)),⟨none,some 0,0,by rw [← eh3]; exact h_put_same _ _ _,.inl ⟨rfl,rfl,rfl,rfl⟩⟩,by rw [← eh3]; show p+1≤h2.next; omega,fun i hi => by rw [← eh3,h_put_ne _ _ (by omega),k2.2 _ (by omega),fr i hi]⟩
      · have hne:o.l≠mkP num dn.length:=hbad.resolve_left hdn0
        have hlp:=List.length_pos_iff.2 hdn0
        have d3:decide ((dn.length:Int)=0)=false:=decide_eq_false (by omega)
        obtain ⟨h3,a3,c3,e3,rm,nw3⟩:=marker_go e x (M+2) num dn.length hn (by omega) h2
        have kn3:=nw3.kp.1
        have rb:=bequal_go (E:=E) (X:=X) e.be x.be (M+21) o.l (mkP num dn.length) oko.bl (byt_app (leN_byt _ _) (leN_byt _ _)) a2 a3 c2 c3 e2 e3 h3 (((wb2.kp k12).kp nw3.kp).src) nw3.wb.src
        rw [decide_eq_false hne,mkP_len] at rb
        have g3:h3.get h1.next=some (.cells [.int .i64 o.kind,.slice a2 o.l.length c2 e2] .rw):=by rw [nw3.kp.2 _ (by omega),g2]
        have gp3:h3.get p=some (.cells [.slice ar dn.length cr er] .rw):=by rw [nw3.kp.2 _ (by omega),gp2]
        have vbs:∀ (a:Option (Nat × Nat)) (n:Nat) (c:Option Nat) (e:Nat),(V.slice a n c e).beq (V.slice a n c e)=true:=fun a n c e => by unfold V.beq; simp
        have vb1:=vbs a2 o.l.length c2 e2
        have vb2:=vbs ar dn.length cr er
        have kr:Kp h1 h1:=Kp.refl _
        obtain ⟨h4,eh4⟩:∃ h4,h3.put p (.cells [.slice none 0 (some 0) 0] .rw)=h4:=⟨_,rfl⟩
        obtain ⟨sl,esl⟩:∃ n,s.length=n:=⟨_,rfl⟩
        obtain ⟨ol,eol⟩:∃ n,o.l.length=n:=⟨_,rfl⟩
        obtain ⟨dl,edl⟩:∃ n,dn.length=n:=⟨_,rfl⟩
        rw [esl] at t0 r1
        rw [eol] at r1 eh2 g2 g3 rb vb1
        rw [edl] at gp2 gp3 d3 rm vb2
        replace rm:callX E X (M+22) (.fn k_segment_marker) [.int .u64 (num:Int),.int .i64 (dl:Int)] h2=_:=rm
        exact ⟨_,h4,by
          simp (config:={maxSteps:=2000000}) (disch:=first | omega | (simp only [List.length_cons,List.length_nil,List.length_append,List.length_drop]; omega)) only [L_segment_groupAt_0,t0,t1,t2,t6,t7,r1,eh2,g2,g3,gp2,gp3,w1,d1,d2,d3,rm,rb,vb1,eh4,↓s_fld,x_fld1,m_storeS,st2i,Bool.not_false,Bool.not_true,↓s_len,x_lenS,↓x_fieldAddr,x_fieldV,Nat.zero_add,Nat.add_zero,↓s_evD,↓s_dnil,↓s_dL,↓s_dLg,↓s_dR,↓s_dRg,↓s_dRjg,↓s_dBg,↓s_bindD,s_bindD,s_finDx,s_addP0,↓s_bump0,s_ok0,↓s_ok1,s_okR0,↓s_okR1,↓s_okE,s_okE,s_okE1,s_nth0,s_nthS,Nat.add_zero,Bool.and_self,↓h_new_get,↓s_load,m_load,↓m_load1,m_load1,↓m_st,m_stE,m_storeE,w_zero,↓s_alloc,x_lenS,↓s_len,List.length_cons,List.length_nil,List.drop_succ_cons,List.drop_nil,Nat.reduceAdd,↓s_skip,↓s_ops,↓s_dops,↓s_seq,↓s_cond,↓s_block,↓s_ret,↓s_nil,↓s_op,↓s_opg,↓s_wanted',↓s_wantV,s_wantV,↓s_bindS,s_bindS,↓s_bindE,s_bindE,s_bindE_ret,s_norm,↓s_condV,s_condV,s_block_ret,↓s_getp,↓s_getp0,↓s_con,↓s_os0,↓s_os1,↓s_mov,↓s_pick,↓s_pickE,s_pickE,↓s_bin,↓s_un,↓s_call,↓s_ext,s_same,b_eql,b_neq,b_gtr,b_sub,u_not,↓iteN_true,↓iteN_false,iteN_true,iteN_false,Nat.zero_add,List.append_nil,Nat.reduceEqDiff,decide_true,decide_false,Bool.not_true,Bool.not_false,List.getElem?_cons_zero,List.getElem?_cons_succ,beq_self_eq_true]
          exact rfl,(by (simp only [s_getp,s_getp0,Nat.reduceEqDiff,decide_false,iteN_false,t6]; try rfl)),(by (simp only [s_getp,Nat.reduceEqDiff,decide_false,decide_true,iteN_false,iteN_true]; try rfl)),(by (simp only [s_getp,decide_true,iteN_true]; try rfl)),⟨none,some 0,0,by rw [← eh4]; exact h_put_same _ _ _,.inl ⟨rfl,rfl,rfl,rfl⟩⟩,by rw [← eh4]; show p+1≤h3.next; omega,fun i hi => by rw [← eh4,h_put_ne _ _ (by omega),nw3.kp.2 _ (by omega),k2.2 _ (by omega),fr i hi]⟩
    · obtain ⟨a2,c2,e2,r1,wb2,ge2,hle,oko⟩:=some_ o k hd
      have hdn0:dn≠[]:=fun h => hgood (.inl h)
      have heq:o.l=mkP num dn.length:=Classical.byContradiction (fun h => hgood (.inr h))
      obtain ⟨h2,eh2⟩:∃ h2,(h1.new (.cells [.int .i64 0,.slice none 0 (some 0) 0] .rw)).put h1.next (.cells [.int .i64 o.kind,.slice a2 o.l.length c2 e2] .rw)=h2:=⟨_,rfl⟩
      have k12:Kp h1 h2:=by rw [← eh2]; (repeat (first | exact Kp.refl _ | refine Kp.put ?_ _ (by first | omega | (simp only [h_next_put,h_next_new,h_next_del]; omega)) | refine Kp.del ?_ (by first | omega | (simp only [h_next_put,h_next_new,h_next_del]; omega)) | refine Kp.trans ?_ (Kp.new _ _)))
      have k2:Kp h h2:=k1.trans k12
      have n2:h2.next=h1.next+1:=by rw [← eh2]; rfl
      have g2:h2.get h1.next=some (.cells [.int .i64 o.kind,.slice a2 o.l.length c2 e2] .rw):=by rw [← eh2]; exact h_put_same _ _ _
      have gp2:h2.get p=some (.cells [.slice ar dn.length cr er] .rw):=by rw [k2.2 _ (by omega),gp]
      have w1:wr .i64 (((nx+k:Nat):Int) - (at_:Int))=((nx+k - at_:Nat):Int):=by rw [wr_i64 (by omega)]; omega
      have d1:decide ((1500000:Int) < ((nx+k - at_:Nat):Int))=false:=decide_eq_false (by omega)
      have d2:decide (o.kind=255)=true:=decide_eq_true hk
      obtain ⟨nk,enk⟩:∃ n,nx+k=n:=⟨_,rfl⟩
      rw [enk] at r1 w1 d1
      generalize nk - at_=nd at *
      have hlp:=List.length_pos_iff.2 hdn0
      have d3:decide ((dn.length:Int)=0)=false:=decide_eq_false (by omega)
      obtain ⟨h3,a3,c3,e3,rm,nw3⟩:=marker_go e x (M+2) num dn.length hn (by omega) h2
      have kn3:=nw3.kp.1
      have rb:=bequal_go (E:=E) (X:=X) e.be x.be (M+21) o.l (mkP num dn.length) oko.bl (byt_app (leN_byt _ _) (leN_byt _ _)) a2 a3 c2 c3 e2 e3 h3 (((wb2.kp k12).kp nw3.kp).src) nw3.wb.src
      rw [decide_eq_true heq,mkP_len] at rb
      have g3:h3.get h1.next=some (.cells [.int .i64 o.kind,.slice a2 o.l.length c2 e2] .rw):=by rw [nw3.kp.2 _ (by omega),g2]
      have gp3:h3.get p=some (.cells [.slice ar dn.length cr er] .rw):=by rw [nw3.kp.2 _ (by omega),gp2]
      have vbs:∀ (a:Option (Nat × Nat)) (n:Nat) (c:Option Nat) (e:Nat),(V.slice a n c e).beq (V.slice a n c e)=true:=fun a n c e => by unfold V.beq; simp
      have vb1:=vbs a2 o.l.length c2 e2
      have vb2:=vbs ar dn.length cr er
      obtain ⟨h4,eh4⟩:∃ h4,h3.put p (.cells [.slice ar dn.length cr er] .rw)=h4:=⟨_,rfl⟩
      have row4:RrF (p+1) h4 dn ar cr er:=(row.kp (k2.trans nw3.kp)).mono (by rw [← eh4]; exact Nat.le_refl _) (fun i i1 i2 => by rw [← eh4,h_put_ne _ _ (by omega)])
      obtain ⟨sl,esl⟩:∃ n,s.length=n:=⟨_,rfl⟩
      obtain ⟨ol,eol⟩:∃ n,o.l.length=n:=⟨_,rfl⟩
      obtain ⟨dl,edl⟩:∃ n,dn.length=n:=⟨_,rfl⟩
      rw [esl] at t0 r1
      rw [eol] at r1 eh2 g2 g3 rb vb1
      rw [edl] at gp2 gp3 d3 rm vb2 eh4
      replace rm:callX E X (M+22) (.fn k_segment_marker) [.int .u64 (num:Int),.int .i64 (dl:Int)] h2=_:=rm
      exact ⟨_,h4,by
        simp (config:={maxSteps:=2000000}) (disch:=first | omega | (simp only [List.length_cons,List.length_nil,List.length_append,List.length_drop]; omega)) only [L_segment_groupAt_0,t0,t1,t2,t6,t7,r1,eh2,g2,g3,gp2,gp3,w1,d1,d2,d3,rm,rb,vb1,eh4,↓s_fld,x_fld1,m_storeS,st2i,Bool.not_true,↓s_len,x_lenS,↓x_fieldAddr,x_fieldV,Nat.zero_add,Nat.add_zero,↓s_evD,↓s_dnil,↓s_dL,↓s_dLg,↓s_dR,↓s_dRg,↓s_dRjg,↓s_dBg,↓s_bindD,s_bindD,s_finDx,s_addP0,↓s_bump0,s_ok0,↓s_ok1,s_okR0,↓s_okR1,↓s_okE,s_okE,s_okE1,s_nth0,s_nthS,Nat.add_zero,Bool.and_self,↓h_new_get,↓s_load,m_load,↓m_load1,m_load1,↓m_st,m_stE,m_storeE,w_zero,↓s_alloc,x_lenS,↓s_len,List.length_cons,List.length_nil,List.drop_succ_cons,List.drop_nil,Nat.reduceAdd,↓s_skip,↓s_ops,↓s_dops,↓s_seq,↓s_cond,↓s_block,↓s_ret,↓s_nil,↓s_op,↓s_opg,↓s_wanted',↓s_wantV,s_wantV,↓s_bindS,s_bindS,↓s_bindE,s_bindE,s_norm,↓s_condV,s_condV,s_block_ret,↓s_getp,↓s_getp0,↓s_con,↓s_os0,↓s_os1,↓s_mov,↓s_pick,↓s_pickE,s_pickE,↓s_bin,↓s_un,↓s_call,↓s_ext,s_same,b_eql,b_neq,b_gtr,b_sub,u_not,↓iteN_true,↓iteN_false,iteN_true,iteN_false,Nat.zero_add,List.append_nil,Nat.reduceEqDiff,decide_true,decide_false,Bool.not_true,List.getElem?_cons_zero,List.getElem?_cons_succ,beq_self_eq_true]
        exact rfl,(by (simp only [s_getp,s_getp0,Nat.reduceEqDiff,decide_false,iteN_false,t6]; try rfl)),by rw [enk]; exact (by (simp only [s_getp,Nat.reduceEqDiff,decide_false,decide_true,iteN_false,iteN_true]; try rfl)),(by (simp only [s_getp,decide_true,iteN_true]; try rfl)),⟨ar,cr,er,by rw [edl,← eh4]; exact h_put_same _ _ _,row4⟩,by rw [← eh4]; show p+1≤h3.next; omega,fun i hi => by rw [← eh4,h_put_ne _ _ (by omega),nw3.kp.2 _ (by omega),k2.2 _ (by omega),fr i hi]⟩
theorem ga_loop (e:EnSg E) (x:NoSg X) (M:Nat) (hM:250100 < M) (m:Nat) (s:List Nat) (bs:byt s=true) (hs:s.length≤900000) (a:Option (Nat × Nat)) (c:Option Nat) (ez:Nat) (sb:SB s a c ez) (at_ num p:Nat) (hn:num < 18446744073709551616) (h0:H) (hp:h0.next=p) (src:SrcH h0 a ez s) :
    ∀ (n g:Nat) (dn:List Rq) (nx:Nat) (T:Tr V) (h:H),s.length - nx≤n→n+1 < g→at_≤nx→nx≤s.length→dn.length≤nx→GaI (.slice a s.length c ez) at_ num p dn nx h0 T h →
    ∃ T' h',loopN (evC (callX E X (M+22)) 53 m none L_segment_groupAt_0) g ⟨T,[],h⟩=some (.ret,⟨T',[],h'⟩)∧(match gaV num (n+1) (s.drop nx) dn with
      | none => GaE p [] 0 false h0 T' h'
      | some (gr,j) => GaE p gr (nx+j) true h0 T' h'):=by
  intro n
  induction n with
  | zero =>
    intro g dn nx T h hn' hg hat hnx hdn I
    obtain ⟨g,rfl⟩:∃ k,g=k+1:=⟨g - 1,by omega⟩
    have hd:dcV (s.drop nx)=none:=by unfold dcV; rw [if_pos (by rw [List.length_drop]; omega)]
    obtain ⟨T',h',r,J⟩:=(ga_round e x M hM m s bs hs a c ez sb at_ num p hn h0 hp src dn nx hat hnx hdn T h I).1 hd
    refine ⟨T',h',by rw [l_succ,r]; rfl,?_⟩
    rw [ga_succ,hd]; exact J
  | succ n ih =>
    intro g dn nx T h hn' hg hat hnx hdn I
    obtain ⟨g,rfl⟩:∃ k,g=k+1:=⟨g - 1,by omega⟩
    obtain ⟨q1,q2,q3,q4⟩:=ga_round e x M hM m s bs hs a c ez sb at_ num p hn h0 hp src dn nx hat hnx hdn T h I
    rw [ga_succ]
    cases hd:dcV (s.drop nx) with
    | none =>
      obtain ⟨T',h',r,J⟩:=q1 hd
      exact ⟨T',h',by rw [l_succ,r]; rfl,J⟩
    | some z =>
      obtain ⟨o,k⟩:=z
      obtain ⟨f1,f2,f3,f4,f5⟩:=dc_of _ (byt_drop bs _) o k hd
      rw [List.length_drop] at f5
      simp only
      by_cases hk:o.kind=255
      · rw [if_pos hk]
        by_cases hb:dn=[]∨o.l≠mkP num dn.length
        · rw [if_pos hb]
          obtain ⟨T',h',r,J⟩:=q3 o k hd hk hb
          exact ⟨T',h',by rw [l_succ,r]; rfl,J⟩
        · rw [if_neg hb]
          obtain ⟨T',h',r,J⟩:=q4 o k hd hk hb
          exact ⟨T',h',by rw [l_succ,r]; rfl,J⟩
      · rw [if_neg hk]
        obtain ⟨T1,h1,r,J⟩:=q2 o k hd hk
        obtain ⟨T',h',r2,J2⟩:=ih g (dn++[o]) (nx+k) T1 h1 (by omega) (by omega) (by omega) (by omega) (by rw [List.length_append]; simp; omega) J
        refine ⟨T',h',by rw [l_succ,r,l_normal]; exact r2,?_⟩
        rw [List.drop_drop]
        cases hg:gaV num (n+1) (s.drop (nx+k)) (dn++[o]) with
        | none => rw [hg] at J2; exact J2
        | some w =>
          obtain ⟨gr,j⟩:=w
          rw [hg] at J2
          simp only at J2 ⊢
          rw [← Nat.add_assoc]; exact J2
/-- what groupAt answers -/
def gaR (num:Nat) (s:List Nat) (at_:Nat):List Rq × Nat × Bool:=match gaV num (s.length+1) (s.drop at_) [] with
  | none => ([],0,false)
  | some (g,j) => (g,at_+j,true)
theorem groupAt_go (e:EnSg E) (x:NoSg X) (M:Nat) (hM:1000000 < M) (s:List Nat) (bs:byt s=true) (hs:s.length≤900000) (a:Option (Nat × Nat)) (c:Option Nat) (ez:Nat) (sb:SB s a c ez) (at_ num:Nat) (hat:at_≤s.length) (hn:num < 18446744073709551616) (h:H) (src:SrcH h a ez s) :
    ∃ h' ar cr er,callX E X (M+23) (.fn k_segment_groupAt) [.slice a s.length c ez,.int .i64 (at_:Int),.int .u64 (num:Int)] h=some (.tup [.slice ar (gaR num s at_).1.length cr er,.int .i64 ((gaR num s at_).2.1:Int),.bool (gaR num s at_).2.2],h')∧Kp h h'∧RrF (h.next+1) h' (gaR num s at_).1 ar cr er:=by
  rw [x_cfn e.ga _ _ (Nat.le_of_ble_eq_true rfl) (x.ga _ _)]
  obtain ⟨h1,e1⟩:∃ h1,h.new (.cells [.slice none 0 (some 0) 0] .rw)=h1:=⟨_,rfl⟩
  have k1:Kp h h1:=by rw [← e1]; exact Kp.new _ _
  have n1:h1.next=h.next+1:=by rw [← e1]; rfl
  have g1:h1.get h.next=some (.cells [.slice none 0 (some 0) 0] .rw):=by rw [← e1]; exact h_new_same _ _
  have fin:∀ T,GaI (.slice a s.length c ez) at_ num h.next [] at_ h T h1→∃ h' ar cr er,fnEnd [.cell 6 none,.tmp 7,.tmp 8] (blockE 0 (loopN (evC (callX E X (M+22)) 53 (M+22) none L_segment_groupAt_0) (M+22) ⟨T,[],h1⟩))=some (.tup [.slice ar (gaR num s at_).1.length cr er,.int .i64 ((gaR num s at_).2.1:Int),.bool (gaR num s at_).2.2],h')∧Kp h h'∧RrF (h.next+1) h' (gaR num s at_).1 ar cr er:=by
    intro T I
    obtain ⟨T',h',rr,J⟩:=ga_loop e x M (by omega) (M+22) s bs hs a c ez sb at_ num h.next hn h rfl src s.length (M+22) [] at_ T h1 (by omega) (by omega) (Nat.le_refl _) hat (by simp) I
    rw [rr]
    unfold gaR
    cases hg:gaV num (s.length+1) (s.drop at_) [] with
    | none =>
      rw [hg] at J
      obtain ⟨t6,t7,t8,⟨ar,cr,er,gp,row⟩,nx,fr⟩:=J
      refine ⟨h',ar,cr,er,?_,⟨by omega,fr⟩,row⟩
      simp only
      simp (config:={maxSteps:=2000000}) (disch:=first | omega | (simp only [List.length_cons,List.length_nil,List.length_append,List.length_drop]; omega)) only [t6,t7,t8,gp,m_load,↓m_load1,m_load1,List.length_nil,Int.cast_ofNat_Int,s_resc,s_consR,s_res0,s_block_ret,s_end,s_res0,s_res1,s_tup2,List.getElem?_cons_zero]
      try rfl
    | some w =>
      obtain ⟨gr,j⟩:=w
      rw [hg] at J
      obtain ⟨t6,t7,t8,⟨ar,cr,er,gp,row⟩,nx,fr⟩:=J
      refine ⟨h',ar,cr,er,?_,⟨by omega,fr⟩,row⟩
      simp only
      generalize gr.length=gl at *
      generalize at_+j=aj at *
      simp (config:={maxSteps:=2000000}) (disch:=first | omega | (simp only [List.length_cons,List.length_nil,List.length_append,List.length_drop]; omega)) only [t6,t7,t8,gp,m_load,↓m_load1,m_load1,s_resc,s_consR,s_res0,s_block_ret,s_end,s_res0,s_res1,s_tup2,List.getElem?_cons_zero]
      try rfl
  obtain ⟨Lo,eL⟩:∃ R,L_segment_groupAt_0=R:=⟨_,rfl⟩
  rw [eL] at fin
  have fin':=fun T q0 q1 q2 q6 q7 q9 => fin T ⟨q0,q1,q2,q6,q7,q9,⟨none,some 0,0,g1,.inl ⟨rfl,rfl,rfl,rfl⟩⟩,by omega,fun i hi => k1.2 i hi⟩
  clear fin
  generalize gaR num s at_=GR at *
  generalize s.length=sl at *
  simp (config:={maxSteps:=2000000}) (disch:=first | omega | (simp only [List.length_cons,List.length_nil,List.length_append,List.length_drop]; omega)) only [e1,eL,↓s_mkfn,Nat.zero_add,↓l_loop,↓l_succ,↓s_alloc,Nat.reduceAdd,↓s_skip,↓s_ops,↓s_seq,↓s_block,↓s_scope,↓s_nil,↓s_op,↓s_bindS,s_bindS,↓s_bindE,s_bindE,s_norm,↓s_getp,↓s_get,↓s_con,↓s_os0,↓s_os1,↓s_list0,↓s_list1,↓s_mov,↓iteN_true,↓iteN_false,iteN_true,iteN_false,Nat.zero_add,Nat.reduceEqDiff,decide_true,decide_false]
  exact fin' _ (by (simp only [s_getp,Nat.reduceEqDiff,decide_false,iteN_false]; try rfl)) (by (simp only [s_getp,Nat.reduceEqDiff,decide_false,iteN_false]; try rfl)) (by (simp only [s_getp,Nat.reduceEqDiff,decide_false,iteN_false]; try rfl)) (by (simp only [s_getp,Nat.reduceEqDiff,decide_false,decide_true,iteN_false,iteN_true]; try rfl)) (by (simp only [s_getp,decide_true,iteN_true]; try rfl)) (by (simp only [s_getp,Nat.reduceEqDiff,decide_false,decide_true,iteN_false,iteN_true]; try rfl))
end Go.Eng
