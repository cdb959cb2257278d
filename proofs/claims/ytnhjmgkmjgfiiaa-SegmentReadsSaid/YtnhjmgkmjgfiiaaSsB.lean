/- What functions of the program come to: own work. -/
import Derived.Test.YtnhjmgkmjgfiiaaSsA
namespace Go.Eng
open Go
variable {E:Nat→Option Fn} {X:Orc}
set_option linter.unusedSimpArgs false
set_option linter.unusedVariables false
/-! the sum,as it is worked out: four bits at a time -/
def tab:List Nat:=[0,274646895,549293790,820201905,1098587580,1361435347,1640403810,1905808397,2197175160,2460548119,2722870694,2987750089,3280807620,3553878443,3811616794,4084100981]
def nib (r n:Nat):Nat:=Nat.xor (r / 16) (tab.getD (Nat.xor (r % 16) n) 0)
def stepB (r b:Nat):Nat:=nib (nib r (b % 16)) (b / 16)
def foldB (r:Nat) (l:List Nat):Nat:=l.foldl stepB r
def onV (s:Nat) (l:List Nat):Nat:=nt (foldB (nt s) l)
theorem tab_lt (i:Nat):tab.getD i 0 < 4294967296:=by
  by_cases h:i < 16
  · have:∀ j:Fin 16,tab.getD j.val 0 < 4294967296:=by decide
    exact this ⟨i,h⟩
  · rw [List.getD_eq_getElem?_getD,List.getElem?_eq_none (by show 16≤i; omega)]; decide
theorem nib_lt (r n:Nat) (h:r < 4294967296):nib r n < 4294967296:=Nat.xor_lt_two_pow (n:=32) (by show r / 16 < 4294967296; omega) (tab_lt _)
theorem stepB_lt (r b:Nat) (h:r < 4294967296):stepB r b < 4294967296:=nib_lt _ _ (nib_lt _ _ h)
theorem foldB_lt:∀ (l:List Nat) (r:Nat),r < 4294967296→foldB r l < 4294967296:=by
  intro l
  induction l with
  | nil => intro r h; exact h
  | cons a s ih => intro r h; exact ih _ (stepB_lt _ _ h)
theorem foldB_app (r:Nat) (a b:List Nat):foldB r (a++b)=foldB (foldB r a) b:=List.foldl_append
theorem onV_lt (s:Nat) (l:List Nat):onV s l < 4294967296:=nt_lt _
theorem asK8 (r:Nat) (h:r < 256):asK .u8 r=(r:Int):=by
  unfold asK
  rw [cond_blt,if_pos (by simpa [half] using h)]
  rfl
theorem and15 (n:Nat) (h:n < 256) (e:EqK) (hh:H):binV .and e hh (.int .u8 (n:Int)) (.int .u8 15)=some (.int .u8 ((n % 16:Nat):Int)):=by
  have e1:binV .and e hh (.int .u8 (n:Int)) (.int .u8 15)=some (.int .u8 (asK .u8 (Nat.land (n % 256) 15))):=rfl
  have e2:Nat.land (n % 256) 15=n % 16:=by
    show (n % 256) &&& 15=n % 16
    have:=Nat.and_two_pow_sub_one_eq_mod (n % 256) 4
    rw [show (15:Nat)=2 ^ 4 - 1 from rfl,this]; omega
  rw [e1,e2,asK8 _ (by omega)]
theorem xor8 (a b:Nat) (ha:a < 16) (hb:b < 16) (e:EqK) (hh:H):binV .xor e hh (.int .u8 (a:Int)) (.int .u8 (b:Int))=some (.int .u8 ((Nat.xor a b:Nat):Int)):=by
  have e1:binV .xor e hh (.int .u8 (a:Int)) (.int .u8 (b:Int))=some (.int .u8 (asK .u8 (Nat.xor (a % 256) (b % 256)))):=rfl
  rw [e1,Nat.mod_eq_of_lt (by omega),Nat.mod_eq_of_lt (a:=b) (by omega),asK8 _ (by have:a ^^^ b < 2 ^ 8:=Nat.xor_lt_two_pow (by omega) (by omega); exact this)]
theorem shr8 (n:Nat) (e:EqK) (hh:H):binV .shr e hh (.int .u8 (n:Int)) (.int .u64 4)=some (.int .u8 ((n / 16:Nat):Int)):=rfl
theorem shr32 (n:Nat) (e:EqK) (hh:H):binV .shr e hh (.int .u32 (n:Int)) (.int .u64 4)=some (.int .u32 ((n / 16:Nat):Int)):=rfl
theorem xor32 (a b:Nat) (ha:a < 4294967296) (hb:b < 4294967296) (e:EqK) (hh:H):binV .xor e hh (.int .u32 (a:Int)) (.int .u32 (b:Int))=some (.int .u32 ((Nat.xor a b:Nat):Int)):=by
  rw [b_xor32]; unfold xr; rw [Nat.mod_eq_of_lt ha,Nat.mod_eq_of_lt hb]
theorem x16 (a b:Nat) (ha:a < 16) (hb:b < 16):Nat.xor a b < 16:=Nat.xor_lt_two_pow (n:=4) ha hb
/-- half a byte -/
theorem nib_go (x:∀ l a h,X (.yld l) a h=none) (M a0:Nat) (T0:Tr V) (h5:evO T0 (.t 5)=.ptr (some (a0,0))) (h6:evO T0 (.t 6)=.ptr (some (a0+1,0))) (h:H) (r n:Nat) (hr:r < 4294967296) (hn:n < 16)
    (g0:h.get a0=some (.cells (ofI .u32 tab) .rw)) (g1:h.get (a0+1)=some (.cells [.int .u32 (r:Int)] .rw)) (g4:h.get (a0+4)=some (.loop 0 none 31 T0 [14] A_crc_On_0 B_crc_On_0 (a0+3))) :
    ∃ h',callX E X (M+1) (.yld (a0+4)) [.int .u8 (n:Int)] h=some (.bool true,h')∧h'.get (a0+1)=some (.cells [.int .u32 (nib r n:Nat)] .rw)∧Eqx (a0+1) h h':=by
  have yx:callX E X (M+1) (.yld (a0+4)) [.int .u8 (n:Int)] h=cYld (callX E X M) M (a0+4) [.int .u8 (n:Int)] h:=x_yld (x _ _ _)
  have wr8:wr .u8 (r:Int)=((r % 256:Nat):Int):=w8n _
  have b1:=fun e h => and15 (r % 256) (by omega) e h
  rw [show r % 256 % 16=r % 16 by omega] at b1
  have b2:=fun e h => xor8 (r % 16) n (by omega) hn e h
  have b3:=fun e h => shr32 r e h
  have b4:=fun e h => xor32 (r / 16) (tab.getD (Nat.xor (r % 16) n) 0) (by omega) (tab_lt _) e h
  have en:Nat.xor (r % 16) n < 16:=x16 _ _ (by omega) hn
  have ix:idx ((Nat.xor (r % 16) n:Nat):Int) 16=some (Nat.xor (r % 16) n):=idxn en
  have tg:(ofI .u32 tab)[Nat.xor (r % 16) n]?=some (.int .u32 (tab.getD (Nat.xor (r % 16) n) 0:Nat)):=ofI_get _ _ _ en
  have nb:nib r n=Nat.xor (r / 16) (tab.getD (Nat.xor (r % 16) n) 0):=rfl
  rw [nb]
  generalize Nat.xor (r % 16) n=en' at *
  obtain ⟨TB,eTB⟩:∃ t,ofI .u32 tab=t:=⟨_,rfl⟩
  rw [eTB] at g0 tg
  obtain ⟨tv,etv⟩:∃ t,tab.getD en' 0=t:=⟨_,rfl⟩
  have hz:en'=0→tv=0:=fun h => by rw [← etv,h]; rfl
  rw [etv] at tg b4 ⊢
  obtain ⟨q,eq⟩:∃ t,r / 16=t:=⟨_,rfl⟩
  rw [eq] at b3 b4 ⊢
  have z1:(a0+4=a0+1)=False:=by simp
  have z2:(a0+1=a0+4)=False:=by simp
  have z3:(a0+4=a0)=False:=by simp
  have z4:(a0+1=a0)=False:=by simp
  by_cases hc:en'=0
  · have c0:decide ((en':Int)=0)=true:=decide_eq_true (by omega)
    have hq:Nat.xor q tv=q:=by rw [hz hc]; exact Nat.xor_zero q
    refine ⟨_,by
      rw [yx]
      simp (config:={maxSteps:=2000000}) (disch:=first | omega | (simp only [List.length_cons,List.length_nil,List.length_append,List.length_drop]; omega)) only [h6,g1,g4,wr8,b1,b2,b3,c0,z1,z2,y_cyld,y_ready,y_set1,y_mid,y_busy,y_end,y_done,y_jn,Option.isNone_none,↓u_A_crc_On_0,↓u_B_crc_On_0,↓x_conv,x_convV,Nat.zero_add,↓h_put_get,↓s_load,m_load,↓m_load1,m_load1,↓m_st,m_stE,m_storeI,m_storeE,w_zero,List.length_cons,List.length_nil,List.drop_succ_cons,List.drop_nil,↓s_ops,↓s_seq,↓s_cond,↓s_block,↓s_exit,↓s_nil,↓s_op,↓s_bindS,s_bindS,↓s_bindE,s_bindE,s_bindE_exit,s_norm,↓s_condV,s_condV,s_block_exit,↓s_getp,↓s_getp0,↓s_get,↓s_con,↓s_mov,↓s_bin,s_same,b_eql,↓iteN_true,↓iteN_false,iteN_true,iteN_false,Nat.zero_add,List.append_nil,Nat.reduceEqDiff,decide_true,decide_false,List.getElem?_cons_zero,if_true]
      exact rfl,?_,?_⟩
    · rw [hq]; (simp (disch:=omega) only [h_put_get,decide_true,decide_false,iteN_true,iteN_false,z1]; try rfl)
    · refine ⟨rfl,fun j hj => ?_⟩
      by_cases h4:j=a0+4
      · subst h4; rw [g4]; (simp (disch:=omega) only [h_put_get,decide_true,iteN_true]; try rfl)
      · have y1:(a0+1=j)=False:=by simp; omega
        have y4:(a0+4=j)=False:=by simp; omega
        (simp (disch:=omega) only [h_put_get,decide_false,iteN_false,y1,y4]; try rfl)
  · have c0:decide ((en':Int)=0)=false:=decide_eq_false (by omega)
    refine ⟨_,by
      rw [yx]
      simp (config:={maxSteps:=2000000}) (disch:=first | omega | (simp only [List.length_cons,List.length_nil,List.length_append,List.length_drop]; omega)) only [h5,h6,g0,g1,g4,wr8,b1,b2,b3,b4,ix,tg,c0,z1,z2,z3,z4,y_cyld,y_ready,y_set1,y_mid,y_busy,y_end,y_done,y_jn,Option.isNone_none,↓u_A_crc_On_0,↓u_B_crc_On_0,↓x_conv,x_convV,Nat.zero_add,Nat.mul_one,↓s_evD,↓s_dnil,↓s_dL,↓s_dR,↓s_dB,↓s_bindD,s_bindD,s_finD,s_addP0,↓s_bump0,↓h_put_get,h_next_put,↓s_load,m_load,↓m_load1,m_load1,↓m_st,m_stE,m_storeI,m_storeE,w_zero,↓x_idxA,x_idxAE,x_addrE,List.length_cons,List.length_nil,List.drop_succ_cons,List.drop_nil,↓s_skip,↓s_ops,↓s_dops,↓s_seq,↓s_cond,↓s_block,↓s_nil,↓s_op,↓s_bindS,s_bindS,↓s_bindE,s_bindE,s_norm,↓s_condV,s_condV,s_block_normal,↓s_getp,↓s_getp0,↓s_get,↓s_con,↓s_mov,↓s_bin,s_same,b_eql,↓iteN_true,↓iteN_false,iteN_true,iteN_false,Nat.zero_add,List.append_nil,Nat.reduceEqDiff,decide_true,decide_false,List.getElem?_cons_zero]
      exact rfl,?_,?_⟩
    · (simp (disch:=omega) only [h_put_get,decide_true,decide_false,iteN_true,iteN_false,z1]; try rfl)
    · refine ⟨rfl,fun j hj => ?_⟩
      by_cases h4:j=a0+4
      · subst h4; rw [g4]; (simp (disch:=omega) only [h_put_get,decide_true,iteN_true]; try rfl)
      · have y1:(a0+1=j)=False:=by simp; omega
        have y4:(a0+4=j)=False:=by simp; omega
        (simp (disch:=omega) only [h_put_get,decide_false,iteN_false,y1,y4]; try rfl)
end Go.Eng
namespace Go.Eng
open Go
variable {E:Nat→Option Fn} {X:Orc}
set_option linter.unusedSimpArgs false
set_option linter.unusedVariables false
def SrcA (a0:Nat) (h0:H) (a:Option (Nat × Nat)) (ez:Nat) (l:List Nat):Prop:=l=[]∨∃ bi off vs m,a=some (bi,off)∧ez=1∧bi≠a0+1∧h0.get bi=some (.cells vs m)∧∀ i,i < l.length→vs[off+i]?=some (.int .u8 (l.getD i 0:Nat))
structure HV (a0:Nat) (a:Option (Nat × Nat)) (c:Option Nat) (ez:Nat) (l:List Nat) (r0:Nat) (h0:H) (i:Nat) (T:Tr V) (h:H):Prop where
  il:i≤l.length
  t0:evO T (.t 0)=.yld (a0+4)
  t5:evO T (.t 5)=.slice a l.length c ez
  t6:evO T (.t 6)=.int .i64 (l.length:Int)
  t7:evO T (.t 7)=.int .i64 (i:Int)
  g1:h.get (a0+1)=some (.cells [.int .u32 (foldB r0 (l.take i):Nat)] .rw)
  eq:Eqx (a0+1) h0 h
theorem hv_step (x:∀ l a h,X (.yld l) a h=none) (M n a0:Nat) (T0:Tr V) (h5:evO T0 (.t 5)=.ptr (some (a0,0))) (h6:evO T0 (.t 6)=.ptr (some (a0+1,0))) (a:Option (Nat × Nat)) (c:Option Nat) (ez:Nat) (l:List Nat) (r0:Nat) (hr:r0 < 4294967296) (bl:byt l=true) (hl:l.length < 9223372036854775807) (h0:H)
    (g0:h0.get a0=some (.cells (ofI .u32 tab) .rw)) (g4:h0.get (a0+4)=some (.loop 0 none 31 T0 [14] A_crc_On_0 B_crc_On_0 (a0+3))) (src:SrcA a0 h0 a ez l) :
    ∀ i T h,i < l.length→HV a0 a c ez l r0 h0 i T h→∃ T' h',evC (callX E X (M+1)) 24 n none L_crc_halves_1_0 ⟨T,[],h⟩=some (.normal,⟨T',[],h'⟩)∧HV a0 a c ez l r0 h0 (i+1) T' h':=by
  intro i T h hi ⟨_,t0,t5,t6,t7,g1,eq⟩
  obtain ⟨bi,off,vs,m,rfl,rfl,hb,gb,cg⟩:=src.resolve_left (fun h => by rw [h] at hi; cases hi)
  have c0:decide ((i:Int) < (l.length:Int))=true:=decide_eq_true (by omega)
  have wi:wr .i64 ((i:Int)+1)=((i+1:Nat):Int):=by rw [wr_i64 (by omega)]; omega
  have ix:idx (i:Int) l.length=some i:=idxn hi
  have gb':h.get bi=some (.cells vs m):=by rw [eq.2 _ hb,gb]
  have cg':=cg i hi
  have yl:l.getD i 0 < 256:=by
    rw [List.getD_eq_getElem?_getD,List.getElem?_eq_getElem hi]; exact byt_iff.1 bl _ (List.getElem_mem hi)
  have ts:l.take (i+1)=l.take i++[l.getD i 0]:=by
    rw [List.take_add_one,List.getD_eq_getElem?_getD,List.getElem?_eq_getElem hi]; rfl
  have fo:foldB r0 (l.take (i+1))=stepB (foldB r0 (l.take i)) (l.getD i 0):=by rw [ts,foldB_app]; rfl
  have rl:=foldB_lt (l.take i) r0 hr
  generalize l.getD i 0=y at *
  generalize foldB r0 (l.take i)=r at *
  have b1:=fun e h => and15 y yl e h
  have b2:=fun e h => shr8 y e h
  obtain ⟨h1,r1,k1,q1⟩:=nib_go (E:=E) x M a0 T0 h5 h6 h r (y % 16) rl (by omega) (by rw [eq.2 _ (by omega),g0]) g1 (by rw [eq.2 _ (by omega),g4])
  obtain ⟨h2,r2,k2,q2⟩:=nib_go (E:=E) x M a0 T0 h5 h6 h1 (nib r (y % 16)) (y / 16) (nib_lt _ _ rl) (by omega) (by rw [q1.2 _ (by omega),eq.2 _ (by omega),g0]) k1 (by rw [q1.2 _ (by omega),eq.2 _ (by omega),g4])
  refine ⟨_,_,by
    simp (config:={maxSteps:=2000000}) (disch:=first | omega | (simp only [List.length_cons,List.length_nil,List.length_append,List.length_drop]; omega)) only [L_crc_halves_1_0,t0,t5,t6,t7,gb',cg',c0,wi,ix,b1,b2,r1,r2,s_callVy,Nat.mul_one,↓s_load,m_load,↓m_load1,m_load1,↓x_idxS,x_idxSE,x_addrE,↓s_skip,↓s_ops,↓s_seq,↓s_cond,↓s_block,↓s_nil,↓s_op,↓s_opg,↓s_wanted',↓s_wantV,s_wantV,↓s_bindS,s_bindS,↓s_bindE,s_bindE,s_norm,↓s_condV,s_condV,s_block_normal,↓s_getp,↓s_con,↓s_os0,↓s_os1,↓s_mov,↓s_pick,↓s_pickE,s_pickE,↓s_bin,↓s_un,↓s_callv,s_same,b_lss,b_add,u_not,↓iteN_true,↓iteN_false,iteN_true,iteN_false,Nat.reduceEqDiff,decide_true,decide_false,Bool.not_true,beq_self_eq_true]
    exact rfl,⟨by omega,(by (simp only [s_getp,Nat.reduceEqDiff,decide_false,iteN_false,t0]; try rfl)),(by (simp only [s_getp,Nat.reduceEqDiff,decide_false,iteN_false,t5]; try rfl)),(by (simp only [s_getp,Nat.reduceEqDiff,decide_false,iteN_false,t6]; try rfl)),(by (simp only [s_getp,decide_true,iteN_true]; try rfl)),by rw [k2,fo]; rfl,⟨by rw [q2.1,q1.1,eq.1],fun j hj => by rw [q2.2 _ hj,q1.2 _ hj,eq.2 _ hj]⟩⟩⟩
theorem hv_loop (x:∀ l a h,X (.yld l) a h=none) (M n a0:Nat) (T0:Tr V) (h5:evO T0 (.t 5)=.ptr (some (a0,0))) (h6:evO T0 (.t 6)=.ptr (some (a0+1,0))) (a:Option (Nat × Nat)) (c:Option Nat) (ez:Nat) (l:List Nat) (r0:Nat) (hr:r0 < 4294967296) (bl:byt l=true) (hl:l.length < 9223372036854775807) (hn:l.length < n) (h0:H)
    (g0:h0.get a0=some (.cells (ofI .u32 tab) .rw)) (g4:h0.get (a0+4)=some (.loop 0 none 31 T0 [14] A_crc_On_0 B_crc_On_0 (a0+3))) (src:SrcA a0 h0 a ez l)
    (T:Tr V) (h:H) (I:HV a0 a c ez l r0 h0 0 T h):∃ T' h',loopN (evC (callX E X (M+1)) 24 n none L_crc_halves_1_0) n ⟨T,[],h⟩=some (.exit 0,⟨T',[],h'⟩)∧HV a0 a c ez l r0 h0 l.length T' h' :=
  loop_go (HV a0 a c ez l r0 h0) l.length (.exit 0) (by intro h; cases h) _ (hv_step x M n a0 T0 h5 h6 a c ez l r0 hr bl hl h0 g0 g4 src) (fun T h I => by
    obtain ⟨il,t0,t5,t6,t7,g1,eq⟩:=I
    have c0:decide ((l.length:Int) < (l.length:Int))=false:=decide_eq_false (by omega)
    refine ⟨_,_,by
      simp (config:={maxSteps:=2000000}) (disch:=first | omega | (simp only [List.length_cons,List.length_nil,List.length_append,List.length_drop]; omega)) only [L_crc_halves_1_0,t6,t7,c0,↓s_ops,↓s_seq,↓s_cond,↓s_exit,↓s_nil,↓s_op,↓s_bindS,s_bindS,↓s_bindE,s_bindE,s_bindE_exit,s_norm,↓s_condV,s_condV,↓s_getp,↓s_bin,s_same,b_lss,↓iteN_true,↓iteN_false,iteN_true,iteN_false,decide_true]
      exact rfl,⟨il,(by (simp only [s_getp,Nat.reduceEqDiff,decide_false,iteN_false,t0]; try rfl)),(by (simp only [s_getp,Nat.reduceEqDiff,decide_false,iteN_false,t5]; try rfl)),(by (simp only [s_getp,Nat.reduceEqDiff,decide_false,iteN_false,t6]; try rfl)),(by (simp only [s_getp,Nat.reduceEqDiff,decide_false,iteN_false,t7]; try rfl)),g1,eq⟩⟩) l.length 0 (by omega) n hn T h I
theorem z16e:ofI .u32 (List.replicate 16 0)=[.int .u32 0,.int .u32 0,.int .u32 0,.int .u32 0,.int .u32 0,.int .u32 0,.int .u32 0,.int .u32 0,.int .u32 0,.int .u32 0,.int .u32 0,.int .u32 0,.int .u32 0,.int .u32 0,.int .u32 0,.int .u32 0]:=rfl
theorem put16 (l:List Nat) (hl:l.length=16):(∀ (h:H) (i:Nat),storeV h 16 (.ptr (some (i,0))) (.agg (ofI .u32 l))=storeE (h.get i) h i 0 (ofI .u32 l)) ∧
    (∀ (h:H) (i:Nat),storeE (some (.cells (ofI .u32 (List.replicate 16 0)) .rw)) h i 0 (ofI .u32 l)=some (h.put i (.cells (ofI .u32 l) .rw))):=by
  have h32:(ofI .u32 l).length=16:=by rw [ofI_len,hl]
  exact ⟨fun h i => m_storeA h 16 i 0 _ (by rw [h32,plain_ofI]; rfl),fun h i => by rw [m_storeE _ _ _ _ _ (by rw [h32,ofI_len,List.length_replicate]; omega),writeN_all _ _ (by rw [h32,ofI_len,List.length_replicate])]⟩
structure EnCrc (E:Nat→Option Fn):Prop where
  on:E k_crc_On=some f_crc_On
  hal:E k_crc_halves=some f_crc_halves
  hal1:E k_crc_halves_1=some f_crc_halves_1
  sum:E k_crc_Sum=some f_crc_Sum
structure NoCrc (X:Orc):Prop where
  on:∀ a h,X (.fn k_crc_On) a h=none
  hal:∀ a h,X (.fn k_crc_halves) a h=none
  hal1:∀ a h,X (.fn k_crc_halves_1) a h=none
  sum:∀ a h,X (.fn k_crc_Sum) a h=none
  yld:∀ l a h,X (.yld l) a h=none
  steps:∀ h,X (.fn k_crc_steps) [] h=some (.agg (ofI .u32 tab),h)
theorem halves_go (e:EnCrc E) (x:NoCrc X) (N:Nat) (v:V) (hv:v.cells=[v]) (h:H) :
    callX E X (N+1) (.fn k_crc_halves) [v] h=some (.fn k_crc_halves_1 [] [.ptr (some (h.next,0))],h.new (.cells [v] .rw)):=by
  rw [x_cfn e.hal _ _ (Nat.le_of_ble_eq_true rfl) (x.hal _ _)]
  simp (config:={maxSteps:=2000000}) (disch:=first | omega | (simp only [List.length_cons,List.length_nil,List.length_append,List.length_drop]; omega)) only [hv,↓s_box,↓s_mkfn,s_res0,↓s_ops,↓s_seq,↓s_ret,↓s_nil,↓s_op,↓s_bindS,s_bindS,↓s_bindE,s_bindE,s_norm,↓s_getp,↓s_get,↓s_con,↓s_os0,↓s_os1,↓s_list0,↓s_list1,↓s_mov,s_end,s_res0,s_res1,s_tup1,↓iteN_true,↓iteN_false,iteN_true,iteN_false,Nat.reduceEqDiff,decide_true,decide_false]
theorem halves1_go (e:EnCrc E) (x:NoCrc X) (M a0:Nat) (T0:Tr V) (h5:evO T0 (.t 5)=.ptr (some (a0,0))) (h6:evO T0 (.t 6)=.ptr (some (a0+1,0))) (a:Option (Nat × Nat)) (c:Option Nat) (ez:Nat) (l:List Nat) (r0:Nat) (hr:r0 < 4294967296) (bl:byt l=true) (hl:l.length < 9223372036854775807) (hM:l.length < M) (h0:H)
    (g0:h0.get a0=some (.cells (ofI .u32 tab) .rw)) (g1:h0.get (a0+1)=some (.cells [.int .u32 (r0:Int)] .rw)) (g2:h0.get (a0+2)=some (.cells [.slice a l.length c ez] .rw)) (g4:h0.get (a0+4)=some (.loop 0 none 31 T0 [14] A_crc_On_0 B_crc_On_0 (a0+3))) (src:SrcA a0 h0 a ez l) :
    ∃ h',callX E X (M+9) (.fn k_crc_halves_1) [.yld (a0+4),.ptr (some (a0+2,0))] h0=some (.tup [],h')∧h'.get (a0+1)=some (.cells [.int .u32 (foldB r0 l:Nat)] .rw)∧Eqx (a0+1) h0 h':=by
  rw [x_cfn e.hal1 _ _ (Nat.le_of_ble_eq_true rfl) (x.hal1 _ _)]
  have fin:∀ T,HV a0 a c ez l r0 h0 0 T h0→∃ h',fnEnd [] (blockE 0 (loopN (evC (callX E X (M+8)) 24 (M+8) none L_crc_halves_1_0) (M+8) ⟨T,[],h0⟩))=some (.tup [],h')∧h'.get (a0+1)=some (.cells [.int .u32 (foldB r0 l:Nat)] .rw)∧Eqx (a0+1) h0 h':=by
    intro T I
    obtain ⟨T',h',r,il,t0,t5,t6,t7,g1,eq⟩:=hv_loop x.yld (M+7) (M+8) a0 T0 h5 h6 a c ez l r0 hr bl hl (by omega) h0 g0 g4 src T h0 I
    rw [r]
    rw [List.take_length] at g1
    exact ⟨h',rfl,g1,eq⟩
  obtain ⟨Lo,eL⟩:∃ R,L_crc_halves_1_0=R:=⟨_,rfl⟩
  rw [eL] at fin ⊢
  simp (config:={maxSteps:=2000000}) (disch:=first | omega | (simp only [List.length_cons,List.length_nil,List.length_append,List.length_drop]; omega)) only [g2,↓s_len,x_lenS,Nat.zero_add,↓l_loop,↓l_succ,↓s_load,m_load,↓m_load1,m_load1,x_lenS,↓s_len,↓s_ops,↓s_seq,↓s_block,↓s_nil,↓s_op,↓s_bindS,s_bindS,↓s_bindE,s_bindE,s_norm,↓s_getp,↓s_get,↓s_con,↓s_list0,↓s_list1,↓s_mov,s_same,↓iteN_true,iteN_true,Nat.zero_add,decide_true,List.getElem?_cons_zero]
  exact fin _ ⟨by omega,(by (simp only [s_getp,Nat.reduceEqDiff,decide_false,iteN_false]; try rfl)),(by (simp only [s_getp,Nat.reduceEqDiff,decide_false,decide_true,iteN_false,iteN_true]; try rfl)),(by (simp only [s_getp,Nat.reduceEqDiff,decide_false,decide_true,iteN_false,iteN_true]; try rfl)),(by (simp only [s_getp,decide_true,iteN_true]; try rfl)),g1,Eqx.refl _ _⟩
theorem on_go (e:EnCrc E) (x:NoCrc X) (M s:Nat) (hs:s < 4294967296) (l:List Nat) (bl:byt l=true) (hM:l.length < M) (hM2:l.length < 9223372036854775807) (a:Option (Nat × Nat)) (c:Option Nat) (ez:Nat) (h:H) (src:SrcH h a ez l) :
    ∃ h',callX E X (M+10) (.fn k_crc_On) [.int .u32 (s:Int),.slice a l.length c ez] h=some (.int .u32 (onV s l:Nat),h')∧Kp h h':=by
  rw [x_cfn e.on _ _ (Nat.le_of_ble_eq_true rfl) (x.on _ _)]
  have st:=fun h => x_known (E:=E) (n:=M+8) (x.steps h)
  have hg:=fun h => halves_go e x (M+8) (.slice a l.length c ez) rfl h
  obtain ⟨p1,p2⟩:=put16 tab rfl
  obtain ⟨hA,eA⟩:∃ hA,((((h.new (.cells (ofI .u32 (List.replicate 16 0)) .rw)).put h.next (.cells (ofI .u32 tab) .rw)).new (.cells [.int .u32 0] .rw)).put (h.next+1) (.cells [.int .u32 (nt s:Nat)] .rw)).new (.cells [.slice a l.length c ez] .rw)=hA:=⟨_,rfl⟩
  have nA:hA.next=h.next+3:=by rw [← eA]; rfl
  have gA0:hA.get h.next=some (.cells (ofI .u32 tab) .rw):=by rw [← eA]; (simp (disch:=omega) only [h_put_get,h_new_get,h_next_put,h_next_new,Nat.add_assoc,Nat.add_eq_left,Nat.reduceAdd,decide_true,decide_false,iteN_true,iteN_false,Nat.reduceAdd,reduceCtorEq,]; try rfl)
  have gA1:hA.get (h.next+1)=some (.cells [.int .u32 (nt s:Nat)] .rw):=by rw [← eA]; (simp (disch:=omega) only [h_put_get,h_new_get,h_next_put,h_next_new,Nat.add_assoc,Nat.add_left_cancel_iff,Nat.reduceAdd,decide_true,decide_false,iteN_true,iteN_false,Nat.reduceEqDiff,Nat.reduceAdd,]; try rfl)
  have gA2:hA.get (h.next+2)=some (.cells [.slice a l.length c ez] .rw):=by rw [← eA]; (simp (disch:=omega) only [h_new_get,h_next_put,h_next_new,Nat.add_assoc,Nat.reduceAdd,decide_true,iteN_true,Nat.reduceAdd,]; try rfl)
  have kA:Kp h hA:=by rw [← eA]; (repeat (first | exact Kp.refl _ | refine Kp.put ?_ _ (by first | omega | (simp only [h_next_put,h_next_new,h_next_del]; omega)) | refine Kp.del ?_ (by first | omega | (simp only [h_next_put,h_next_new,h_next_del]; omega)) | refine Kp.trans ?_ (Kp.new _ _)))
  have fin:∀ T0,evO T0 (.t 5)=.ptr (some (h.next,0))→evO T0 (.t 6)=.ptr (some (h.next+1,0))→∃ h',fnEnd [.tmp 4] (bindE (blockE 0 (rangeEnd (h.next+4) T0 [h.next+3] (callF (callX E X (M+9)) (.yld (h.next+4)) (.fn k_crc_halves_1 [] [.ptr (some (h.next+2,0))]) ((hA.new .defers).new (.loop 0 none 31 T0 [14] A_crc_On_0 B_crc_On_0 (h.next+3)))))) (evC (callX E X (M+9)) 31 (M+9) none R_crc_On_0))=some (.int .u32 (onV s l:Nat),h')∧Kp h h':=by
    intro T0 t5 t6
    obtain ⟨hB,eB⟩:∃ hB,(hA.new .defers).new (.loop 0 none 31 T0 [14] A_crc_On_0 B_crc_On_0 (h.next+3))=hB:=⟨_,rfl⟩
    have nB:hB.next=h.next+5:=by rw [← eB]; simp only [h_next_new,nA]
    have kB:Kp hA hB:=by rw [← eB]; exact (Kp.new _ _).trans (Kp.new _ _)
    have gB3:hB.get (h.next+3)=some .defers:=by rw [← eB,h_new_ne _ _ (by rw [h_next_new,nA]; omega)]; exact h_new_same' _ _ nA
    have gB4:hB.get (h.next+4)=some (.loop 0 none 31 T0 [14] A_crc_On_0 B_crc_On_0 (h.next+3)):=by rw [← eB]; exact h_new_same' _ _ (by rw [h_next_new,nA])
    have gB0:hB.get h.next=some (.cells (ofI .u32 tab) .rw):=by rw [kB.2 _ (by omega),gA0]
    have gB1:hB.get (h.next+1)=some (.cells [.int .u32 (nt s:Nat)] .rw):=by rw [kB.2 _ (by omega),gA1]
    have gB2:hB.get (h.next+2)=some (.cells [.slice a l.length c ez] .rw):=by rw [kB.2 _ (by omega),gA2]
    have sB:SrcA h.next hB a ez l:=by
      rcases src with h0 | ⟨bi,off,vs,m,h1,h2,h3,h4,h5,h6⟩
      · exact .inl h0
      · refine .inr ⟨bi,off,vs,m,h1,h2,by omega,by rw [kB.2 _ (by omega),kA.2 _ h3,h4],fun i hi => ?_⟩
        have:((vs.drop off).take l.length)[i]?=(ofI .u8 l)[i]?:=by rw [h6]
        rw [List.getElem?_take_of_lt hi,List.getElem?_drop,ofI_get _ _ _ hi] at this
        exact this
    obtain ⟨hC,r,gC,eC⟩:=halves1_go e x M h.next T0 t5 t6 a c ez l (nt s) (nt_lt s) bl hM2 hM hB gB0 gB1 gB2 gB4 sB
    have gC3:hC.get (h.next+3)=some .defers:=by rw [eC.2 _ (by omega),gB3]
    have gC4:hC.get (h.next+4)=some (.loop 0 none 31 T0 [14] A_crc_On_0 B_crc_On_0 (h.next+3)):=by rw [eC.2 _ (by omega),gB4]
    have z1:(h.next+4=h.next+1)=False:=by simp
    have z2:(h.next+4=h.next+3)=False:=by simp
    have z3:(h.next+3=h.next+1)=False:=by simp
    rw [eB]
    simp (config:={maxSteps:=2000000}) (disch:=first | omega | (simp only [List.length_cons,List.length_nil,List.length_append,List.length_drop]; omega)) only [s_callF,List.nil_append,List.cons_append,r,t6,gC,gC3,gC4,z1,z2,R_crc_On_0,r_end,r_0,r_jn,e_ret,d_cons,d_yes,d_nil,e_some,↓u_not32,u_not32,↓h_del_get,↓s_load,m_load,↓m_load1,m_load1,List.cons_append,List.nil_append,s_res0,↓s_ops,↓s_seq,↓s_ret,↓s_nil,↓s_op,↓s_bindS,s_bindS,↓s_bindE,s_bindE,s_norm,s_block_normal,↓s_getp,↓s_mov,↓s_un,s_same,s_res0,s_res1,s_tup1,↓iteN_true,↓iteN_false,iteN_true,iteN_false,List.nil_append,decide_true,decide_false,List.getElem?_cons_zero]
    refine ⟨_,rfl,⟨by simp only [h_next_del]; rw [eC.1,nB]; omega,fun i hi => ?_⟩⟩
    rw [h_del_ne _ (by omega),h_del_ne _ (by omega),eC.2 _ (by omega),kB.2 _ (by omega),kA.2 _ hi]
  obtain ⟨R,eR⟩:∃ R,R_crc_On_0=R:=⟨_,rfl⟩
  obtain ⟨TB,eTB⟩:∃ R,ofI .u32 tab=R:=⟨_,rfl⟩
  rw [eTB] at p1 p2 st eA
  rw [eR] at fin ⊢
  simp (config:={maxSteps:=2000000}) (disch:=first | omega | (simp only [List.length_cons,List.length_nil,List.length_append,List.length_drop]; omega)) only [st,hg,p1,p2,← z16e,eA,nA,↓s_range,↓u_not32,u_not32,Nat.zero_add,↓h_new_get,h_next_put,h_next_new,Nat.add_assoc,↓m_st,m_stE,m_storeI,m_storeE,w_zero,↓s_alloc,List.length_cons,List.length_nil,List.drop_succ_cons,List.drop_nil,Nat.reduceAdd,↓s_skip,↓s_ops,↓s_seq,↓s_block,↓s_scope,↓s_nil,↓s_op,↓s_bindS,s_bindS,↓s_bindE,s_bindE,s_norm,↓s_getp,↓s_getp0,↓s_get,↓s_con,↓s_os0,↓s_os1,↓s_list0,↓s_list1,↓s_mov,↓s_un,↓s_call,s_same,↓iteN_true,↓iteN_false,iteN_true,iteN_false,Nat.zero_add,List.append_nil,Nat.reduceEqDiff,decide_true,decide_false]
  exact fin _ (by (simp only [s_getp,s_getp0,Nat.reduceEqDiff,decide_false,decide_true,iteN_false,iteN_true]; try rfl)) (by (simp only [s_getp,s_getp0,Nat.reduceEqDiff,decide_false,decide_true,iteN_false,iteN_true]; try rfl))
end Go.Eng
namespace Go.Eng
open Go
variable {E:Nat→Option Fn} {X:Orc}
set_option linter.unusedSimpArgs false
set_option linter.unusedVariables false
def sumV (s:Nat) (ps:List Pt):Nat:=ps.foldl (fun s q => onV s q.2.2.2) s
theorem sumV_lt:∀ (ps:List Pt) (s:Nat),s < 4294967296→sumV s ps < 4294967296:=by
  intro ps
  induction ps with
  | nil => intro s h; exact h
  | cons a r ih => intro s h; exact ih _ (onV_lt _ _)
theorem sumV_app (s:Nat) (a b:List Pt):sumV s (a++b)=sumV (sumV s a) b:=List.foldl_append
def PtsOk (h:H) (M:Nat) (ps:List Pt):Prop:=∀ q ∈ ps,SrcH h q.1 q.2.2.1 q.2.2.2∧byt q.2.2.2=true∧q.2.2.2.length < M∧q.2.2.2.length < 9223372036854775807
theorem PtsOk.mono {h h':H} {M:Nat} {ps:List Pt} (o:PtsOk h M ps) (k:Kp h h'):PtsOk h' M ps:=fun q hq => ⟨(o q hq).1.mono k,(o q hq).2⟩
structure SV (p:Nat) (ps:List Pt) (h0:H) (i:Nat) (T:Tr V) (h:H):Prop where
  il:i≤ps.length
  t3:evO T (.t 3)=.int .u32 (sumV 0 (ps.take i):Nat)
  t6:∃ c,evO T (.t 6)=.slice (some (p,0)) ps.length c 1
  t7:evO T (.t 7)=.int .i64 (ps.length:Int)
  t8:evO T (.t 8)=.int .i64 (i:Int)
  kp:Kp h0 h
theorem sv_step (e:EnCrc E) (x:NoCrc X) (M n p:Nat) (ps:List Pt) (hl:ps.length < 9223372036854775807) (md:Md) (h0:H) (hp:p < h0.next) (gp:h0.get p=some (.cells (ps.map slOf) md)) (ok:PtsOk h0 (M+1) ps) :
    ∀ i T h,i < ps.length→SV p ps h0 i T h→∃ T' h',evC (callX E X (M+11)) 17 n none L_crc_Sum_0 ⟨T,[],h⟩=some (.normal,⟨T',[],h'⟩)∧SV p ps h0 (i+1) T' h':=by
  intro i T h hi ⟨_,t3,⟨c,t6⟩,t7,t8,kp⟩
  have c0:decide ((i:Int) < (ps.length:Int))=true:=decide_eq_true (by omega)
  have wi:wr .i64 ((i:Int)+1)=((i+1:Nat):Int):=by rw [wr_i64 (by omega)]; omega
  have ix:idx (i:Int) ps.length=some i:=idxn hi
  have gp':h.get p=some (.cells (ps.map slOf) md):=by rw [kp.2 _ hp,gp]
  obtain ⟨q,eq⟩:∃ q,ps[i]=q:=⟨_,rfl⟩
  have cg:(ps.map slOf)[0+i]?=some (.slice q.1 q.2.2.2.length q.2.1 q.2.2.1):=by rw [Nat.zero_add,List.getElem?_map,List.getElem?_eq_getElem hi,eq]; rfl
  rw [Nat.zero_add] at cg
  obtain ⟨o1,o2,o3,o4⟩:=ok q (by rw [← eq]; exact List.getElem_mem hi)
  have hs:=sumV_lt (ps.take i) 0 (by omega)
  obtain ⟨h1,r1,k1⟩:=on_go e x (M+1) (sumV 0 (ps.take i)) hs q.2.2.2 o2 o3 o4 q.1 q.2.1 q.2.2.1 h (o1.mono kp)
  have fo:sumV 0 (ps.take (i+1))=onV (sumV 0 (ps.take i)) q.2.2.2:=by
    rw [List.take_add_one,List.getElem?_eq_getElem hi,eq,sumV_app]; rfl
  rw [show M+1+10=M+11 from rfl] at r1
  generalize sumV 0 (ps.take i)=s at *
  obtain ⟨C,eC⟩:∃ C,ps.map slOf=C:=⟨_,rfl⟩
  rw [eC] at gp' cg
  refine ⟨_,_,by
    simp (config:={maxSteps:=2000000}) (disch:=first | omega | (simp only [List.length_cons,List.length_nil,List.length_append,List.length_drop]; omega)) only [L_crc_Sum_0,t3,t6,t7,t8,gp',cg,c0,wi,ix,r1,Nat.zero_add,Nat.mul_one,↓s_load,m_load,↓m_load1,m_load1,↓x_idxS,x_idxSE,x_addrE,↓s_skip,↓s_ops,↓s_seq,↓s_cond,↓s_block,↓s_nil,↓s_op,↓s_bindS,s_bindS,↓s_bindE,s_bindE,s_norm,↓s_condV,s_condV,s_block_normal,↓s_getp,↓s_con,↓s_os0,↓s_os1,↓s_mov,↓s_bin,↓s_call,s_same,b_lss,b_add,↓iteN_true,↓iteN_false,iteN_true,iteN_false,Nat.zero_add,Nat.reduceEqDiff,decide_true,decide_false]
    exact rfl,⟨by omega,by rw [fo]; exact (by (simp only [s_getp,Nat.reduceEqDiff,decide_false,decide_true,iteN_false,iteN_true]; try rfl)),⟨c,(by (simp only [s_getp,Nat.reduceEqDiff,decide_false,iteN_false,t6]; try rfl))⟩,(by (simp only [s_getp,Nat.reduceEqDiff,decide_false,iteN_false,t7]; try rfl)),(by (simp only [s_getp,decide_true,iteN_true]; try rfl)),kp.trans k1⟩⟩
theorem sv_loop (e:EnCrc E) (x:NoCrc X) (M n p:Nat) (ps:List Pt) (hl:ps.length < 9223372036854775807) (hn:ps.length < n) (md:Md) (h0:H) (hp:p < h0.next) (gp:h0.get p=some (.cells (ps.map slOf) md)) (ok:PtsOk h0 (M+1) ps)
    (T:Tr V) (h:H) (I:SV p ps h0 0 T h):∃ T' h',loopN (evC (callX E X (M+11)) 17 n none L_crc_Sum_0) n ⟨T,[],h⟩=some (.exit 0,⟨T',[],h'⟩)∧SV p ps h0 ps.length T' h' :=
  loop_go (SV p ps h0) ps.length (.exit 0) (by intro h; cases h) _ (sv_step e x M n p ps hl md h0 hp gp ok) (fun T h I => by
    obtain ⟨il,t3,⟨c,t6⟩,t7,t8,kp⟩:=I
    have c0:decide ((ps.length:Int) < (ps.length:Int))=false:=decide_eq_false (by omega)
    refine ⟨_,_,by
      simp (config:={maxSteps:=2000000}) (disch:=first | omega | (simp only [List.length_cons,List.length_nil,List.length_append,List.length_drop]; omega)) only [L_crc_Sum_0,t7,t8,c0,↓s_ops,↓s_seq,↓s_cond,↓s_exit,↓s_nil,↓s_op,↓s_bindS,s_bindS,↓s_bindE,s_bindE,s_bindE_exit,s_norm,↓s_condV,s_condV,↓s_getp,↓s_bin,s_same,b_lss,↓iteN_true,↓iteN_false,iteN_true,iteN_false,decide_true]
      exact rfl,⟨il,(by (simp only [s_getp,Nat.reduceEqDiff,decide_false,iteN_false,t3]; try rfl)),⟨c,(by (simp only [s_getp,Nat.reduceEqDiff,decide_false,iteN_false,t6]; try rfl))⟩,(by (simp only [s_getp,Nat.reduceEqDiff,decide_false,iteN_false,t7]; try rfl)),(by (simp only [s_getp,Nat.reduceEqDiff,decide_false,iteN_false,t8]; try rfl)),kp⟩⟩) ps.length 0 (by omega) n hn T h I
theorem sum_go (e:EnCrc E) (x:NoCrc X) (M p:Nat) (ps:List Pt) (c:Option Nat) (hl:ps.length < M) (hl2:ps.length < 9223372036854775807) (md:Md) (h:H) (hp:p < h.next) (gp:h.get p=some (.cells (ps.map slOf) md)) (ok:PtsOk h (M+1) ps) :
    ∃ h',callX E X (M+12) (.fn k_crc_Sum) [.slice (some (p,0)) ps.length c 1] h=some (.int .u32 (sumV 0 ps:Nat),h')∧Kp h h':=by
  rw [x_cfn e.sum _ _ (Nat.le_of_ble_eq_true rfl) (x.sum _ _)]
  have fin:∀ T,SV p ps h 0 T h→∃ h',fnEnd [.tmp 2] (bindE (blockE 0 (loopN (evC (callX E X (M+11)) 17 (M+11) none L_crc_Sum_0) (M+11) ⟨T,[],h⟩)) (evC (callX E X (M+11)) 17 (M+11) none R_crc_Sum_0))=some (.int .u32 (sumV 0 ps:Nat),h')∧Kp h h':=by
    intro T I
    obtain ⟨T',h1,r,il,t3,t6,t7,t8,kp⟩:=sv_loop e x M (M+11) p ps hl2 (by omega) md h hp gp ok T h I
    rw [r]
    rw [List.take_length] at t3
    simp (config:={maxSteps:=2000000}) (disch:=first | omega | (simp only [List.length_cons,List.length_nil,List.length_append,List.length_drop]; omega)) only [R_crc_Sum_0,t3,s_res0,↓s_ops,↓s_seq,↓s_ret,↓s_nil,↓s_op,↓s_bindS,s_bindS,↓s_bindE,s_bindE,s_norm,s_block_exit,↓s_getp,↓s_mov,s_end,s_res0,s_res1,s_tup1,↓iteN_true,iteN_true,decide_true,if_true]
    exact ⟨_,rfl,kp⟩
  obtain ⟨R,eR⟩:∃ R,R_crc_Sum_0=R:=⟨_,rfl⟩
  obtain ⟨Lo,eL⟩:∃ R,L_crc_Sum_0=R:=⟨_,rfl⟩
  rw [eR,eL] at fin ⊢
  simp (config:={maxSteps:=2000000}) (disch:=first | omega | (simp only [List.length_cons,List.length_nil,List.length_append,List.length_drop]; omega)) only [↓s_len,x_lenS,↓l_loop,↓l_succ,x_lenS,↓s_len,↓s_ops,↓s_seq,↓s_block,↓s_nil,↓s_op,↓s_bindS,s_bindS,↓s_bindE,s_bindE,s_norm,↓s_getp,↓s_get,↓s_con,↓s_list0,↓s_list1,↓s_mov,s_same,↓iteN_true,↓iteN_false,iteN_true,iteN_false,Nat.reduceEqDiff,decide_true,decide_false]
  exact fin _ ⟨by omega,(by (simp only [s_getp,Nat.reduceEqDiff,decide_false,decide_true,iteN_false,iteN_true]; try rfl)),⟨c,(by (simp only [s_getp,Nat.reduceEqDiff,decide_false,decide_true,iteN_false,iteN_true]; try rfl))⟩,(by (simp only [s_getp,Nat.reduceEqDiff,decide_false,decide_true,iteN_false,iteN_true]; try rfl)),(by (simp only [s_getp,decide_true,iteN_true]; try rfl)),Kp.refl _⟩
end Go.Eng
namespace Go.Eng
open Go
set_option linter.unusedSimpArgs false
set_option linter.unusedVariables false
theorem xdiv (a b:Nat):(a ^^^ b) / 16=(a / 16) ^^^ (b / 16):=by
  apply Nat.eq_of_testBit_eq; intro i
  rw [show (16:Nat)=2 ^ 4 from rfl]
  simp only [Nat.testBit_xor,Nat.testBit_div_two_pow]
theorem xmod (a b:Nat):(a ^^^ b) % 16=(a % 16) ^^^ (b % 16):=by
  apply Nat.eq_of_testBit_eq; intro i
  rw [show (16:Nat)=2 ^ 4 from rfl]
  simp only [Nat.testBit_xor,Nat.testBit_mod_two_pow]
  cases decide (i < 4) <;> simp
theorem bytD {l:List Nat} (h:byt l=true) (i:Nat):l.getD i 0 < 256:=by
  rw [List.getD_eq_getElem?_getD]
  by_cases hi:i < l.length
  · rw [List.getElem?_eq_getElem hi]; exact byt_iff.1 h _ (List.getElem_mem hi)
  · rw [List.getElem?_eq_none (by omega)]; decide
theorem take_D (l:List Nat) (i:Nat) (h:i < l.length):l.take (i+1)=l.take i++[l.getD i 0]:=by
  rw [List.take_add_one,List.getD_eq_getElem?_getD,List.getElem?_eq_getElem h]; rfl
end Go.Eng
namespace Go.Eng
open Go
variable {E:Nat→Option Fn} {X:Orc} {N:Nat}
set_option linter.unusedSimpArgs false
set_option linter.unusedVariables false
/-- what the laws of crc know -/
def stepsS:List V→Option V
  | [] => some (.agg (ofI .u32 tab))
  | _ => none
end Go.Eng
namespace Go.Eng
open Go
set_option linter.unusedSimpArgs false
set_option linter.unusedVariables false
/-! bits turned about -/
def ouN (n:Nat):Nat→Nat
  | 0 => 0
  | i+1 => 2 * ouN n i+n / 2 ^ i % 2
def rev (n:Nat):Nat:=ouN n 32
theorem ouN_lt (n:Nat):∀ i,ouN n i < 2 ^ i:=by
  intro i
  induction i with
  | zero => exact Nat.one_pos
  | succ i ih =>
    show 2 * ouN n i+n / 2 ^ i % 2 < 2 ^ (i+1)
    rw [Nat.pow_succ]; omega
theorem rev_lt (n:Nat):rev n < 4294967296:=ouN_lt n 32
theorem ouN_bit (n:Nat):∀ i j,(ouN n i).testBit j=(decide (j < i) && n.testBit (i - 1 - j)):=by
  intro i
  induction i with
  | zero => intro j; show (0:Nat).testBit j=_; rw [Nat.zero_testBit]; simp
  | succ i ih =>
    intro j
    show (2 * ouN n i+n / 2 ^ i % 2).testBit j=_
    cases j with
    | zero =>
      rw [Nat.testBit_zero,Nat.testBit_eq_decide_div_mod_eq]
      simp only [Nat.sub_zero,Nat.add_sub_cancel,Nat.zero_lt_succ,decide_true,Bool.true_and]
      congr 1
      rw [show (2 * ouN n i+n / 2 ^ i % 2) % 2=n / 2 ^ i % 2 by omega]
    | succ j =>
      rw [Nat.testBit_succ,show (2 * ouN n i+n / 2 ^ i % 2) / 2=ouN n i by omega,ih j]
      rw [show i+1 - 1 - (j+1)=i - 1 - j by omega]
      congr 1
      rw [decide_eq_decide]; omega
theorem rev_bit (n j:Nat):(rev n).testBit j=(decide (j < 32) && n.testBit (31 - j)):=ouN_bit n 32 j
theorem high0 (n i:Nat) (h:n < 4294967296) (hi:32≤i):n.testBit i=false:=Nat.testBit_lt_two_pow (show n < 2 ^ i from Nat.lt_of_lt_of_le h (Nat.pow_le_pow_right (n:=2) (i:=32) (j:=i) (by omega) (by omega)))
theorem rev_rev (n:Nat) (h:n < 4294967296):rev (rev n)=n:=by
  apply Nat.eq_of_testBit_eq; intro i
  rw [rev_bit,rev_bit]
  by_cases hi:i < 32
  · rw [decide_eq_true hi,decide_eq_true (by omega),show 31 - (31 - i)=i by omega]; rfl
  · rw [decide_eq_false hi,high0 n i h (by omega)]; rfl
def cP (x:Nat):Nat:=if x=1 then 2197175160 else 0
def stp (r b:Nat):Nat:=(r / 2) ^^^ cP ((r+b) % 2)
theorem cP_lt (x:Nat):cP x < 4294967296:=by unfold cP; split <;> omega
theorem stp_lt (r b:Nat) (h:r < 4294967296):stp r b < 4294967296:=Nat.xor_lt_two_pow (n:=32) (by show r / 2 < 4294967296; omega) (cP_lt _)
theorem xdiv2 (a b:Nat):(a ^^^ b) / 2=(a / 2) ^^^ (b / 2):=by
  apply Nat.eq_of_testBit_eq; intro i
  rw [← Nat.testBit_succ,Nat.testBit_xor,Nat.testBit_xor,← Nat.testBit_succ,← Nat.testBit_succ]
theorem xmod2 (a b:Nat) (ha:a % 2=0):(a ^^^ b) % 2=b % 2:=by
  have e:=Nat.testBit_xor a b 0
  rw [Nat.testBit_zero,Nat.testBit_zero,Nat.testBit_zero,ha,show decide ((0:Nat)=1)=false from rfl,Bool.false_xor,decide_eq_decide] at e
  omega
theorem st_even (a x b:Nat) (ha:a % 2=0):stp (a ^^^ x) b=(a / 2) ^^^ stp x b:=by
  unfold stp
  have hm:=xmod2 a x ha
  rw [xdiv2,Nat.xor_assoc,show ((a ^^^ x)+b) % 2=(x+b) % 2 by omega]
def F4 (r n:Nat):Nat:=stp (stp (stp (stp r (n % 2)) (n / 2 % 2)) (n / 4 % 2)) (n / 8 % 2)
theorem F4_small (m n:Nat) (hm:m < 16) (hn:n < 16):F4 m n=tab.getD (m ^^^ n) 0:=by
  have:∀ i j:Fin 16,F4 i.val j.val=tab.getD (i.val ^^^ j.val) 0:=by decide +kernel
  exact this ⟨m,hm⟩ ⟨n,hn⟩
theorem split16 (r:Nat):r=(16 * (r / 16)) ^^^ (r % 16):=by
  have h1:=xdiv (16 * (r / 16)) (r % 16)
  have h2:=xmod (16 * (r / 16)) (r % 16)
  rw [show 16 * (r / 16) / 16=r / 16 by omega,show r % 16 / 16=0 by omega,Nat.xor_zero] at h1
  rw [show 16 * (r / 16) % 16=0 by omega,show r % 16 % 16=r % 16 by omega,Nat.zero_xor] at h2
  omega
theorem nib_F4 (r n:Nat) (hn:n < 16):nib r n=F4 r n:=by
  have e:F4 r n=(r / 16) ^^^ F4 (r % 16) n:=by
    have s:=split16 r
    generalize r / 16=q at *
    generalize r % 16=m at *
    subst s
    unfold F4
    rw [st_even _ _ _ (by omega),st_even _ _ _ (by omega),st_even _ _ _ (by omega),st_even _ _ _ (by omega)]
    congr 1
    omega
  rw [e,F4_small _ _ (by omega) hn]; rfl
def G8 (r y:Nat):Nat→Nat
  | 0 => r
  | i+1 => stp (G8 r y i) (y / 2 ^ i % 2)
theorem G8_lt (r y:Nat) (h:r < 4294967296):∀ i,G8 r y i < 4294967296:=by
  intro i
  induction i with
  | zero => exact h
  | succ i ih => exact stp_lt _ _ ih
theorem stepB_G8 (r y:Nat) (hy:y < 256):stepB r y=G8 r y 8:=by
  unfold stepB
  rw [nib_F4 _ _ (by omega),nib_F4 _ _ (by omega)]
  show stp (stp (stp (stp (stp (stp (stp (stp r (y % 16 % 2)) (y % 16 / 2 % 2)) (y % 16 / 4 % 2)) (y % 16 / 8 % 2)) (y / 16 % 2)) (y / 16 / 2 % 2)) (y / 16 / 4 % 2)) (y / 16 / 8 % 2)=stp (stp (stp (stp (stp (stp (stp (stp r (y / 1 % 2)) (y / 2 % 2)) (y / 4 % 2)) (y / 8 % 2)) (y / 16 % 2)) (y / 32 % 2)) (y / 64 % 2)) (y / 128 % 2)
  rw [show y % 16 % 2=y / 1 % 2 by omega,show y % 16 / 2 % 2=y / 2 % 2 by omega,show y % 16 / 4 % 2=y / 4 % 2 by omega,show y % 16 / 8 % 2=y / 8 % 2 by omega,show y / 16 / 2=y / 32 by omega,show y / 16 / 4=y / 64 by omega,show y / 16 / 8=y / 128 by omega]
def restV (r b:Nat):Nat:=if (r / 2147483648+b) % 2=1 then (2 * r % 4294967296) ^^^ 517762881 else 2 * r % 4294967296
theorem poly_bit (j:Nat):(517762881:Nat).testBit j=(decide (j < 32) && (2197175160:Nat).testBit (31 - j)):=by
  by_cases hj:j < 32
  · have:∀ i:Fin 32,(517762881:Nat).testBit i.val=(2197175160:Nat).testBit (31 - i.val):=by decide +kernel
    rw [decide_eq_true hj,Bool.true_and]; exact this ⟨j,hj⟩
  · rw [decide_eq_false hj,high0 _ _ (by decide) (by omega)]; rfl
theorem low_bit (reg j:Nat) (h:reg < 4294967296):(2 * rev reg % 4294967296).testBit j=(decide (j < 32) && (reg / 2).testBit (31 - j)):=by
  rw [show (4294967296:Nat)=2 ^ 32 from rfl,Nat.testBit_mod_two_pow]
  by_cases hj:j < 32
  · rw [decide_eq_true hj,Bool.true_and,Bool.true_and,← Nat.testBit_succ]
    cases j with
    | zero => rw [Nat.testBit_zero,high0 reg 32 h (by omega)]; simp
    | succ j =>
      rw [Nat.testBit_succ,show 2 * rev reg / 2=rev reg by omega,rev_bit,decide_eq_true (by omega),Bool.true_and,show (31 - (j+1)).succ=31 - j by omega]
  · rw [decide_eq_false hj]; rfl
theorem rest_rev (reg b:Nat) (h:reg < 4294967296):restV (rev reg) b=rev (stp reg b):=by
  have top:rev reg / 2147483648 % 2=reg % 2:=by
    have e:=rev_bit reg 31
    rw [Nat.testBit_eq_decide_div_mod_eq,show 31 - 31=0 from rfl,Nat.testBit_zero] at e
    simp only [show (31:Nat) < 32 by omega,decide_true,Bool.true_and,decide_eq_decide] at e
    have:rev reg / 2 ^ 31=rev reg / 2147483648:=rfl
    omega
  unfold restV stp cP
  rw [show (rev reg / 2147483648+b) % 2=(reg+b) % 2 by omega]
  apply Nat.eq_of_testBit_eq; intro j
  rw [rev_bit]
  split
  · rw [Nat.testBit_xor,Nat.testBit_xor,low_bit reg j h,poly_bit]
    cases decide (j < 32) <;> rfl
  · rw [Nat.xor_zero,low_bit reg j h]
end Go.Eng
namespace Go.Eng
open Go
variable {E:Nat→Option Fn} {X:Orc}
set_option linter.unusedSimpArgs false
set_option linter.unusedVariables false
structure EnRc (E:Nat→Option Fn):Prop where
  about:E k_purserref02_about=some f_purserref02_about
  rest:E k_purserref02_rest=some f_purserref02_rest
  on:E k_purserref02_On=some f_purserref02_On
  sum:E k_purserref02_Sum=some f_purserref02_Sum
structure NoRc (X:Orc):Prop where
  about:∀ a h,X (.fn k_purserref02_about) a h=none
  rest:∀ a h,X (.fn k_purserref02_rest) a h=none
  on:∀ a h,X (.fn k_purserref02_On) a h=none
  sum:∀ a h,X (.fn k_purserref02_Sum) a h=none
theorem rem64 (a:Nat) (e:EqK) (h:H):binV .rem e h (.int .u64 (a:Int)) (.int .u64 2)=some (.int .u64 ((a % 2:Nat):Int)):=rfl
theorem quo64 (a:Nat) (ha:a < 18446744073709551616) (e:EqK) (h:H):binV .quo e h (.int .u64 (a:Int)) (.int .u64 2)=some (.int .u64 ((a / 2:Nat):Int)):=by
  rw [b_quo _ _ _ _ _ (by omega),show Int.tdiv (a:Int) 2=((a / 2:Nat):Int) from rfl,wr_u64 (by omega)]
theorem xor64 (a b:Nat) (ha:a < 4294967296) (hb:b < 4294967296) (e:EqK) (hh:H):binV .xor e hh (.int .u64 (a:Int)) (.int .u64 (b:Int))=some (.int .u64 ((a ^^^ b:Nat):Int)):=by
  have e1:binV .xor e hh (.int .u64 (a:Int)) (.int .u64 (b:Int))=some (.int .u64 (asK .u64 (Nat.xor (a % 18446744073709551616) (b % 18446744073709551616)))):=rfl
  have hx:a ^^^ b < 4294967296:=Nat.xor_lt_two_pow (n:=32) ha hb
  rw [e1,Nat.mod_eq_of_lt (by omega),Nat.mod_eq_of_lt (a:=b) (by omega)]
  have:asK .u64 (Nat.xor a b)=((a ^^^ b:Nat):Int):=by
    show asK .u64 (a ^^^ b)=_
    unfold asK
    rw [cond_blt,if_pos (by simp [half]; omega)]
    rfl
  rw [this]
structure AI (n:Nat) (h0:H) (i:Nat) (T:Tr V) (h:H):Prop where
  il:i≤32
  t0:evO T (.t 0)=.int .u64 (n / 2 ^ i:Nat)
  t3:evO T (.t 3)=.int .u64 (ouN n i:Nat)
  t4:evO T (.t 4)=.int .i64 (i:Int)
  hh:h=h0
theorem ai_step (Q:Orc) (m n:Nat) (hn:n < 4294967296) (h0:H):∀ i T h,i < 32→AI n h0 i T h→∃ T' h',evC Q 17 m none L_purserref02_about_0 ⟨T,[],h⟩=some (.normal,⟨T',[],h'⟩)∧AI n h0 (i+1) T' h':=by
  intro i T h hi ⟨_,t0,t3,t4,hh⟩
  have c0:decide ((i:Int) < 32)=true:=decide_eq_true (by omega)
  have wi:wr .i64 ((i:Int)+1)=((i+1:Nat):Int):=by rw [wr_i64 (by omega)]; omega
  have ol:ouN n i < 4294967296:=Nat.lt_of_lt_of_le (ouN_lt n i) (Nat.pow_le_pow_right (n:=2) (i:=i) (j:=32) (by omega) (by omega))
  have os:ouN n (i+1)=2 * ouN n i+n / 2 ^ i % 2:=rfl
  have ds:n / 2 ^ (i+1)=n / 2 ^ i / 2:=by rw [Nat.pow_succ,Nat.div_div_eq_div_mul]
  have ql:n / 2 ^ i≤n:=Nat.div_le_self _ _
  generalize ouN n i=o at *
  generalize n / 2 ^ i=q at *
  have b1:=rem64 q
  have b2:=quo64 q (by omega)
  have w1:wr .u64 (2 * (o:Int))=((2 * o:Nat):Int):=by rw [wr_u64 (by omega)]; omega
  have w2:wr .u64 (((2 * o:Nat):Int)+((q % 2:Nat):Int))=((2 * o+q % 2:Nat):Int):=by rw [wr_u64 (by omega)]; omega
  rw [← os] at w2
  rw [← ds] at b2
  refine ⟨_,_,by
    simp (config:={maxSteps:=2000000}) (disch:=first | omega | (simp only [List.length_cons,List.length_nil,List.length_append,List.length_drop]; omega)) only [L_purserref02_about_0,t0,t3,t4,c0,wi,b1,b2,w1,w2,↓s_skip,↓s_ops,↓s_seq,↓s_cond,↓s_block,↓s_nil,↓s_op,↓s_bindS,s_bindS,↓s_bindE,s_bindE,s_norm,↓s_condV,s_condV,s_block_normal,↓s_getp,↓s_con,↓s_mov,↓s_bin,s_same,b_lss,b_add,b_mul,↓iteN_true,↓iteN_false,iteN_true,iteN_false,Nat.reduceEqDiff,decide_true,decide_false]
    exact rfl,⟨by omega,(by (simp only [s_getp,Nat.reduceEqDiff,decide_false,decide_true,iteN_false,iteN_true]; try rfl)),(by (simp only [s_getp,Nat.reduceEqDiff,decide_false,decide_true,iteN_false,iteN_true]; try rfl)),(by (simp only [s_getp,decide_true,iteN_true]; try rfl)),hh⟩⟩
theorem about_go (e:EnRc E) (x:NoRc X) (N n:Nat) (hn:n < 4294967296) (h:H):callX E X (N+40) (.fn k_purserref02_about) [.int .u64 (n:Int)] h=some (.int .u64 (rev n:Nat),h):=by
  rw [x_cfn e.about _ _ (Nat.le_of_ble_eq_true rfl) (x.about _ _)]
  have fin:∀ T,AI n h 0 T h→fnEnd [.tmp 2] (bindE (blockE 0 (loopN (evC (callX E X (N+39)) 17 (N+39) none L_purserref02_about_0) (N+39) ⟨T,[],h⟩)) (evC (callX E X (N+39)) 17 (N+39) none R_purserref02_about_0))=some (.int .u64 (rev n:Nat),h):=by
    intro T I
    obtain ⟨T',h',r,t3,hh⟩:=loop_go (f:=evC (callX E X (N+39)) 17 (N+39) none L_purserref02_about_0) (AI n h) 32 (.exit 0) (by intro h; cases h) (fun T h' => evO T (.t 3)=.int .u64 (rev n:Nat)∧h'=h) (ai_step _ _ n hn h) (fun T h' I => by
      obtain ⟨il,t0,t3,t4,hh⟩:=I
      have c0:decide (((32:Nat):Int) < 32)=false:=rfl
      refine ⟨_,_,by
        simp (config:={maxSteps:=2000000}) (disch:=first | omega | (simp only [List.length_cons,List.length_nil,List.length_append,List.length_drop]; omega)) only [L_purserref02_about_0,t4,Int.reduceLT,Int.cast_ofNat_Int,↓s_ops,↓s_seq,↓s_cond,↓s_exit,↓s_nil,↓s_op,↓s_bindS,s_bindS,↓s_bindE,s_bindE,s_bindE_exit,s_norm,↓s_condV,s_condV,↓s_getp,↓s_con,↓s_mov,↓s_bin,s_same,b_lss,↓iteN_true,↓iteN_false,iteN_true,iteN_false,decide_true,decide_false]
        exact rfl,(by (simp only [s_getp,Nat.reduceEqDiff,decide_false,iteN_false,t3]; try rfl)),hh⟩) 32 0 (by omega) (N+39) (by omega) T h I
    rw [r,hh]
    simp (config:={maxSteps:=2000000}) (disch:=first | omega | (simp only [List.length_cons,List.length_nil,List.length_append,List.length_drop]; omega)) only [R_purserref02_about_0,t3,s_res0,↓s_ops,↓s_seq,↓s_ret,↓s_nil,↓s_op,↓s_bindS,s_bindS,↓s_bindE,s_bindE,s_norm,s_block_exit,↓s_getp,↓s_mov,s_end,s_res0,s_res1,s_tup1,↓iteN_true,iteN_true,decide_true,if_true]
  obtain ⟨R,eR⟩:∃ R,R_purserref02_about_0=R:=⟨_,rfl⟩
  obtain ⟨Lo,eL⟩:∃ R,L_purserref02_about_0=R:=⟨_,rfl⟩
  rw [eR,eL] at fin ⊢
  simp (config:={maxSteps:=2000000}) (disch:=first | omega | (simp only [List.length_cons,List.length_nil,List.length_append,List.length_drop]; omega)) only [↓l_loop,↓l_succ,↓s_ops,↓s_seq,↓s_block,↓s_nil,↓s_op,↓s_bindS,s_bindS,↓s_bindE,s_bindE,s_norm,↓s_con,↓s_list0,↓s_list1,↓s_mov]
  exact fin _ ⟨by omega,by rw [Nat.pow_zero,Nat.div_one]; exact (by (simp only [s_getp,Nat.reduceEqDiff,decide_false,iteN_false]; try rfl)),by show _=V.int .u64 ((0:Nat):Int); exact (by (simp only [s_getp,Nat.reduceEqDiff,decide_false,decide_true,iteN_false,iteN_true]; try rfl)),(by (simp only [s_getp,decide_true,iteN_true]; try rfl)),rfl⟩
theorem rest_go (e:EnRc E) (x:NoRc X) (N r b:Nat) (hr:r < 4294967296) (hb:b < 2) (h:H):callX E X (N+1) (.fn k_purserref02_rest) [.int .u64 (r:Int),.int .u64 (b:Int)] h=some (.int .u64 (restV r b:Nat),h):=by
  rw [x_cfn e.rest _ _ (Nat.le_of_ble_eq_true rfl) (x.rest _ _)]
  have w1:wr .u64 (2 * (r:Int))=((2 * r:Nat):Int):=by rw [wr_u64 (by omega)]; omega
  have w2:wr .u64 ((b:Int) * 4294967296)=((b * 4294967296:Nat):Int):=by rw [wr_u64 (by omega)]; omega
  obtain ⟨v,ev⟩:∃ v,2 * r+b * 4294967296=v:=⟨_,rfl⟩
  have w3:wr .u64 (((2 * r:Nat):Int)+((b * 4294967296:Nat):Int))=(v:Int):=by rw [wr_u64 (by omega)]; omega
  have x3:∀ (q:Nat),q < 4294967296→∀ e h,binV .xor e h (.int .u64 (q:Int)) (.int .u64 517762881)=some (.int .u64 ((q ^^^ 517762881:Nat):Int)):=fun q hq e h => xor64 q 517762881 hq (by omega) e h
  unfold restV
  by_cases h1:8589934592≤v
  · have c1:decide ((8589934592:Int)≤(v:Int))=true:=decide_eq_true (by omega)
    obtain ⟨v1,ev1⟩:∃ v1,v - 8589934592=v1:=⟨_,rfl⟩
    have w4:wr .u64 ((v:Int) - 8589934592)=(v1:Int):=by rw [wr_u64 (by omega)]; omega
    have c2:decide ((4294967296:Int)≤(v1:Int))=false:=decide_eq_false (by omega)
    rw [if_neg (by omega),show 2 * r % 4294967296=v1 by omega]
    simp (config:={maxSteps:=2000000}) (disch:=first | omega | (simp only [List.length_cons,List.length_nil,List.length_append,List.length_drop]; omega)) only [w1,w2,w3,w4,c1,c2,Nat.zero_add,s_res0,↓s_skip,↓s_ops,↓s_seq,↓s_cond,↓s_ret,↓s_nil,↓s_op,↓s_bindS,s_bindS,↓s_bindE,s_bindE,s_norm,↓s_condV,s_condV,↓s_getp,↓s_get,↓s_con,↓s_list0,↓s_list1,↓s_mov,↓s_bin,s_same,b_geq,b_add,b_sub,b_mul,s_end,s_res0,s_res1,s_tup1,↓iteN_true,↓iteN_false,iteN_true,iteN_false,Nat.zero_add,Nat.reduceEqDiff,decide_true,decide_false]
  · have c1:decide ((8589934592:Int)≤(v:Int))=false:=decide_eq_false (by omega)
    by_cases h2:4294967296≤v
    · have c2:decide ((4294967296:Int)≤(v:Int))=true:=decide_eq_true (by omega)
      obtain ⟨v1,ev1⟩:∃ v1,v - 4294967296=v1:=⟨_,rfl⟩
      have w4:wr .u64 ((v:Int) - 4294967296)=(v1:Int):=by rw [wr_u64 (by omega)]; omega
      have x4:=x3 v1 (by omega)
      rw [if_pos (by omega),show 2 * r % 4294967296=v1 by omega]
      simp (config:={maxSteps:=2000000}) (disch:=first | omega | (simp only [List.length_cons,List.length_nil,List.length_append,List.length_drop]; omega)) only [w1,w2,w3,w4,c1,c2,x4,Nat.zero_add,s_res0,↓s_skip,↓s_ops,↓s_seq,↓s_cond,↓s_ret,↓s_nil,↓s_op,↓s_bindS,s_bindS,↓s_bindE,s_bindE,s_norm,↓s_condV,s_condV,↓s_getp,↓s_get,↓s_con,↓s_list0,↓s_list1,↓s_mov,↓s_bin,s_same,b_geq,b_add,b_sub,b_mul,s_end,s_res0,s_res1,s_tup1,↓iteN_true,↓iteN_false,iteN_true,iteN_false,Nat.zero_add,Nat.reduceEqDiff,decide_true,decide_false]
    · have c2:decide ((4294967296:Int)≤(v:Int))=false:=decide_eq_false (by omega)
      rw [if_neg (by omega),show 2 * r % 4294967296=v by omega]
      simp (config:={maxSteps:=2000000}) (disch:=first | omega | (simp only [List.length_cons,List.length_nil,List.length_append,List.length_drop]; omega)) only [w1,w2,w3,c1,c2,Nat.zero_add,s_res0,↓s_skip,↓s_ops,↓s_seq,↓s_cond,↓s_ret,↓s_nil,↓s_op,↓s_bindS,s_bindS,↓s_bindE,s_bindE,s_norm,↓s_condV,s_condV,↓s_getp,↓s_get,↓s_con,↓s_list0,↓s_list1,↓s_mov,↓s_bin,s_same,b_geq,b_add,b_mul,s_end,s_res0,s_res1,s_tup1,↓iteN_true,↓iteN_false,iteN_true,iteN_false,Nat.zero_add,Nat.reduceEqDiff,decide_true,decide_false]
end Go.Eng
namespace Go.Eng
open Go
variable {E:Nat→Option Fn} {X:Orc}
set_option linter.unusedSimpArgs false
set_option linter.unusedVariables false
structure BI (v1:V) (i6 reg y:Nat) (h0:H) (i:Nat) (T:Tr V) (h:H):Prop where
  il:i≤8
  t1:evO T (.t 1)=v1
  t6:evO T (.t 6)=.int .i64 (i6:Int)
  t5:evO T (.t 5)=.int .u64 (rev (G8 reg y i):Nat)
  t7:evO T (.t 7)=.int .u64 (y / 2 ^ i:Nat)
  t8:evO T (.t 8)=.int .i64 (i:Int)
  hh:h=h0
theorem bi_step (e:EnRc E) (x:NoRc X) (M m:Nat) (v1:V) (i6 reg y:Nat) (hr:reg < 4294967296) (hy:y < 256) (h0:H):∀ i T h,i < 8→BI v1 i6 reg y h0 i T h→∃ T' h',evC (callX E X (M+1)) 40 m none L_purserref02_On_0 ⟨T,[],h⟩=some (.normal,⟨T',[],h'⟩)∧BI v1 i6 reg y h0 (i+1) T' h':=by
  intro i T h hi ⟨_,t1,t6,t5,t7,t8,hh⟩
  have c0:decide ((i:Int) < 8)=true:=decide_eq_true (by omega)
  have wi:wr .i64 ((i:Int)+1)=((i+1:Nat):Int):=by rw [wr_i64 (by omega)]; omega
  have gl:=G8_lt reg y hr i
  have gs:G8 reg y (i+1)=stp (G8 reg y i) (y / 2 ^ i % 2):=rfl
  have ds:y / 2 ^ (i+1)=y / 2 ^ i / 2:=by rw [Nat.pow_succ,Nat.div_div_eq_div_mul]
  have ql:y / 2 ^ i≤y:=Nat.div_le_self _ _
  generalize G8 reg y i=g at *
  generalize y / 2 ^ i=q at *
  have b1:=rem64 q
  have b2:=quo64 q (by omega)
  rw [← ds] at b2
  have r1:=rest_go (E:=E) e x M (rev g) (q % 2) (rev_lt g) (by omega) h
  rw [rest_rev g _ gl,← gs] at r1
  refine ⟨_,_,by
    simp (config:={maxSteps:=2000000}) (disch:=first | omega | (simp only [List.length_cons,List.length_nil,List.length_append,List.length_drop]; omega)) only [L_purserref02_On_0,t5,t7,t8,c0,wi,b1,b2,r1,↓s_skip,↓s_ops,↓s_seq,↓s_cond,↓s_block,↓s_nil,↓s_op,↓s_bindS,s_bindS,↓s_bindE,s_bindE,s_norm,↓s_condV,s_condV,s_block_normal,↓s_getp,↓s_con,↓s_os0,↓s_os1,↓s_mov,↓s_bin,↓s_call,s_same,b_lss,b_add,↓iteN_true,↓iteN_false,iteN_true,iteN_false,Nat.reduceEqDiff,decide_true,decide_false]
    exact rfl,⟨by omega,(by (simp only [s_getp,Nat.reduceEqDiff,decide_false,iteN_false,t1]; try rfl)),(by (simp only [s_getp,Nat.reduceEqDiff,decide_false,iteN_false,t6]; try rfl)),(by (simp only [s_getp,Nat.reduceEqDiff,decide_false,decide_true,iteN_false,iteN_true]; try rfl)),(by (simp only [s_getp,Nat.reduceEqDiff,decide_false,decide_true,iteN_false,iteN_true]; try rfl)),(by (simp only [s_getp,decide_true,iteN_true]; try rfl)),hh⟩⟩
theorem bi_loop (e:EnRc E) (x:NoRc X) (M m:Nat) (hm:8 < m) (v1:V) (i6 reg y:Nat) (hr:reg < 4294967296) (hy:y < 256) (h0:H) (T:Tr V) (I:BI v1 i6 reg y h0 0 T h0):∃ T',loopN (evC (callX E X (M+1)) 40 m none L_purserref02_On_0) m ⟨T,[],h0⟩=some (.exit 2,⟨T',[],h0⟩)∧BI v1 i6 reg y h0 8 T' h0:=by
  obtain ⟨T',h',r,J⟩:=loop_go (f:=evC (callX E X (M+1)) 40 m none L_purserref02_On_0) (BI v1 i6 reg y h0) 8 (.exit 2) (by intro h; cases h) (BI v1 i6 reg y h0 8) (bi_step e x M m v1 i6 reg y hr hy h0) (fun T h I => by
    obtain ⟨il,t1,t6,t5,t7,t8,hh⟩:=I
    have c0:decide (((8:Nat):Int) < 8)=false:=rfl
    refine ⟨_,_,by
      simp (config:={maxSteps:=2000000}) (disch:=first | omega | (simp only [List.length_cons,List.length_nil,List.length_append,List.length_drop]; omega)) only [L_purserref02_On_0,t8,Int.reduceLT,Int.cast_ofNat_Int,↓s_ops,↓s_seq,↓s_cond,↓s_exit,↓s_nil,↓s_op,↓s_bindS,s_bindS,↓s_bindE,s_bindE,s_bindE_exit,s_norm,↓s_condV,s_condV,↓s_getp,↓s_con,↓s_mov,↓s_bin,s_same,b_lss,↓iteN_true,↓iteN_false,iteN_true,iteN_false,decide_true,decide_false]
      exact rfl,⟨il,(by (simp only [s_getp,Nat.reduceEqDiff,decide_false,iteN_false,t1]; try rfl)),(by (simp only [s_getp,Nat.reduceEqDiff,decide_false,iteN_false,t6]; try rfl)),(by (simp only [s_getp,Nat.reduceEqDiff,decide_false,iteN_false,t5]; try rfl)),(by (simp only [s_getp,Nat.reduceEqDiff,decide_false,iteN_false,t7]; try rfl)),(by (simp only [s_getp,Nat.reduceEqDiff,decide_false,iteN_false,t8]; try rfl)),hh⟩⟩) 8 0 (by omega) m hm T h0 I
  have hh:=J.hh
  subst hh
  exact ⟨T',r,J⟩
structure OI (a:Option (Nat × Nat)) (c:Option Nat) (ez:Nat) (l:List Nat) (r0:Nat) (h0:H) (i:Nat) (T:Tr V) (h:H):Prop where
  il:i≤l.length
  t1:evO T (.t 1)=.slice a l.length c ez
  t5:evO T (.t 5)=.int .u64 (rev (foldB r0 (l.take i)):Nat)
  t6:evO T (.t 6)=.int .i64 (i:Int)
  hh:h=h0
theorem oi_step (e:EnRc E) (x:NoRc X) (M m:Nat) (hm:8 < m) (a:Option (Nat × Nat)) (c:Option Nat) (ez:Nat) (l:List Nat) (r0:Nat) (hr:r0 < 4294967296) (bl:byt l=true) (hl:l.length < 9223372036854775807) (h0:H) (src:SrcH h0 a ez l) :
    ∀ i T h,i < l.length→OI a c ez l r0 h0 i T h→∃ T' h',evC (callX E X (M+1)) 40 m none L_purserref02_On_1 ⟨T,[],h⟩=some (.normal,⟨T',[],h'⟩)∧OI a c ez l r0 h0 (i+1) T' h':=by
  intro i T h hi ⟨_,t1,t5,t6,hh⟩
  subst hh
  obtain ⟨bi,off,vs,md,rfl,rfl,h3,h4,h5,h6⟩:=src.resolve_left (fun h => by rw [h] at hi; cases hi)
  have cg:vs[off+i]?=some (.int .u8 (l.getD i 0:Nat)):=by
    have:((vs.drop off).take l.length)[i]?=(ofI .u8 l)[i]?:=by rw [h6]
    rw [List.getElem?_take_of_lt hi,List.getElem?_drop,ofI_get _ _ _ hi] at this
    exact this
  have c0:decide ((i:Int) < (l.length:Int))=true:=decide_eq_true (by omega)
  have wi:wr .i64 ((i:Int)+1)=((i+1:Nat):Int):=by rw [wr_i64 (by omega)]; omega
  have ix:idx (i:Int) l.length=some i:=idxn hi
  have yl:=bytD bl i
  have fo:foldB r0 (l.take (i+1))=stepB (foldB r0 (l.take i)) (l.getD i 0):=by rw [take_D l i hi,foldB_app]; rfl
  have rl:=foldB_lt (l.take i) r0 hr
  rw [stepB_G8 _ _ yl] at fo
  generalize l.getD i 0=y at *
  generalize foldB r0 (l.take i)=g at *
  have wy:wr .u64 (y:Int)=(y:Int):=u64n _ (by omega)
  have fin:∀ T1,BI (.slice (some (bi,off)) l.length c 1) i g y h 0 T1 h→∃ T' h',bindE (blockE 1 (blockE 2 (loopN (evC (callX E X (M+1)) 40 m none L_purserref02_On_0) m ⟨T1,[],h⟩))) (evC (callX E X (M+1)) 40 m none R_purserref02_On_0)=some (.normal,⟨T',[],h'⟩)∧OI (some (bi,off)) c 1 l r0 h (i+1) T' h':=by
    intro T1 I
    obtain ⟨T2,r,il,t1,t6,t5,t7,t8,_⟩:=bi_loop (E:=E) e x M m hm _ i g y rl yl h T1 I
    rw [r]
    rw [← fo] at t5
    refine ⟨_,_,by
      simp (config:={maxSteps:=2000000}) (disch:=first | omega | (simp only [List.length_cons,List.length_nil,List.length_append,List.length_drop]; omega)) only [R_purserref02_On_0,t6,wi,↓s_ops,↓s_nil,↓s_op,↓s_bindS,s_bindS,↓s_bindE,s_bindE,s_norm,s_block_normal,s_block_exit,↓s_getp,↓s_con,↓s_mov,↓s_bin,s_same,b_add,↓iteN_true,iteN_true,decide_true,if_true]
      exact rfl,⟨by omega,(by (simp only [s_getp,Nat.reduceEqDiff,decide_false,iteN_false,t1]; try rfl)),(by (simp only [s_getp,Nat.reduceEqDiff,decide_false,iteN_false,t5]; try rfl)),(by (simp only [s_getp,decide_true,iteN_true]; try rfl)),rfl⟩⟩
  obtain ⟨Lo,eL⟩:∃ R,L_purserref02_On_0=R:=⟨_,rfl⟩
  obtain ⟨Ro,eR⟩:∃ R,R_purserref02_On_0=R:=⟨_,rfl⟩
  unfold L_purserref02_On_1
  rw [eL,eR] at fin ⊢
  simp (config:={maxSteps:=2000000}) (disch:=first | omega | (simp only [List.length_cons,List.length_nil,List.length_append,List.length_drop]; omega)) only [t1,t6,h4,cg,c0,ix,wy,↓s_len,x_lenS,↓x_conv,x_convV,Nat.mul_one,↓l_loop,↓s_load,m_load,↓m_load1,m_load1,↓x_idxS,x_idxSE,x_addrE,x_lenS,↓s_len,↓s_skip,↓s_ops,↓s_seq,↓s_cond,↓s_block,↓s_nil,↓s_op,↓s_bindS,s_bindS,↓s_bindE,s_bindE,s_norm,↓s_condV,s_condV,↓s_getp,↓s_con,↓s_mov,↓s_bin,s_same,b_lss,↓iteN_true,↓iteN_false,iteN_true,iteN_false,Nat.reduceEqDiff,decide_true,decide_false]
  exact fin _ ⟨by omega,(by (simp only [s_getp,Nat.reduceEqDiff,decide_false,iteN_false,t1]; try rfl)),(by (simp only [s_getp,Nat.reduceEqDiff,decide_false,iteN_false,t6]; try rfl)),by show _=V.int .u64 ((rev g:Nat):Int); exact (by (simp only [s_getp,Nat.reduceEqDiff,decide_false,iteN_false,t5]; try rfl)),by rw [Nat.pow_zero,Nat.div_one]; exact (by (simp only [s_getp,Nat.reduceEqDiff,decide_false,decide_true,iteN_false,iteN_true]; try rfl)),(by (simp only [s_getp,decide_true,iteN_true]; try rfl)),rfl⟩
theorem ron_go (e:EnRc E) (x:NoRc X) (N s:Nat) (hs:s < 4294967296) (a:Option (Nat × Nat)) (c:Option Nat) (ez:Nat) (l:List Nat) (bl:byt l=true) (hl:l.length < N) (hl2:l.length < 9223372036854775807) (h:H) (src:SrcH h a ez l) :
    callX E X (N+41) (.fn k_purserref02_On) [.int .u32 (s:Int),.slice a l.length c ez] h=some (.int .u32 (onV s l:Nat),h):=by
  rw [x_cfn e.on _ _ (Nat.le_of_ble_eq_true rfl) (x.on _ _)]
  have nl:=nt_lt s
  have fl:=foldB_lt l (nt s) nl
  have ws:wr .u64 (s:Int)=(s:Int):=u64n _ (by omega)
  have w1:wr .u64 (4294967295 - (s:Int))=(nt s:Int):=by unfold nt; rw [wr_u64 (by omega)]; omega
  have r1:=about_go (E:=E) e x N (nt s) nl h
  have r2:=about_go (E:=E) e x N (rev (foldB (nt s) l)) (rev_lt _) h
  rw [rev_rev _ fl] at r2
  have ov:onV s l=nt (foldB (nt s) l):=rfl
  have wg:∀ g:Nat,g < 4294967296→wr .u64 (4294967295 - (g:Int))=(nt g:Int):=fun g hg => by unfold nt; rw [wr_u64 (by omega)]; omega
  have w2:wr .u64 (4294967295 - ((foldB (nt s) l:Nat):Int))=(onV s l:Int):=wg _ fl
  have w3:wr .u32 ((onV s l:Nat):Int)=(onV s l:Int):=by rw [w32,Nat.mod_eq_of_lt (onV_lt _ _)]
  have fin:∀ T,OI a c ez l (nt s) h 0 T h→fnEnd [.tmp 4] (bindE (blockE 0 (loopN (evC (callX E X (N+40)) 40 (N+40) none L_purserref02_On_1) (N+40) ⟨T,[],h⟩)) (evC (callX E X (N+40)) 40 (N+40) none R_purserref02_On_1))=some (.int .u32 (onV s l:Nat),h):=by
    intro T I
    obtain ⟨T',h',r,t5,hh⟩:=loop_go (f:=evC (callX E X (N+40)) 40 (N+40) none L_purserref02_On_1) (OI a c ez l (nt s) h) l.length (.exit 0) (by intro h; cases h) (fun T h' => evO T (.t 5)=.int .u64 (rev (foldB (nt s) l):Nat)∧h'=h) (oi_step e x (N+39) (N+40) (by omega) a c ez l (nt s) nl bl hl2 h src) (fun T h' I => by
      obtain ⟨il,t1,t5,t6,hh⟩:=I
      rw [List.take_length] at t5
      have c0:decide ((l.length:Int) < (l.length:Int))=false:=decide_eq_false (by omega)
      refine ⟨_,_,by
        simp (config:={maxSteps:=2000000}) (disch:=first | omega | (simp only [List.length_cons,List.length_nil,List.length_append,List.length_drop]; omega)) only [L_purserref02_On_1,t1,t6,c0,↓s_len,x_lenS,x_lenS,↓s_len,↓s_ops,↓s_seq,↓s_cond,↓s_exit,↓s_nil,↓s_op,↓s_bindS,s_bindS,↓s_bindE,s_bindE,s_bindE_exit,s_norm,↓s_condV,s_condV,↓s_getp,↓s_mov,↓s_bin,s_same,b_lss,↓iteN_true,↓iteN_false,iteN_true,iteN_false,Nat.reduceEqDiff,decide_true,decide_false]
        exact rfl,(by (simp only [s_getp,Nat.reduceEqDiff,decide_false,iteN_false,t5]; try rfl)),hh⟩) l.length 0 (by omega) (N+40) (by omega) T h I
    rw [r,hh]
    generalize foldB (nt s) l=g at *
    generalize onV s l=o at *
    simp (config:={maxSteps:=2000000}) (disch:=first | omega | (simp only [List.length_cons,List.length_nil,List.length_append,List.length_drop]; omega)) only [R_purserref02_On_1,t5,r2,w2,w3,↓x_conv,x_convV,s_res0,↓s_ops,↓s_seq,↓s_ret,↓s_nil,↓s_op,↓s_bindS,s_bindS,↓s_bindE,s_bindE,s_norm,s_block_exit,↓s_getp,↓s_con,↓s_os0,↓s_os1,↓s_mov,↓s_bin,↓s_call,s_same,b_sub,s_end,s_res0,s_res1,s_tup1,↓iteN_true,iteN_true,decide_true,if_true]
  obtain ⟨R,eR⟩:∃ R,R_purserref02_On_1=R:=⟨_,rfl⟩
  obtain ⟨Lo,eL⟩:∃ R,L_purserref02_On_1=R:=⟨_,rfl⟩
  rw [eR,eL] at fin ⊢
  generalize nt s=z at *
  simp (config:={maxSteps:=2000000}) (disch:=first | omega | (simp only [List.length_cons,List.length_nil,List.length_append,List.length_drop]; omega)) only [ws,w1,r1,↓x_conv,x_convV,Nat.zero_add,↓l_loop,↓l_succ,↓s_ops,↓s_seq,↓s_block,↓s_nil,↓s_op,↓s_bindS,s_bindS,↓s_bindE,s_bindE,s_norm,↓s_getp,↓s_get,↓s_con,↓s_os0,↓s_os1,↓s_list0,↓s_list1,↓s_mov,↓s_bin,↓s_call,s_same,b_sub,↓iteN_true,↓iteN_false,iteN_true,iteN_false,Nat.zero_add,Nat.reduceEqDiff,decide_true,decide_false]
  exact fin _ ⟨by omega,(by (simp only [s_getp,Nat.reduceEqDiff,decide_false,iteN_false]; try rfl)),by show _=V.int .u64 ((rev z:Nat):Int); exact (by (simp only [s_getp,Nat.reduceEqDiff,decide_false,decide_true,iteN_false,iteN_true]; try rfl)),(by (simp only [s_getp,decide_true,iteN_true]; try rfl)),rfl⟩
theorem rsum_go (e:EnRc E) (x:NoRc X) (N:Nat) (a:Option (Nat × Nat)) (c:Option Nat) (ez:Nat) (l:List Nat) (bl:byt l=true) (hl:l.length < N) (hl2:l.length < 9223372036854775807) (h:H) (src:SrcH h a ez l) :
    callX E X (N+42) (.fn k_purserref02_Sum) [.slice a l.length c ez] h=some (.int .u32 (onV 0 l:Nat),h):=by
  rw [x_cfn e.sum _ _ (Nat.le_of_ble_eq_true rfl) (x.sum _ _)]
  have r:=ron_go (E:=E) e x N 0 (by omega) a c ez l bl hl hl2 h src
  replace r:callX E X (N+41) (.fn k_purserref02_On) [.int .u32 0,.slice a l.length c ez] h=some (.int .u32 (onV 0 l:Nat),h):=r
  generalize onV 0 l=o at *
  simp (config:={maxSteps:=2000000}) (disch:=first | omega | (simp only [List.length_cons,List.length_nil,List.length_append,List.length_drop]; omega)) only [r,s_res0,↓s_ops,↓s_seq,↓s_ret,↓s_nil,↓s_op,↓s_bindS,s_bindS,↓s_bindE,s_bindE,s_norm,↓s_getp,↓s_get,↓s_con,↓s_os0,↓s_os1,↓s_list0,↓s_list1,↓s_mov,↓s_call,s_end,s_res0,s_res1,s_tup1,↓iteN_true,↓iteN_false,iteN_true,iteN_false,Nat.reduceEqDiff,decide_true,decide_false]
end Go.Eng
namespace Go.Eng
open Go
variable {E:Nat→Option Fn} {X:Orc}
set_option linter.unusedSimpArgs false
set_option linter.unusedVariables false
structure EnCm (E:Nat→Option Fn):Prop where
  mark:E k_crc_Mark=some f_crc_Mark
  bare:E k_crc_Bare=some f_crc_Bare
  ep:EnPen E
  ey:EnEye E
  lk:E k_octet_Look=some f_octet_Look
  cr:EnCrc E
  rc:EnRc E
  rf:EnRf E
  r4:E k_purserref02_Four=some f_purserref02_Four
  rm:E k_purserref02_Mark=some f_purserref02_Mark
  rb:E k_purserref02_Bare=some f_purserref02_Bare
structure NoCm (X:Orc):Prop where
  mark:∀ a h,X (.fn k_crc_Mark) a h=none
  bare:∀ a h,X (.fn k_crc_Bare) a h=none
  raw:∀ a h,X (.fn k_octet_Pen_Raw) a h=none
  all:∀ a h,X (.fn k_octet_Pen_All) a h=none
  fi:NoFix X
  ey:NoEye X
  lk:∀ a h,X (.fn k_octet_Look) a h=none
  cr:NoCrc X
  rc:NoRc X
  rf:NoRf X
  r4:∀ a h,X (.fn k_purserref02_Four) a h=none
  rm:∀ a h,X (.fn k_purserref02_Mark) a h=none
  rb:∀ a h,X (.fn k_purserref02_Bare) a h=none
theorem fix4 (n:Nat) (h:n < 4294967296):fixE 4 n=0∧fixB 4 n=leN 4 n:=by
  have hz:sizedI 4=true:=rfl
  have e2:fixE 4 n=0:=by
    unfold fixE; rw [hz,if_pos rfl,if_pos (by have:=(wid_pow' n 4 (by omega) (by omega)).2 (by show n < 4294967296; exact h); omega)]
  exact ⟨e2,by unfold fixB; rw [e2,if_pos rfl]; rfl⟩
/-- the sum of one slice,which lies in a new block -/
theorem sum1_go (e:EnCrc E) (x:NoCrc X) (M:Nat) (b:List Nat) (bb:byt b=true) (hb:b.length≤250000) (hM:250100 < M) (a:Option (Nat × Nat)) (c:Option Nat) (ez:Nat) (h:H) (src:SrcH h a ez b) :
    ∃ h',callX E X (M+12) (.fn k_crc_Sum) [.slice (some (h.next,0)) 1 (some 1) 1] (h.new (.cells [.slice a b.length c ez] .rw))=some (.int .u32 (onV 0 b:Nat),h')∧Kp h h':=by
  have kW:Kp h (h.new (.cells [.slice a b.length c ez] .rw)):=Kp.new _ _
  obtain ⟨h2,r2,k2⟩:=sum_go e x M h.next [(a,c,ez,b)] (some 1) (by show 1 < _; omega) (by show 1 < _; omega) .rw _ (Nat.lt_succ_self _) (h_new_same _ _) (fun q hq => by
    rcases List.mem_singleton.1 hq with rfl
    exact ⟨src.mono kW,bb,by show b.length < _; omega,by show b.length < _; omega⟩)
  exact ⟨h2,r2,kW.trans k2⟩
/-- what bare bytes are: the error,and the bytes -/
def barE (l:List Nat):Nat:=if l.length < 4 then 20 else if onV 0 (l.take (l.length - 4))=numV (l.drop (l.length - 4)) then 0 else 20
def barB (l:List Nat):List Nat:=if barE l=0 then l.take (l.length - 4) else []
set_option maxHeartbeats 1000000 in
theorem cbare_go (e:EnCm E) (x:NoCm X) (M:Nat) (l:List Nat) (bl:byt l=true) (hb:l.length≤250004) (hM:250100 < M) (a:Option (Nat × Nat)) (h:H) (src:SrcH h a 1 l) :
    ∃ h' a' c' e',callX E X (M+20) (.fn k_crc_Bare) [.slice a l.length none 1] h=some (.tup [.slice a' (barB l).length c' e',.int .i64 (barE l:Nat)],h')∧Nw h h' (barB l) a' c' e':=by
  rw [x_cfn e.bare _ _ (Nat.le_of_ble_eq_true rfl) (x.bare _ _)]
  by_cases h4:l.length < 4
  · have c1:decide ((l.length:Int) < 4)=true:=decide_eq_true (by omega)
    have e1:barE l=20:=by unfold barE; rw [if_pos h4]
    have e2:barB l=[]:=by unfold barB; rw [e1,if_neg (by omega)]
    rw [e1,e2]
    refine ⟨h,none,some 0,0,?_,⟨Kp.refl _,.nil _,fun _ _ e => by cases e⟩⟩
    rw [List.length_nil]
    simp (config:={maxSteps:=2000000}) (disch:=first | omega | (simp only [List.length_cons,List.length_nil,List.length_append,List.length_drop]; omega)) only [c1,↓s_len,x_lenS,x_lenS,↓s_len,Int.cast_ofNat_Int,s_res0,↓s_ops,↓s_seq,↓s_cond,↓s_ret,↓s_nil,↓s_op,↓s_bindS,s_bindS,↓s_bindE,s_bindE,s_bindE_ret,s_norm,↓s_condV,s_condV,↓s_getp,↓s_get,↓s_con,↓s_list0,↓s_list1,↓s_mov,↓s_bin,s_same,b_lss,s_end,s_res0,s_res1,s_tup2,↓iteN_true,↓iteN_false,iteN_true,iteN_false,Nat.reduceEqDiff,decide_true,decide_false]
  · obtain ⟨n,en⟩:∃ n,l.length=n+4:=⟨l.length - 4,by omega⟩
    have c1:decide (((n+4:Nat):Int) < 4)=false:=decide_eq_false (by omega)
    have w1:wr .i64 (((n+4:Nat):Int) - 4)=(n:Int):=by rw [wr_i64 (by omega)]; omega
    have sv1:=slcV_hiA (n+4) n a .i64 (by omega)
    have sv2:=slcV_loA (n+4) n a .i64 (by omega)
    rw [show n+4 - n=4 by omega] at sv2
    have e1:barE l=if onV 0 (l.take n)=numV (l.drop n) then 0 else 20:=by unfold barE; rw [if_neg h4,en,Nat.add_sub_cancel]
    have e2:barB l=if barE l=0 then l.take n else []:=by unfold barB; rw [en,Nat.add_sub_cancel]
    have lt:(l.take n).length=n:=by rw [List.length_take]; omega
    have ld:(l.drop n).length=4:=by rw [List.length_drop]; omega
    obtain ⟨h1,p1,a1,r1,k1,n1,y1,g1⟩:=look_go e.lk x.lk (M+18) (l.drop n) (by omega) (upA a n) none 1 h (src.drop n).e1
    obtain ⟨h2,r2,k2,y2⟩:=eyfix_go e.ey x.ey (M+7) p1 4 (l.drop n) (byt_drop bl n) (by omega) 0 a1 h1 y1
    have ef:eyFix 4 (l.drop n) 0=(numV (l.drop n),0,4):=by
      unfold eyFix
      rw [show sizedI 4=true from rfl,if_pos rfl,if_pos (by rw [ld]; decide),List.drop_zero,List.take_of_length_le (by rw [ld]; decide)]; rfl
    rw [ef] at r2
    have k02:Kp h h2:=⟨by have:=k1.1; have:=k2.1; omega,fun j hj => by rw [k2.2 _ (by have:=k1.1; omega) (by omega),k1.2 _ hj]⟩
    obtain ⟨h3,r3,k3⟩:=sum1_go e.cr x.cr (M+7) (l.take n) (byt_take bl n) (by omega) (by omega) a none 1 h2 ((src.take n).mono k02)
    rw [lt] at r3
    rw [ld] at r1
    have k03:=k02.trans k3
    have sl:=onV_lt 0 (l.take n)
    have sc:=((src.take n).mono k03).cellz none
    rw [lt] at sc
    rw [e2,e1]
    generalize onV 0 (l.take n)=S at *
    generalize numV (l.drop n)=Z at *
    have wS:wr .u64 (S:Int)=(S:Int):=u64n _ (by omega)
    replace r1:callX E X (M+19) (.fn k_octet_Look) [.slice (upA a n) 4 none 1] h=some (.ptr (some (p1,0)),h1):=r1
    replace r2:callX E X (M+19) (.fn k_octet_Eye_Fixed) [.ptr (some (p1,0)),.int .i64 4] h1=some (.tup [.int .u64 (Z:Int),.int .i64 0],h2):=r2
    replace r3:callX E X (M+19) (.fn k_crc_Sum) [.slice (some (h2.next,0)) 1 (some 1) 1] (h2.new (.cells [.slice a n none 1] .rw))=some (.int .u32 (S:Nat),h3):=r3
    by_cases hc:S=Z
    · have c2:decide ((S:Int)=(Z:Int))=true:=decide_eq_true (by omega)
      rw [if_pos hc,if_pos rfl,lt]
      obtain ⟨a4,c4,e4,h5,ap,nw⟩:=app_nw h3 (l.take n) (by omega)
      rw [lt] at ap
      refine ⟨h5,a4,c4,e4,?_,⟨k03.trans nw.kp,nw.wb,fun q o ea => by have:=nw.ge q o ea; have:=k03.1; omega⟩⟩
      rw [en]
      obtain ⟨C,eC⟩:∃ C,ofI .u8 (l.take n)=C:=⟨_,rfl⟩
      rw [eC] at ap sc
      simp (config:={maxSteps:=2000000}) (disch:=first | omega | (simp only [List.length_cons,List.length_nil,List.length_append,List.length_drop]; omega)) only [c1,c2,w1,wS,sv1,sv2,r1,r2,r3,sc,ap,↓s_append,↓s_len,x_lenS,↓x_slcS,x_M0,x_M1,↓x_conv,x_convV,Nat.zero_add,↓s_evD,↓s_dnil,↓s_dL,↓s_bindD,s_bindD,s_finD,s_addP0,↓s_bump0,w_zero,x_lenS,↓s_len,↓x_buildS,x_buildE,↓x_P0,↓x_P1,x_fill0,x_fills,List.length_cons,List.length_nil,List.drop_succ_cons,List.drop_nil,Int.cast_ofNat_Int,s_res0,↓s_skip,↓s_ops,↓s_dops,↓s_seq,↓s_cond,↓s_ret,↓s_nil,↓s_op,↓s_opg,↓s_wanted',↓s_wantV,s_wantV,↓s_bindS,s_bindS,↓s_bindE,s_bindE,s_norm,↓s_condV,s_condV,↓s_getp,↓s_get,↓s_con,↓s_os0,↓s_os1,↓s_list0,↓s_list1,↓s_mov,↓s_pick,↓s_pickE,s_pickE,↓s_bin,↓s_call,↓s_ext,s_same,b_neq,b_lss,b_sub,s_end,s_res0,s_res1,s_tup2,↓iteN_true,↓iteN_false,iteN_true,iteN_false,Nat.zero_add,List.append_nil,Nat.reduceEqDiff,decide_true,decide_false,Bool.not_true,List.getElem?_cons_zero,List.getElem?_cons_succ,beq_self_eq_true]
    · have c2:decide ((S:Int)=(Z:Int))=false:=decide_eq_false (by omega)
      rw [if_neg hc,if_neg (by omega)]
      refine ⟨h3,none,some 0,0,?_,⟨k03,.nil _,fun _ _ e => by cases e⟩⟩
      rw [en,List.length_nil]
      simp (config:={maxSteps:=2000000}) (disch:=first | omega | (simp only [List.length_cons,List.length_nil,List.length_append,List.length_drop]; omega)) only [c1,c2,w1,wS,sv1,sv2,r1,r2,r3,↓s_len,x_lenS,↓x_slcS,x_M0,x_M1,↓x_conv,x_convV,Nat.zero_add,↓s_evD,↓s_dnil,↓s_dL,↓s_bindD,s_bindD,s_finD,s_addP0,↓s_bump0,w_zero,x_lenS,↓s_len,↓x_buildS,x_buildE,↓x_P0,↓x_P1,x_fill0,x_fills,List.length_cons,List.length_nil,List.drop_succ_cons,List.drop_nil,Int.cast_ofNat_Int,s_res0,↓s_skip,↓s_ops,↓s_dops,↓s_seq,↓s_cond,↓s_ret,↓s_nil,↓s_op,↓s_opg,↓s_wanted',↓s_wantV,s_wantV,↓s_bindS,s_bindS,↓s_bindE,s_bindE,s_bindE_ret,s_norm,↓s_condV,s_condV,↓s_getp,↓s_get,↓s_con,↓s_os0,↓s_os1,↓s_list0,↓s_list1,↓s_mov,↓s_pick,↓s_pickE,s_pickE,↓s_bin,↓s_call,↓s_ext,s_same,b_neq,b_lss,b_sub,s_end,s_res0,s_res1,s_tup2,↓iteN_true,↓iteN_false,iteN_true,iteN_false,Nat.zero_add,List.append_nil,Nat.reduceEqDiff,decide_true,decide_false,Bool.not_true,Bool.not_false,List.getElem?_cons_zero,List.getElem?_cons_succ,beq_self_eq_true]
theorem four_go (e:EnCm E) (x:NoCm X) (N S:Nat) (hS:S < 4294967296) (h:H):∃ h' a c ez,callX E X (N+21) (.fn k_purserref02_Four) [.int .u32 (S:Int)] h=some (.slice a 4 c ez,h')∧Nw h h' (leN 4 S) a c ez:=by
  rw [x_cfn e.r4 _ _ (Nat.le_of_ble_eq_true rfl) (x.r4 _ _)]
  obtain ⟨fe,fb⟩:=fix4 S hS
  obtain ⟨h1,a,c,ez,r1,nw⟩:=rfixed_go e.rf x.rf N 4 S (by omega) h
  rw [fe,fb,leN_len] at r1
  rw [fb] at nw
  refine ⟨h1,a,c,ez,?_,nw⟩
  have wS:wr .u64 (S:Int)=(S:Int):=u64n _ (by omega)
  replace r1:callX E X (N+20) (.fn k_purserref01_Fixed) [.int .i64 4,.int .u64 (S:Int)] h=some (.tup [.slice a 4 c ez,.int .i64 0],h1):=r1
  simp (config:={maxSteps:=2000000}) (disch:=first | omega | (simp only [List.length_cons,List.length_nil,List.length_append,List.length_drop]; omega)) only [wS,r1,↓x_conv,x_convV,s_res0,↓s_ops,↓s_seq,↓s_ret,↓s_nil,↓s_op,↓s_bindS,s_bindS,↓s_bindE,s_bindE,s_norm,↓s_getp,↓s_get,↓s_con,↓s_os0,↓s_os1,↓s_list0,↓s_list1,↓s_mov,↓s_call,↓s_ext,s_same,s_end,s_res0,s_res1,s_tup1,↓iteN_true,↓iteN_false,iteN_true,iteN_false,Nat.reduceEqDiff,decide_true,decide_false,List.getElem?_cons_zero,List.getElem?_cons_succ]
theorem rmark_go (e:EnCm E) (x:NoCm X) (N:Nat) (b:List Nat) (bb:byt b=true) (hb:b.length≤250000) (a:Option (Nat × Nat)) (c:Option Nat) (ez:Nat) (h:H) (src:SrcH h a ez b) :
    ∃ h' a' c' e',callX E X (N+250100) (.fn k_purserref02_Mark) [.slice a b.length c ez] h=some (.slice a' (b++leN 4 (onV 0 b)).length c' e',h')∧Nw h h' (b++leN 4 (onV 0 b)) a' c' e':=by
  rw [x_cfn e.rm _ _ (Nat.le_of_ble_eq_true rfl) (x.rm _ _)]
  obtain ⟨a1,c1,z1,h1,r1,nw1⟩:=twinv_go e.rf.tw x.rf.tw (N+250098) b (by omega) a c ez h src
  have r2:=rsum_go (E:=E) e.rc x.rc (N+250057) a c ez b bb (by omega) (by omega) h1 (src.mono nw1.kp)
  have sl:=onV_lt 0 b
  generalize onV 0 b=S at *
  obtain ⟨h3,a3,c3,z3,r3,nw3⟩:=four_go e x (N+250078) S sl h1
  have sc:=nw3.wb.src.cellz c3
  rw [leN_len] at sc
  obtain ⟨a4,c4,z4,h4,ap,wb4,n4,f4,o4⟩:=ap_wb h3 b (leN 4 S) a1 c1 z1 (nw1.wb.kp nw3.kp) (by rw [leN_len]; omega)
  rw [leN_len] at ap
  have k13:=nw1.kp.trans nw3.kp
  have nk:=k13.1
  refine ⟨h4,a4,c4,z4,?_,⟨⟨by omega,fun j hj => by rw [f4 j (by omega) (fun ea => by have:=nw1.ge _ _ ea; omega),k13.2 _ hj]⟩,wb4,fun q o ea => by
    rcases o4 with o4 | o4
    · rw [o4] at ea; exact nw1.ge q o ea
    · rw [o4] at ea; cases ea; omega⟩⟩
  replace r2:callX E X (N+250099) (.fn k_purserref02_Sum) [.slice a b.length c ez] h1=some (.int .u32 (S:Nat),h1):=r2
  replace r3:callX E X (N+250099) (.fn k_purserref02_Four) [.int .u32 (S:Int)] h1=some (.slice a3 4 c3 z3,h3):=r3
  obtain ⟨n,en⟩:∃ n,b.length=n:=⟨_,rfl⟩
  obtain ⟨L,eL⟩:∃ L,(b++leN 4 S).length=L:=⟨_,rfl⟩
  rw [en] at r1 r2 ap ⊢
  rw [eL] at ap ⊢
  simp (config:={maxSteps:=2000000}) (disch:=first | omega | (simp only [List.length_cons,List.length_nil,List.length_append,List.length_drop]; omega)) only [r1,r2,r3,sc,ap,↓s_append,s_res0,↓s_ops,↓s_seq,↓s_ret,↓s_nil,↓s_op,↓s_bindS,s_bindS,↓s_bindE,s_bindE,s_norm,↓s_getp,↓s_get,↓s_con,↓s_os0,↓s_os1,↓s_list0,↓s_list1,↓s_mov,↓s_call,s_end,s_res0,s_res1,s_tup1,↓iteN_true,↓iteN_false,iteN_true,iteN_false,Nat.reduceEqDiff,decide_true,decide_false]
end Go.Eng
