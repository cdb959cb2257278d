import Derived.Test.YtfopajklnakmpaaBfW
namespace Go.Eng
open Go
variable {E:Nat→Option Fn} {X:Orc}
set_option linter.unusedSimpArgs false
set_option linter.unusedVariables false
theorem stMd (vs l:List V) (md:Md) (hm:isRo md=false) (h:H) (i o:Nat) (hl:o+l.length≤vs.length):storeE (some (.cells vs md)) h i o l=some (h.put i (.cells (writeN vs o l) md)):=by
  cases md with
  | ro=>cases hm
  | rw=>exact z1v _ _ _ _ _ hl
  | sh=>exact m_storeEs _ _ _ _ _ hl
def BySh (h:H) (k off l:Nat):Prop:=∃ vs m,h.get k=some (.cells vs m)∧isRo m=false∧off+l≤vs.length∧∀ j,j<l→∃ x:Int,vs[off+j]?=some (.int .u8 x)
def ScSh (B pd:Nat) (a b:Option (Nat × Nat)) (h:H) (l:Nat) (bi:Option (Nat × Nat)):Prop:=l=0∨∃ k off,bi=some (k,off)∧B≤k∧k≠pd∧a≠some (k,0)∧b≠some (k,0)∧BySh h k off l
def RwSh (B pd:Nat) (a b:Option (Nat × Nat)) (sz fs fn:Nat) (kd:IntKind) (r:Option (Nat × Nat)) (n:Nat) (h:H):Prop:=n=0∨∃ q cs,r=some (q,0)∧B≤q∧q≠pd∧h.get q=some (.cells cs .rw)∧cs.length=n*sz∧∀ i,i<n→(∃ s:Int,cs[i*sz+fn]?=some (.int kd s))∧∃ bi l ci ei,cs[i*sz+fs]?=some (.slice bi l ci ei)∧l≤3000∧ScSh B pd a b h l bi
structure SpH (B pd:Nat) (P2:List V) (a b:Option (Nat × Nat)) (n m:Nat) (h0 h:H):Prop where
  gp:h.get pd=some (.cells P2 .rw)
  ri:RwSh B pd a b 35 33 34 .u32 a n h
  ro:RwSh B pd a b 2 1 0 .i64 b m h
  nx:h.next=h0.next
  fr:∀ j,j<B→h.get j=h0.get j
theorem ScSh.put {B pd:Nat} {a b:Option (Nat × Nat)} {h:H} {l:Nat} {bi:Option (Nat × Nat)} (s:ScSh B pd a b h l bi) {q:Nat} {v:Blk} (hq:(∃ z,a=some (q,z)∧z=0)∨(∃ z,b=some (q,z)∧z=0)):ScSh B pd a b (h.put q v) l bi:=by
  rcases s with s | ⟨k,off,e1,e2,e3,e4,e5,vs,m,g,r⟩
  · exact .inl s
  · have hk:q≠k:=by
      rcases hq with ⟨z,h1,rfl⟩ | ⟨z,h1,rfl⟩
      · intro hh; rw [hh] at h1; exact e4 h1
      · intro hh; rw [hh] at h1; exact e5 h1
    exact .inr ⟨k,off,e1,e2,e3,e4,e5,vs,m,by rw [z1o _ _ hk,g],r⟩
theorem ScSh.byte {B pd:Nat} {a b:Option (Nat × Nat)} {h:H} {l:Nat} {bi:Option (Nat × Nat)} (s:ScSh B pd a b h l bi) {k j:Nat} {vs:List V} {m:Md} (g:h.get k=some (.cells vs m)) (hm:isRo m=false) (y:Int):ScSh B pd a b (h.put k (.cells (vs.set j (.int .u8 y)) m)) l bi:=by
  rcases s with s | ⟨k2,off,e1,e2,e3,e4,e5,vs2,m2,g2,hm2,hl,at_⟩
  · exact .inl s
  · by_cases hk:k=k2
    · subst hk
      rw [g] at g2
      cases g2
      refine .inr ⟨k,off,e1,e2,e3,e4,e5,_,m,z1f _ _ _,hm,by rw [List.length_set]; exact hl,fun i hi=>?_⟩
      rw [List.getElem?_set]
      by_cases hj:j=off+i
      · rw [if_pos hj,if_pos (by omega)]; exact ⟨y,rfl⟩
      · rw [if_neg hj]; exact at_ i hi
    · exact .inr ⟨k2,off,e1,e2,e3,e4,e5,vs2,m2,by rw [z1o _ _ hk,g2],hm2,hl,at_⟩
theorem RwSh.byte {B pd:Nat} {a b:Option (Nat × Nat)} {sz fs fn:Nat} {kd:IntKind} {r:Option (Nat × Nat)} {n:Nat} {h:H} (s:RwSh B pd a b sz fs fn kd r n h) {k j:Nat} {vs:List V} {m:Md} (g:h.get k=some (.cells vs m)) (hm:isRo m=false) (hk:r≠some (k,0)) (y:Int):RwSh B pd a b sz fs fn kd r n (h.put k (.cells (vs.set j (.int .u8 y)) m)):=by
  rcases s with s | ⟨q,cs,e1,e2,e3,gq,lc,at_⟩
  · exact .inl s
  · refine .inr ⟨q,cs,e1,e2,e3,by rw [z1o _ _ (fun hh=>hk (by rw [e1,hh])),gq],lc,fun i hi=>?_⟩
    obtain ⟨h1,bi,l,ci,ei,h2,h3,h4⟩:=at_ i hi
    exact ⟨h1,bi,l,ci,ei,h2,h3,h4.byte g hm y⟩
theorem RwSh.other {B pd:Nat} {a b:Option (Nat × Nat)} {sz fs fn:Nat} {kd:IntKind} {r:Option (Nat × Nat)} {n:Nat} {h:H} (s:RwSh B pd a b sz fs fn kd r n h) {q:Nat} {v:Blk} (hq:a=some (q,0)∨b=some (q,0)) (hr:r≠some (q,0)):RwSh B pd a b sz fs fn kd r n (h.put q v):=by
  rcases s with s | ⟨q2,cs,e1,e2,e3,gq,lc,at_⟩
  · exact .inl s
  · refine .inr ⟨q2,cs,e1,e2,e3,by rw [z1o _ _ (fun hh=>hr (by rw [e1,hh])),gq],lc,fun i hi=>?_⟩
    obtain ⟨h1,bi,l,ci,ei,h2,h3,h4⟩:=at_ i hi
    refine ⟨h1,bi,l,ci,ei,h2,h3,h4.put ?_⟩
    rcases hq with hq | hq
    · exact .inl ⟨0,hq,rfl⟩
    · exact .inr ⟨0,hq,rfl⟩
theorem RwSh.num {B pd:Nat} {a b:Option (Nat × Nat)} {sz fs fn:Nat} {kd:IntKind} {r:Option (Nat × Nat)} {n:Nat} {h:H} {q:Nat} {cs:List V} (e1:r=some (q,0)) (hq:a=some (q,0)∨b=some (q,0)) (e2:B≤q) (e3:q≠pd) (lc:cs.length=n*sz) (at_:∀ i,i<n→(∃ s:Int,cs[i*sz+fn]?=some (.int kd s))∧∃ bi l ci ei,cs[i*sz+fs]?=some (.slice bi l ci ei)∧l≤3000∧ScSh B pd a b h l bi) (i:Nat) (hi:i<n) (hf:∀ j,i*sz+fn≠j*sz+fs) (y:Int):RwSh B pd a b sz fs fn kd r n (h.put q (.cells (cs.set (i*sz+fn) (.int kd y)) .rw)):=by
  refine .inr ⟨q,_,e1,e2,e3,z1f _ _ _,by rw [List.length_set]; exact lc,fun j hj=>?_⟩
  obtain ⟨⟨s,h1⟩,bi,l,ci,ei,h2,h3,h4⟩:=at_ j hj
  refine ⟨?_,bi,l,ci,ei,by rw [List.getElem?_set,if_neg (hf j)]; exact h2,h3,h4.put ?_⟩
  · rw [List.getElem?_set]
    split
    · rename_i hh
      rw [if_pos (by rw [hh]; exact (List.getElem?_eq_some_iff.1 h1).1)]
      exact ⟨y,rfl⟩
    · exact ⟨s,h1⟩
  · rcases hq with hq | hq
    · exact .inl ⟨0,hq,rfl⟩
    · exact .inr ⟨0,hq,rfl⟩
structure KT (pd:Nat) (v2 v5 v15:V) (T:Tr V):Prop where
  k2:evO T (.t 2)=v2
  k5:evO T (.t 5)=v5
  k15:evO T (.t 15)=v15
  k14:evO T (.t 14)=.ptr (some (pd,0))
structure SpInI (B pd:Nat) (P2:List V) (a b:Option (Nat × Nat)) (n m:Nat) (v2 v5 v15:V) (h0:H) (i l j:Nat) (T:Tr V) (h:H):Prop where
  k:KT pd v2 v5 v15 T
  ti:evO T (.t 16)=.int .i64 (i:Int)
  tn:evO T (.t 105)=.int .i64 (n:Int)
  tk:evO T (.t 106)=.int .i64 (i:Int)
  tl:evO T (.t 124)=.int .i64 (l:Int)
  tc:evO T (.t 125)=.int .i64 (j:Int)
  sh:SpH B pd P2 a b n m h0 h
  at_:∃ q cs bi ci ei,a=some (q,0)∧h.get q=some (.cells cs .rw)∧cs[i*35+33]?=some (.slice bi l ci ei)∧ScSh B pd a b h l bi
theorem spIn_in (Q:Orc) (mm:Nat) (B pd:Nat) (P2:List V) (a b:Option (Nat × Nat)) (n m:Nat) (hn:n≤1000) (hm:m≤1000) (hdis:∀ q z z',a=some (q,z)→b=some (q,z')→False) (cc:Option Nat) (ec:Nat) (hP:P2[1]?=some (.slice a n cc ec)) (hB:B≤pd) (v2 v5 v15:V) (h0:H) (i l:Nat) (hi:i<n) (hl:l≤3000) :
    ∀ j T h,j<l→SpInI B pd P2 a b n m v2 v5 v15 h0 i l j T h→∃ T' h',evC Q 185 mm none L_purserlaw06_TxForms_0 ⟨T,[],h⟩=some (.normal,⟨T',[],h'⟩)∧SpInI B pd P2 a b n m v2 v5 v15 h0 i l (j+1) T' h':=by
  intro j T h hj ⟨⟨k2,k5,k15,k14⟩,ti,tn,tk,tl,tc,⟨gp,ri,ro,nx,fr⟩,⟨q,cs,bi,ci,ei,er,gq,cg,sc⟩⟩
  rcases id sc with s0 | ⟨k,off,rfl,e2,e3,e4,e5,vs,md,gk,hmd,hlv,at_⟩
  · omega
  obtain ⟨x,hx⟩:=at_ j hj
  have hlt:off+j<vs.length:=by omega
  have c0:decide ((j:Int)<(l:Int))=true:=decide_eq_true (by omega)
  have wi:wr .i64 ((j:Int)+1)=((j+1:Nat):Int):=by rw [z1u (by omega)]; omega
  have ix:idx (i:Int) n=some i:=idxn hi
  have iy:idx (j:Int) l=some j:=idxn hj
  have kq:k≠q:=by intro hh; subst hh; first | exact e4 er | exact e5 er
  have st:∀ h' y,storeE (some (.cells vs md)) h' k (off+j) [.int .u8 y]=some (h'.put k (.cells (vs.set (off+j) (.int .u8 y)) md)):=fun h' y=>by
    rw [stMd _ _ _ hmd _ _ _ (by simp only [List.length_cons,List.length_nil]; omega),z2w _ _ _ hlt]
  obtain ⟨h2,eh2⟩:∃ h2,h.put k (.cells (vs.set (off+j) (.int .u8 (wr .u8 (x+1)))) md)=h2:=⟨_,rfl⟩
  have ri2:=ri.byte (j:=off+j) gk hmd e4 (wr .u8 (x+1))
  have ro2:=ro.byte (j:=off+j) gk hmd e5 (wr .u8 (x+1))
  have sc2:=sc.byte (j:=off+j) gk hmd (wr .u8 (x+1))
  rw [eh2] at ri2 ro2 sc2
  have gp2:h2.get pd=some (.cells P2 .rw):=by rw [← eh2,z1o _ _ e3,gp]
  have gq2:h2.get q=some (.cells cs .rw):=by rw [← eh2,z1o _ _ kq,gq]
  have sh2:SpH B pd P2 a b n m h0 h2:=⟨gp2,ri2,ro2,by rw [← eh2,zr,nx],fun j' hj'=>by rw [← eh2,z1o _ _ (by omega),fr _ hj']⟩
  clear ri ro ri2 ro2 at_ sc
  subst er
  exact ⟨_,h2,by
    simp (config:={maxSteps:=2000000}) (disch:=first | omega | (simp only [List.length_cons,List.length_nil,List.length_append,List.length_drop]; omega)) only [L_purserlaw06_TxForms_0,k14,ti,tl,tc,gp,hP,c0,wi,ix,iy,gq,cg,gk,hx,st,eh2,zj,z2f,↓zn,z14,Nat.zero_add,Nat.mul_one,↓z1e,z1c,↓zj,zj,↓m_st,z2p,z2f,↓z2g,z23,z21,↓z1p,↓zw,↓zy,↓z10,↓z15,↓zu,↓s_op,↓zf,zf,↓zd,zd,zk,↓zg,zg,zt,↓zb,↓zm,↓z17,↓z12,↓z1h,zp,z1y,z2z,↓za,↓z9,za,z9,Nat.zero_add,Nat.reduceEqDiff,decide_true,decide_false]
    exact rfl,⟨(by (simp only [zb,zm,Nat.reduceEqDiff,decide_false,z9,k2]; try rfl)),(by (simp only [zb,zm,Nat.reduceEqDiff,decide_false,z9,k5]; try rfl)),(by (simp only [zb,zm,Nat.reduceEqDiff,decide_false,z9,k15]; try rfl)),(by (simp only [zb,zm,Nat.reduceEqDiff,decide_false,z9,k14]; try rfl))⟩,(by (simp only [zb,zm,Nat.reduceEqDiff,decide_false,z9,ti]; try rfl)),(by (simp only [zb,zm,Nat.reduceEqDiff,decide_false,z9,tn]; try rfl)),(by (simp only [zb,zm,Nat.reduceEqDiff,decide_false,z9,tk]; try rfl)),(by (simp only [zb,zm,Nat.reduceEqDiff,decide_false,z9,tl]; try rfl)),(by (simp only [zb,decide_true,za]; try rfl)),sh2,⟨q,cs,_,ci,ei,rfl,gq2,cg,sc2⟩⟩
structure SpInJ (B pd:Nat) (P2:List V) (a b:Option (Nat × Nat)) (n m:Nat) (v2 v5 v15:V) (h0:H) (i:Nat) (T:Tr V) (h:H):Prop where
  k:KT pd v2 v5 v15 T
  tn:evO T (.t 105)=.int .i64 (n:Int)
  tk:evO T (.t 106)=.int .i64 (i:Int)
  sh:SpH B pd P2 a b n m h0 h
set_option maxHeartbeats 100000000 in
theorem spIn_out (Q:Orc) (mm:Nat) (hmm:3001<mm) (B pd:Nat) (P2:List V) (a b:Option (Nat × Nat)) (n m:Nat) (hn:n≤1000) (hm:m≤1000) (hdis:∀ q z z',a=some (q,z)→b=some (q,z')→False) (cc:Option Nat) (ec:Nat) (hP:P2[1]?=some (.slice a n cc ec)) (hB:B≤pd) (v2 v5 v15:V) (h0:H) :
    ∀ i T h,i<n→SpInJ B pd P2 a b n m v2 v5 v15 h0 i T h→∃ T' h',evC Q 185 mm none L_purserlaw06_TxForms_1 ⟨T,[],h⟩=some (.normal,⟨T',[],h'⟩)∧SpInJ B pd P2 a b n m v2 v5 v15 h0 (i+1) T' h':=by
  intro i T h hi ⟨⟨k2,k5,k15,k14⟩,tn,tk,⟨gp,ri,ro,nx,fr⟩⟩
  rcases id ri with s0 | ⟨q,cs,er,e2,e3,gq,lc,at_⟩
  · omega
  obtain ⟨⟨s,hs⟩,bi,l,ci,ei,cg,hl,sc⟩:=at_ i hi
  replace hs:cs[i*35+34]?=some (.int .u32 s):=hs
  have hlt:i*35+34<cs.length:=(List.getElem?_eq_some_iff.1 hs).1
  have hor:a=some (q,0)∨b=some (q,0):=.inl er
  have c0:decide ((i:Int)<(n:Int))=true:=decide_eq_true (by omega)
  have wi:wr .i64 ((i:Int)+1)=((i+1:Nat):Int):=by rw [z1u (by omega)]; omega
  have ix:idx (i:Int) n=some i:=idxn hi
  have st:∀ h' y,storeE (some (.cells cs .rw)) h' q (i*35+34) [.int .u32 y]=some (h'.put q (.cells (cs.set (i*35+34) (.int .u32 y)) .rw)):=fun h' y=>by
    rw [z1v _ _ _ _ _ (by simp only [List.length_cons,List.length_nil]; omega),z2w _ _ _ hlt]
  obtain ⟨h2,eh2⟩:∃ h2,h.put q (.cells (cs.set (i*35+34) (.int .u32 (wr .u32 (s+1)))) .rw)=h2:=⟨_,rfl⟩
  have cg2:(cs.set (i*35+34) (.int .u32 (wr .u32 (s+1))))[i*35+33]?=some (.slice bi l ci ei):=by rw [List.getElem?_set,if_neg (by omega)]; exact cg
  have r1:RwSh B pd a b 35 33 34 .u32 a n (h.put q (.cells (cs.set (i*35+34) (.int .u32 (wr .u32 (s+1)))) .rw)):=RwSh.num (fs:=33) er hor e2 e3 lc at_ i hi (by intro j; omega) (wr .u32 (s+1))
  have r2:=ro.other (v:=.cells (cs.set (i*35+34) (.int .u32 (wr .u32 (s+1)))) .rw) hor (by intro hh; first | exact hdis _ _ _ er hh | exact hdis _ _ _ hh er)
  have sc2:=sc.put (v:=.cells (cs.set (i*35+34) (.int .u32 (wr .u32 (s+1)))) .rw) (q:=q) (by rcases hor with hh | hh; exact .inl ⟨0,hh,rfl⟩; exact .inr ⟨0,hh,rfl⟩)
  rw [eh2] at r1 r2 sc2
  have gp2:h2.get pd=some (.cells P2 .rw):=by rw [← eh2,z1o _ _ e3,gp]
  have gq2:h2.get q=some (.cells (cs.set (i*35+34) (.int .u32 (wr .u32 (s+1)))) .rw):=by rw [← eh2]; exact z1f _ _ _
  have sh2:SpH B pd P2 a b n m h0 h2:=⟨gp2,r1,r2,by rw [← eh2,zr,nx],fun j' hj'=>by rw [← eh2,z1o _ _ (by omega),fr _ hj']⟩
  have fin:∀ T,KT pd v2 v5 v15 T→evO T (.t 16)=.int .i64 (i:Int)→evO T (.t 105)=.int .i64 (n:Int)→evO T (.t 106)=.int .i64 (i:Int)→evO T (.t 124)=.int .i64 (l:Int)→evO T (.t 125)=.int .i64 ((0:Nat):Int) →
      ∃ T' h',bindE (blockE 1 (blockE 2 (loopN (evC Q 185 mm none L_purserlaw06_TxForms_0) mm ⟨T,[],h2⟩))) (evC Q 185 mm none R_purserlaw06_TxForms_0)=some (.normal,⟨T',[],h'⟩)∧SpInJ B pd P2 a b n m v2 v5 v15 h0 (i+1) T' h':=by
    intro T kt ti tn tk tl tc
    obtain ⟨T',h',r,J⟩:=z22 (f:=evC Q 185 mm none L_purserlaw06_TxForms_0) (SpInI B pd P2 a b n m v2 v5 v15 h0 i l) l (.exit 2) (by intro h; cases h) (SpInI B pd P2 a b n m v2 v5 v15 h0 i l l) (spIn_in Q mm B pd P2 a b n m hn hm hdis cc ec hP hB v2 v5 v15 h0 i l hi hl) (fun T h' I=>by
      obtain ⟨⟨k2,k5,k15,k14⟩,ti,tn,tk,tl,tc,sh,at_⟩:=I
      have c0:decide ((l:Int)<(l:Int))=false:=decide_eq_false (by omega)
      exact ⟨_,h',by
        simp (config:={maxSteps:=2000000}) (disch:=first | omega | (simp only [List.length_cons,List.length_nil,List.length_append,List.length_drop]; omega)) only [L_purserlaw06_TxForms_0,tl,tc,c0,↓zw,↓zy,↓z10,↓z2b,↓zu,↓s_op,↓zf,zf,↓zd,zd,z16,zk,↓zg,zg,↓zb,↓z1h,zp,z1y,↓za,↓z9,za,z9,decide_true]
        exact rfl,⟨⟨(by (simp only [zb,Nat.reduceEqDiff,decide_false,z9,k2]; try rfl)),(by (simp only [zb,Nat.reduceEqDiff,decide_false,z9,k5]; try rfl)),(by (simp only [zb,Nat.reduceEqDiff,decide_false,z9,k15]; try rfl)),(by (simp only [zb,Nat.reduceEqDiff,decide_false,z9,k14]; try rfl))⟩,(by (simp only [zb,Nat.reduceEqDiff,decide_false,z9,ti]; try rfl)),(by (simp only [zb,Nat.reduceEqDiff,decide_false,z9,tn]; try rfl)),(by (simp only [zb,Nat.reduceEqDiff,decide_false,z9,tk]; try rfl)),(by (simp only [zb,Nat.reduceEqDiff,decide_false,z9,tl]; try rfl)),(by (simp only [zb,Nat.reduceEqDiff,decide_false,z9,tc]; try rfl)),sh,at_⟩⟩) l 0 (by omega) mm (by omega) T h2 ⟨kt,ti,tn,tk,tl,tc,sh2,⟨q,_,bi,ci,ei,er,gq2,cg2,sc2⟩⟩
    obtain ⟨⟨k2,k5,k15,k14⟩,u1,u2,u3,_,_,sh,_⟩:=J
    rw [r]
    exact ⟨_,h',by
      simp (config:={maxSteps:=2000000}) (disch:=first | omega | (simp only [List.length_cons,List.length_nil,List.length_append,List.length_drop]; omega)) only [R_purserlaw06_TxForms_0,u3,wi,↓zw,↓zu,↓s_op,↓zf,zf,↓zd,zd,zk,zt,z1b,↓zb,↓z17,↓z12,↓z1h,zp,z2z,↓za,za,decide_true,if_true]
      exact rfl,⟨⟨(by (simp only [zb,Nat.reduceEqDiff,decide_false,z9,k2]; try rfl)),(by (simp only [zb,Nat.reduceEqDiff,decide_false,z9,k5]; try rfl)),(by (simp only [zb,Nat.reduceEqDiff,decide_false,z9,k15]; try rfl)),(by (simp only [zb,Nat.reduceEqDiff,decide_false,z9,k14]; try rfl))⟩,(by (simp only [zb,Nat.reduceEqDiff,decide_false,z9,u2]; try rfl)),(by (simp only [zb,decide_true,za]; try rfl)),sh⟩⟩
  obtain ⟨R,eR⟩:∃ R,R_purserlaw06_TxForms_0=R:=⟨_,rfl⟩
  obtain ⟨Lo,eL⟩:∃ R,L_purserlaw06_TxForms_0=R:=⟨_,rfl⟩
  rw [eR,eL] at fin
  clear ri ro r1 r2 at_ sc sc2 sh2 hdis
  subst er
  simp (config:={maxSteps:=2000000}) (disch:=first | omega | (simp only [List.length_cons,List.length_nil,List.length_append,List.length_drop]; omega)) only [L_purserlaw06_TxForms_1,eR,eL,k14,tn,tk,gp,hP,c0,ix,gq,hs,st,eh2,gp2,gq2,cg2,zj,z2f,↓z1q,z18,↓zn,z14,Nat.zero_add,↓z2k,↓z1e,z1c,↓zj,zj,↓m_st,z2p,z2f,↓z2g,z23,z21,z18,↓z1q,↓z1p,↓zw,↓zy,↓z10,↓z15,↓zu,↓s_op,↓zf,zf,↓zd,zd,zk,↓zg,zg,↓zb,↓zm,↓z17,↓z12,↓z1h,zp,z1y,z2z,↓za,↓z9,za,z9,Nat.zero_add,Nat.reduceEqDiff,decide_true,decide_false]
  exact fin _ ⟨(by (simp only [zb,zm,Nat.reduceEqDiff,decide_false,z9,k2]; try rfl)),(by (simp only [zb,zm,Nat.reduceEqDiff,decide_false,z9,k5]; try rfl)),(by (simp only [zb,zm,Nat.reduceEqDiff,decide_false,z9,k15]; try rfl)),(by (simp only [zb,zm,Nat.reduceEqDiff,decide_false,z9,k14]; try rfl))⟩ (by (simp only [zb,zm,Nat.reduceEqDiff,decide_false,decide_true,z9,za]; try rfl)) (by (simp only [zb,zm,Nat.reduceEqDiff,decide_false,z9,tn]; try rfl)) (by (simp only [zb,zm,Nat.reduceEqDiff,decide_false,z9,tk]; try rfl)) (by (simp only [zb,Nat.reduceEqDiff,decide_false,decide_true,z9,za]; try rfl)) (by (simp only [zb,decide_true,za]; try rfl))
structure SpOutI (B pd:Nat) (P2:List V) (a b:Option (Nat × Nat)) (n m:Nat) (v2 v5 v15:V) (h0:H) (i l j:Nat) (T:Tr V) (h:H):Prop where
  k:KT pd v2 v5 v15 T
  ti:evO T (.t 18)=.int .i64 (i:Int)
  tn:evO T (.t 143)=.int .i64 (m:Int)
  tk:evO T (.t 144)=.int .i64 (i:Int)
  tl:evO T (.t 162)=.int .i64 (l:Int)
  tc:evO T (.t 163)=.int .i64 (j:Int)
  sh:SpH B pd P2 a b n m h0 h
  at_:∃ q cs bi ci ei,b=some (q,0)∧h.get q=some (.cells cs .rw)∧cs[i*2+1]?=some (.slice bi l ci ei)∧ScSh B pd a b h l bi
theorem spOut_in (Q:Orc) (mm:Nat) (B pd:Nat) (P2:List V) (a b:Option (Nat × Nat)) (n m:Nat) (hn:n≤1000) (hm:m≤1000) (hdis:∀ q z z',a=some (q,z)→b=some (q,z')→False) (cc:Option Nat) (ec:Nat) (hP:P2[2]?=some (.slice b m cc ec)) (hB:B≤pd) (v2 v5 v15:V) (h0:H) (i l:Nat) (hi:i<m) (hl:l≤3000) :
    ∀ j T h,j<l→SpOutI B pd P2 a b n m v2 v5 v15 h0 i l j T h→∃ T' h',evC Q 185 mm none L_purserlaw06_TxForms_2 ⟨T,[],h⟩=some (.normal,⟨T',[],h'⟩)∧SpOutI B pd P2 a b n m v2 v5 v15 h0 i l (j+1) T' h':=by
  intro j T h hj ⟨⟨k2,k5,k15,k14⟩,ti,tn,tk,tl,tc,⟨gp,ri,ro,nx,fr⟩,⟨q,cs,bi,ci,ei,er,gq,cg,sc⟩⟩
  rcases id sc with s0 | ⟨k,off,rfl,e2,e3,e4,e5,vs,md,gk,hmd,hlv,at_⟩
  · omega
  obtain ⟨x,hx⟩:=at_ j hj
  have hlt:off+j<vs.length:=by omega
  have c0:decide ((j:Int)<(l:Int))=true:=decide_eq_true (by omega)
  have wi:wr .i64 ((j:Int)+1)=((j+1:Nat):Int):=by rw [z1u (by omega)]; omega
  have ix:idx (i:Int) m=some i:=idxn hi
  have iy:idx (j:Int) l=some j:=idxn hj
  have kq:k≠q:=by intro hh; subst hh; first | exact e4 er | exact e5 er
  have st:∀ h' y,storeE (some (.cells vs md)) h' k (off+j) [.int .u8 y]=some (h'.put k (.cells (vs.set (off+j) (.int .u8 y)) md)):=fun h' y=>by
    rw [stMd _ _ _ hmd _ _ _ (by simp only [List.length_cons,List.length_nil]; omega),z2w _ _ _ hlt]
  obtain ⟨h2,eh2⟩:∃ h2,h.put k (.cells (vs.set (off+j) (.int .u8 (wr .u8 (x+1)))) md)=h2:=⟨_,rfl⟩
  have ri2:=ri.byte (j:=off+j) gk hmd e4 (wr .u8 (x+1))
  have ro2:=ro.byte (j:=off+j) gk hmd e5 (wr .u8 (x+1))
  have sc2:=sc.byte (j:=off+j) gk hmd (wr .u8 (x+1))
  rw [eh2] at ri2 ro2 sc2
  have gp2:h2.get pd=some (.cells P2 .rw):=by rw [← eh2,z1o _ _ e3,gp]
  have gq2:h2.get q=some (.cells cs .rw):=by rw [← eh2,z1o _ _ kq,gq]
  have sh2:SpH B pd P2 a b n m h0 h2:=⟨gp2,ri2,ro2,by rw [← eh2,zr,nx],fun j' hj'=>by rw [← eh2,z1o _ _ (by omega),fr _ hj']⟩
  clear ri ro ri2 ro2 at_ sc
  subst er
  exact ⟨_,h2,by
    simp (config:={maxSteps:=2000000}) (disch:=first | omega | (simp only [List.length_cons,List.length_nil,List.length_append,List.length_drop]; omega)) only [L_purserlaw06_TxForms_2,k14,ti,tl,tc,gp,hP,c0,wi,ix,iy,gq,cg,gk,hx,st,eh2,zj,z2f,↓zn,z14,Nat.zero_add,Nat.mul_one,↓z1e,z1c,↓zj,zj,↓m_st,z2p,z2f,↓z2g,z23,z21,↓z1p,↓zw,↓zy,↓z10,↓z15,↓zu,↓s_op,↓zf,zf,↓zd,zd,zk,↓zg,zg,zt,↓zb,↓zm,↓z17,↓z12,↓z1h,zp,z1y,z2z,↓za,↓z9,za,z9,Nat.zero_add,Nat.reduceEqDiff,decide_true,decide_false]
    exact rfl,⟨(by (simp only [zb,zm,Nat.reduceEqDiff,decide_false,z9,k2]; try rfl)),(by (simp only [zb,zm,Nat.reduceEqDiff,decide_false,z9,k5]; try rfl)),(by (simp only [zb,zm,Nat.reduceEqDiff,decide_false,z9,k15]; try rfl)),(by (simp only [zb,zm,Nat.reduceEqDiff,decide_false,z9,k14]; try rfl))⟩,(by (simp only [zb,zm,Nat.reduceEqDiff,decide_false,z9,ti]; try rfl)),(by (simp only [zb,zm,Nat.reduceEqDiff,decide_false,z9,tn]; try rfl)),(by (simp only [zb,zm,Nat.reduceEqDiff,decide_false,z9,tk]; try rfl)),(by (simp only [zb,zm,Nat.reduceEqDiff,decide_false,z9,tl]; try rfl)),(by (simp only [zb,decide_true,za]; try rfl)),sh2,⟨q,cs,_,ci,ei,rfl,gq2,cg,sc2⟩⟩
structure SpOutJ (B pd:Nat) (P2:List V) (a b:Option (Nat × Nat)) (n m:Nat) (v2 v5 v15:V) (h0:H) (i:Nat) (T:Tr V) (h:H):Prop where
  k:KT pd v2 v5 v15 T
  tn:evO T (.t 143)=.int .i64 (m:Int)
  tk:evO T (.t 144)=.int .i64 (i:Int)
  sh:SpH B pd P2 a b n m h0 h
set_option maxHeartbeats 100000000 in
theorem spOut_out (Q:Orc) (mm:Nat) (hmm:3001<mm) (B pd:Nat) (P2:List V) (a b:Option (Nat × Nat)) (n m:Nat) (hn:n≤1000) (hm:m≤1000) (hdis:∀ q z z',a=some (q,z)→b=some (q,z')→False) (cc:Option Nat) (ec:Nat) (hP:P2[2]?=some (.slice b m cc ec)) (hB:B≤pd) (v2 v5 v15:V) (h0:H) :
    ∀ i T h,i<m→SpOutJ B pd P2 a b n m v2 v5 v15 h0 i T h→∃ T' h',evC Q 185 mm none L_purserlaw06_TxForms_3 ⟨T,[],h⟩=some (.normal,⟨T',[],h'⟩)∧SpOutJ B pd P2 a b n m v2 v5 v15 h0 (i+1) T' h':=by
  intro i T h hi ⟨⟨k2,k5,k15,k14⟩,tn,tk,⟨gp,ri,ro,nx,fr⟩⟩
  rcases id ro with s0 | ⟨q,cs,er,e2,e3,gq,lc,at_⟩
  · omega
  obtain ⟨⟨s,hs⟩,bi,l,ci,ei,cg,hl,sc⟩:=at_ i hi
  replace hs:cs[i*2]?=some (.int .i64 s):=hs
  have hlt:i*2<cs.length:=(List.getElem?_eq_some_iff.1 hs).1
  have hor:a=some (q,0)∨b=some (q,0):=.inr er
  have c0:decide ((i:Int)<(m:Int))=true:=decide_eq_true (by omega)
  have wi:wr .i64 ((i:Int)+1)=((i+1:Nat):Int):=by rw [z1u (by omega)]; omega
  have ix:idx (i:Int) m=some i:=idxn hi
  have st:∀ h' y,storeE (some (.cells cs .rw)) h' q (i*2) [.int .i64 y]=some (h'.put q (.cells (cs.set (i*2) (.int .i64 y)) .rw)):=fun h' y=>by
    rw [z1v _ _ _ _ _ (by simp only [List.length_cons,List.length_nil]; omega),z2w _ _ _ hlt]
  obtain ⟨h2,eh2⟩:∃ h2,h.put q (.cells (cs.set (i*2) (.int .i64 (wr .i64 (s+1)))) .rw)=h2:=⟨_,rfl⟩
  have cg2:(cs.set (i*2) (.int .i64 (wr .i64 (s+1))))[i*2+1]?=some (.slice bi l ci ei):=by rw [List.getElem?_set,if_neg (by omega)]; exact cg
  have r1:RwSh B pd a b 2 1 0 .i64 b m (h.put q (.cells (cs.set (i*2) (.int .i64 (wr .i64 (s+1)))) .rw)):=RwSh.num (fs:=1) er hor e2 e3 lc at_ i hi (by intro j; omega) (wr .i64 (s+1))
  have r2:=ri.other (v:=.cells (cs.set (i*2) (.int .i64 (wr .i64 (s+1)))) .rw) hor (by intro hh; first | exact hdis _ _ _ er hh | exact hdis _ _ _ hh er)
  have sc2:=sc.put (v:=.cells (cs.set (i*2) (.int .i64 (wr .i64 (s+1)))) .rw) (q:=q) (by rcases hor with hh | hh; exact .inl ⟨0,hh,rfl⟩; exact .inr ⟨0,hh,rfl⟩)
  rw [eh2] at r1 r2 sc2
  have gp2:h2.get pd=some (.cells P2 .rw):=by rw [← eh2,z1o _ _ e3,gp]
  have gq2:h2.get q=some (.cells (cs.set (i*2) (.int .i64 (wr .i64 (s+1)))) .rw):=by rw [← eh2]; exact z1f _ _ _
  have sh2:SpH B pd P2 a b n m h0 h2:=⟨gp2,r2,r1,by rw [← eh2,zr,nx],fun j' hj'=>by rw [← eh2,z1o _ _ (by omega),fr _ hj']⟩
  have fin:∀ T,KT pd v2 v5 v15 T→evO T (.t 18)=.int .i64 (i:Int)→evO T (.t 143)=.int .i64 (m:Int)→evO T (.t 144)=.int .i64 (i:Int)→evO T (.t 162)=.int .i64 (l:Int)→evO T (.t 163)=.int .i64 ((0:Nat):Int) →
      ∃ T' h',bindE (blockE 5 (blockE 6 (loopN (evC Q 185 mm none L_purserlaw06_TxForms_2) mm ⟨T,[],h2⟩))) (evC Q 185 mm none R_purserlaw06_TxForms_1)=some (.normal,⟨T',[],h'⟩)∧SpOutJ B pd P2 a b n m v2 v5 v15 h0 (i+1) T' h':=by
    intro T kt ti tn tk tl tc
    obtain ⟨T',h',r,J⟩:=z22 (f:=evC Q 185 mm none L_purserlaw06_TxForms_2) (SpOutI B pd P2 a b n m v2 v5 v15 h0 i l) l (.exit 6) (by intro h; cases h) (SpOutI B pd P2 a b n m v2 v5 v15 h0 i l l) (spOut_in Q mm B pd P2 a b n m hn hm hdis cc ec hP hB v2 v5 v15 h0 i l hi hl) (fun T h' I=>by
      obtain ⟨⟨k2,k5,k15,k14⟩,ti,tn,tk,tl,tc,sh,at_⟩:=I
      have c0:decide ((l:Int)<(l:Int))=false:=decide_eq_false (by omega)
      exact ⟨_,h',by
        simp (config:={maxSteps:=2000000}) (disch:=first | omega | (simp only [List.length_cons,List.length_nil,List.length_append,List.length_drop]; omega)) only [L_purserlaw06_TxForms_2,tl,tc,c0,↓zw,↓zy,↓z10,↓z2b,↓zu,↓s_op,↓zf,zf,↓zd,zd,z16,zk,↓zg,zg,↓zb,↓z1h,zp,z1y,↓za,↓z9,za,z9,decide_true]
        exact rfl,⟨⟨(by (simp only [zb,Nat.reduceEqDiff,decide_false,z9,k2]; try rfl)),(by (simp only [zb,Nat.reduceEqDiff,decide_false,z9,k5]; try rfl)),(by (simp only [zb,Nat.reduceEqDiff,decide_false,z9,k15]; try rfl)),(by (simp only [zb,Nat.reduceEqDiff,decide_false,z9,k14]; try rfl))⟩,(by (simp only [zb,Nat.reduceEqDiff,decide_false,z9,ti]; try rfl)),(by (simp only [zb,Nat.reduceEqDiff,decide_false,z9,tn]; try rfl)),(by (simp only [zb,Nat.reduceEqDiff,decide_false,z9,tk]; try rfl)),(by (simp only [zb,Nat.reduceEqDiff,decide_false,z9,tl]; try rfl)),(by (simp only [zb,Nat.reduceEqDiff,decide_false,z9,tc]; try rfl)),sh,at_⟩⟩) l 0 (by omega) mm (by omega) T h2 ⟨kt,ti,tn,tk,tl,tc,sh2,⟨q,_,bi,ci,ei,er,gq2,cg2,sc2⟩⟩
    obtain ⟨⟨k2,k5,k15,k14⟩,u1,u2,u3,_,_,sh,_⟩:=J
    rw [r]
    exact ⟨_,h',by
      simp (config:={maxSteps:=2000000}) (disch:=first | omega | (simp only [List.length_cons,List.length_nil,List.length_append,List.length_drop]; omega)) only [R_purserlaw06_TxForms_1,u3,wi,↓zw,↓zu,↓s_op,↓zf,zf,↓zd,zd,zk,zt,z1b,↓zb,↓z17,↓z12,↓z1h,zp,z2z,↓za,za,decide_true,if_true]
      exact rfl,⟨⟨(by (simp only [zb,Nat.reduceEqDiff,decide_false,z9,k2]; try rfl)),(by (simp only [zb,Nat.reduceEqDiff,decide_false,z9,k5]; try rfl)),(by (simp only [zb,Nat.reduceEqDiff,decide_false,z9,k15]; try rfl)),(by (simp only [zb,Nat.reduceEqDiff,decide_false,z9,k14]; try rfl))⟩,(by (simp only [zb,Nat.reduceEqDiff,decide_false,z9,u2]; try rfl)),(by (simp only [zb,decide_true,za]; try rfl)),sh⟩⟩
  obtain ⟨R,eR⟩:∃ R,R_purserlaw06_TxForms_1=R:=⟨_,rfl⟩
  obtain ⟨Lo,eL⟩:∃ R,L_purserlaw06_TxForms_2=R:=⟨_,rfl⟩
  rw [eR,eL] at fin
  clear ri ro r1 r2 at_ sc sc2 sh2 hdis
  subst er
  simp (config:={maxSteps:=2000000}) (disch:=first | omega | (simp only [List.length_cons,List.length_nil,List.length_append,List.length_drop]; omega)) only [L_purserlaw06_TxForms_3,eR,eL,k14,tn,tk,gp,hP,c0,ix,gq,hs,st,eh2,gp2,gq2,cg2,zj,z2f,↓z1q,z18,↓zn,z14,Nat.zero_add,Nat.add_zero,↓z2k,↓z1e,z1c,↓zj,zj,↓m_st,z2p,z2f,↓z2g,z23,z21,z18,↓z1q,↓z1p,↓zw,↓zy,↓z10,↓z15,↓zu,↓s_op,↓zf,zf,↓zd,zd,zk,↓zg,zg,↓zb,↓zm,↓z17,↓z12,↓z1h,zp,z1y,z2z,↓za,↓z9,za,z9,Nat.zero_add,Nat.reduceEqDiff,decide_true,decide_false]
  exact fin _ ⟨(by (simp only [zb,zm,Nat.reduceEqDiff,decide_false,z9,k2]; try rfl)),(by (simp only [zb,zm,Nat.reduceEqDiff,decide_false,z9,k5]; try rfl)),(by (simp only [zb,zm,Nat.reduceEqDiff,decide_false,z9,k15]; try rfl)),(by (simp only [zb,zm,Nat.reduceEqDiff,decide_false,z9,k14]; try rfl))⟩ (by (simp only [zb,zm,Nat.reduceEqDiff,decide_false,decide_true,z9,za]; try rfl)) (by (simp only [zb,zm,Nat.reduceEqDiff,decide_false,z9,tn]; try rfl)) (by (simp only [zb,zm,Nat.reduceEqDiff,decide_false,z9,tk]; try rfl)) (by (simp only [zb,Nat.reduceEqDiff,decide_false,decide_true,z9,za]; try rfl)) (by (simp only [zb,decide_true,za]; try rfl))
theorem sc_of {B pd:Nat} {a b:Option (Nat × Nat)} {h h':H} {l:List Nat} {bi:Option (Nat × Nat)} {ei:Nat} {S:Nat→Prop} (s:SrcW S h bi ei l) (w:∀ j,S j→j<h.next→B≤j∧j≠pd∧a≠some (j,0)∧b≠some (j,0)∧h'.get j=h.get j):ScSh B pd a b h' l.length bi:=by
  rcases s with rfl | ⟨k,off,vs,m,e1,e2,hk,hb,g,hl,hv,hm⟩
  · exact .inl rfl
  · obtain ⟨w1,w2,w3,w4,w5⟩:=w k hk hb
    refine .inr ⟨k,off,e1,w1,w2,w3,w4,vs,m,by rw [w5,g],hm,hl,fun j hj=>?_⟩
    have:((vs.drop off).take l.length)[j]?=(ofI .u8 l)[j]?:=by rw [hv]
    rw [List.getElem?_take_of_lt hj,List.getElem?_drop,z36 _ _ _ hj] at this
    exact ⟨_,this⟩
theorem rwIn_of {B pd:Nat} {a b:Option (Nat × Nat)} {c:Option Nat} {e:Nat} {h h' h'':H} {ops:List InQ} (r:RowN 35 InW h h' b ops a c e) (hB:B=h.next) (sc:∀ o ∈ ops,o.l.length≤3000) (hpd:h'.next≤pd) (f:∀ j,j<h'.next→h''.get j=h'.get j):RwSh B pd a b 35 33 34 .u32 a ops.length h'':=by
  rcases r with ⟨rfl,_⟩ | ⟨hne,q,cs,e1,e2,e3,h1,h2,gq,lc,at_⟩
  · exact .inl rfl
  · refine .inr ⟨q,cs,e1,by omega,by omega,by rw [f _ h2,gq],lc,fun i hi=>?_⟩
    have ho:=List.getElem?_eq_getElem hi
    obtain ⟨bi,ci,ei,eP,ss,l32⟩:=at_ i _ ho
    have c33:=congrArg (fun l=>l[33]?) eP
    have c34:=congrArg (fun l=>l[34]?) eP
    simp only [List.getElem?_take_of_lt (show 33<35 by omega),List.getElem?_take_of_lt (show 34<35 by omega),List.getElem?_drop] at c33 c34
    rw [inV_33 _ bi ci ei l32] at c33
    have e34:(inV ops[i] bi ci ei)[34]?=some (.int .u32 (ops[i].q:Int)):=by
      unfold inV
      rw [List.getElem?_append_right (by rw [z1a]; omega),z1a,l32]; rfl
    rw [e34] at c34
    exact ⟨⟨_,c34⟩,bi,_,ci,ei,c33,sc _ (List.getElem_mem hi),sc_of ss (fun j hj hjn=>⟨by have:=hj.1; omega,by omega,hj.2.1,hj.2.2,f _ hjn⟩)⟩
theorem rwOut_of {B pd:Nat} {a b:Option (Nat × Nat)} {c:Option Nat} {e:Nat} {h h' h'':H} {ops:List OutQ} (r:RowN 2 OutW h h' a ops b c e) (hB:B=h.next) (sc:∀ o ∈ ops,o.l.length≤3000) (hpd:h'.next≤pd) (f:∀ j,j<h'.next→h''.get j=h'.get j):RwSh B pd a b 2 1 0 .i64 b ops.length h'':=by
  rcases r with ⟨rfl,_⟩ | ⟨hne,q,cs,e1,e2,e3,h1,h2,gq,lc,at_⟩
  · exact .inl rfl
  · refine .inr ⟨q,cs,e1,by omega,by omega,by rw [f _ h2,gq],lc,fun i hi=>?_⟩
    have ho:=List.getElem?_eq_getElem hi
    obtain ⟨bi,ci,ei,eP,ss⟩:=at_ i _ ho
    have c0:=congrArg (fun l=>l[0]?) eP
    have c1:=congrArg (fun l=>l[1]?) eP
    simp only [List.getElem?_take_of_lt (show 0<2 by omega),List.getElem?_take_of_lt (show 1<2 by omega),List.getElem?_drop] at c0 c1
    exact ⟨⟨_,c0⟩,bi,_,ci,ei,c1,sc _ (List.getElem_mem hi),sc_of ss (fun j hj hjn=>⟨by have:=hj.1; omega,by omega,hj.2.2,hj.2.1,f _ hjn⟩)⟩
theorem spoil6_go (Q:Orc) (mm:Nat) (hmm:3001<mm) (B pd:Nat) (P2:List V) (a b:Option (Nat × Nat)) (n m:Nat) (hn:n≤1000) (hm:m≤1000) (hdis:∀ q z z',a=some (q,z)→b=some (q,z')→False) (ca cb:Option Nat) (ea eb:Nat) (hP1:P2[1]?=some (.slice a n ca ea)) (hP2:P2[2]?=some (.slice b m cb eb)) (hB:B≤pd) (v2 v5 v15:V) (h0:H) (sh:SpH B pd P2 a b n m h0 h0) (T:Tr V) (k:KT pd v2 v5 v15 T) (tn:evO T (.t 105)=.int .i64 (n:Int)) (tk:evO T (.t 106)=.int .i64 ((0:Nat):Int)) :
    ∃ T' h4,bindE (blockE 0 (loopN (evC Q 185 mm none L_purserlaw06_TxForms_1) mm ⟨T,[],h0⟩)) (evC Q 185 mm none R_purserlaw06_TxForms_3)=evC Q 185 mm none R_purserlaw06_TxForms_2 ⟨T',[],h4⟩∧KT pd v2 v5 v15 T'∧h4.next=h0.next∧∀ j,j<B→h4.get j=h0.get j:=by
  obtain ⟨T1,h1,r1,J1⟩:=z22 (f:=evC Q 185 mm none L_purserlaw06_TxForms_1) (SpInJ B pd P2 a b n m v2 v5 v15 h0) n (.exit 0) (by intro h; cases h) (SpInJ B pd P2 a b n m v2 v5 v15 h0 n) (spIn_out Q mm hmm B pd P2 a b n m hn hm hdis ca ea hP1 hB v2 v5 v15 h0) (fun T h' I=>by
    obtain ⟨⟨k2,k5,k15,k14⟩,tn,tk,sh⟩:=I
    have c0:decide ((n:Int)<(n:Int))=false:=decide_eq_false (by omega)
    exact ⟨_,h',by
      simp (config:={maxSteps:=2000000}) (disch:=first | omega | (simp only [List.length_cons,List.length_nil,List.length_append,List.length_drop]; omega)) only [L_purserlaw06_TxForms_1,tn,tk,c0,↓zw,↓zy,↓z10,↓z2b,↓zu,↓s_op,↓zf,zf,↓zd,zd,z16,zk,↓zg,zg,↓zb,↓z1h,zp,z1y,↓za,↓z9,za,z9,decide_true]
      exact rfl,⟨⟨(by (simp only [zb,Nat.reduceEqDiff,decide_false,z9,k2]; try rfl)),(by (simp only [zb,Nat.reduceEqDiff,decide_false,z9,k5]; try rfl)),(by (simp only [zb,Nat.reduceEqDiff,decide_false,z9,k15]; try rfl)),(by (simp only [zb,Nat.reduceEqDiff,decide_false,z9,k14]; try rfl))⟩,(by (simp only [zb,Nat.reduceEqDiff,decide_false,z9,tn]; try rfl)),(by (simp only [zb,Nat.reduceEqDiff,decide_false,z9,tk]; try rfl)),sh⟩⟩) n 0 (by omega) mm (by omega) T h0 ⟨k,tn,tk,sh⟩
  rw [r1]
  obtain ⟨⟨k2,k5,k15,k14⟩,un,uk,sh1⟩:=J1
  have gp:=sh1.gp
  have fin:∀ T,KT pd v2 v5 v15 T→evO T (.t 143)=.int .i64 (m:Int)→evO T (.t 144)=.int .i64 ((0:Nat):Int)→∃ T' h4,bindE (blockE 4 (loopN (evC Q 185 mm none L_purserlaw06_TxForms_3) mm ⟨T,[],h1⟩)) (evC Q 185 mm none R_purserlaw06_TxForms_2)=evC Q 185 mm none R_purserlaw06_TxForms_2 ⟨T',[],h4⟩∧KT pd v2 v5 v15 T'∧h4.next=h0.next∧∀ j,j<B→h4.get j=h0.get j:=by
    intro T k tn tk
    obtain ⟨T2,h2,r2,J2⟩:=z22 (f:=evC Q 185 mm none L_purserlaw06_TxForms_3) (SpOutJ B pd P2 a b n m v2 v5 v15 h0) m (.exit 4) (by intro h; cases h) (SpOutJ B pd P2 a b n m v2 v5 v15 h0 m) (spOut_out Q mm hmm B pd P2 a b n m hn hm hdis cb eb hP2 hB v2 v5 v15 h0) (fun T h' I=>by
      obtain ⟨⟨k2,k5,k15,k14⟩,tn,tk,sh⟩:=I
      have c0:decide ((m:Int)<(m:Int))=false:=decide_eq_false (by omega)
      exact ⟨_,h',by
        simp (config:={maxSteps:=2000000}) (disch:=first | omega | (simp only [List.length_cons,List.length_nil,List.length_append,List.length_drop]; omega)) only [L_purserlaw06_TxForms_3,tn,tk,c0,↓zw,↓zy,↓z10,↓z2b,↓zu,↓s_op,↓zf,zf,↓zd,zd,z16,zk,↓zg,zg,↓zb,↓z1h,zp,z1y,↓za,↓z9,za,z9,decide_true]
        exact rfl,⟨⟨(by (simp only [zb,Nat.reduceEqDiff,decide_false,z9,k2]; try rfl)),(by (simp only [zb,Nat.reduceEqDiff,decide_false,z9,k5]; try rfl)),(by (simp only [zb,Nat.reduceEqDiff,decide_false,z9,k15]; try rfl)),(by (simp only [zb,Nat.reduceEqDiff,decide_false,z9,k14]; try rfl))⟩,(by (simp only [zb,Nat.reduceEqDiff,decide_false,z9,tn]; try rfl)),(by (simp only [zb,Nat.reduceEqDiff,decide_false,z9,tk]; try rfl)),sh⟩⟩) m 0 (by omega) mm (by omega) T h1 ⟨k,tn,tk,sh1⟩
    rw [r2]
    exact ⟨T2,h2,rfl,J2.k,J2.sh.nx,J2.sh.fr⟩
  obtain ⟨R,eR⟩:∃ R,R_purserlaw06_TxForms_2=R:=⟨_,rfl⟩
  obtain ⟨Lo,eL⟩:∃ R,L_purserlaw06_TxForms_3=R:=⟨_,rfl⟩
  rw [eR,eL] at fin
  rw [eR]
  simp (config:={maxSteps:=2000000}) (disch:=first | omega | (simp only [List.length_cons,List.length_nil,List.length_append,List.length_drop]; omega)) only [R_purserlaw06_TxForms_3,eR,eL,k14,gp,hP2,↓z1q,z18,↓zn,z14,Nat.zero_add,↓z2k,↓z1e,z1c,↓zj,zj,z18,↓z1q,↓zw,↓zy,↓z15,↓zu,↓s_op,↓zf,zf,↓zd,zd,zk,z1b,↓zb,↓z17,↓z12,zp,↓za,za,Nat.zero_add,decide_true,if_true]
  exact fin _ ⟨(by (simp only [zb,Nat.reduceEqDiff,decide_false,z9,k2]; try rfl)),(by (simp only [zb,Nat.reduceEqDiff,decide_false,z9,k5]; try rfl)),(by (simp only [zb,Nat.reduceEqDiff,decide_false,z9,k15]; try rfl)),(by (simp only [zb,Nat.reduceEqDiff,decide_false,z9,k14]; try rfl))⟩ (by (simp only [zb,Nat.reduceEqDiff,decide_false,decide_true,z9,za]; try rfl)) (by (simp only [zb,decide_true,za]; try rfl))
theorem txid2_go (e:EnTw E) (x:NoTw X) (te:EnTe E) (xt:NoTe X) (tcn:EnTc E) (xtc:NoTc X) (ei:E k_tx_Id=some f_tx_Id) (xi:∀ a h,X (.fn k_tx_Id) a h=none) (K:Nat) (hK:400000<K) (t:TxQ) (ok:t.ok) (g:gtOk t) (P:List V) (h:H) (tc:TxC (fun j=>j<h.next) h t P) :
    ∃ (s:List Nat) (z:Int) (h':H),callX E X (K+84) (.fn k_tx_Id) [.agg P] h=some (.tup [.agg (ofI .u8 s),.int .i64 z],h')∧Kp h h'∧s.length=32∧((ckOk t∧s=shaV (shaV (txB t))∧z=0)∨(¬ ckOk t∧s=List.replicate 32 0∧z=60)):=by
  rw [z2c ei _ _ (Nat.le_of_ble_eq_true rfl) (xi _ _)]
  rw [← z32e]
  obtain ⟨Z,eZ⟩:∃ Z,ofI .u8 (List.replicate 32 0)=Z:=⟨_,rfl⟩
  rw [eZ]
  have ca':∀ l:List V,(V.agg l).cells=l:=fun _=>rfl
  obtain ⟨hb,ehb⟩:∃ hb,(h.new (.cells P .rw)).new (.cells Z .rw)=hb:=⟨_,rfl⟩
  have kb:Kp h hb:=by rw [← ehb]; (repeat (first | exact Kp.refl _ | refine Kp.put ?_ _ (by first | omega | (simp only [zr,zh,zq]; omega)) | refine Kp.del ?_ (by first | omega | (simp only [zr,zh,zq]; omega)) | refine Kp.trans ?_ (Kp.new _ _)))
  have nb:hb.next=h.next+2:=by rw [← ehb]; rfl
  have g0:hb.get h.next=some (.cells P .rw):=by rw [← ehb]; (simp (disch:=omega) only [z19,zh,Nat.add_eq_left,decide_true,decide_false,za,z9,reduceCtorEq,]; try rfl)
  have gz:hb.get (h.next+1)=some (.cells Z .rw):=by rw [← ehb]; (simp (disch:=omega) only [z19,zh,decide_true,za,]; try rfl)
  have fP:=tc.fit
  have lP:=fun m=>z3u fP m
  have z0:decide ((0:Int)=0)=true:=rfl
  have z6:decide ((60:Int)=0)=false:=rfl
  rcases enc_go te xt tcn xtc (K+76) (by omega) t ok g P hb (tc.kp kb) with ⟨ck,h1,a1,c1,e1,r1,nw1⟩ | ⟨no,h1,r1,k1⟩
  · replace r1:callX E X (K+83) (.fn k_tx_Encode) _ hb=_:=r1
    have k1:=nw1.kp
    have kn1:=k1.1
    have lB:=txB_le t ok g
    obtain ⟨h2,r2,k2⟩:=tw2_go e x K (by omega) (txB t) (by omega) (by omega) a1 c1 e1 h1 nw1.wb.src
    have kn2:=k2.1
    obtain ⟨s,es⟩:∃ s,shaV (shaV (txB t))=s:=⟨_,rfl⟩
    have hs:s.length=32:=by rw [← es]; exact z47 _
    obtain ⟨st,pu,ld⟩:=z5u s hs Z eZ
    rw [es] at r2
    have g2:h2.get (h.next+1)=some (.cells Z .rw):=by rw [k2.2 _ (by omega),k1.2 _ (by omega),gz]
    refine ⟨s,0,h2.put (h.next+1) (.cells (ofI .u8 s) .rw),?_,⟨by show h.next≤h2.next; omega,fun j hj=>by rw [z1o _ _ (by omega),k2.2 _ (by omega),k1.2 _ (by omega),kb.2 _ hj]⟩,hs,.inl ⟨ck,es.symm,rfl⟩⟩
    generalize ofI .u8 s=S1 at *
    generalize (txB t).length=n at *
    simp (config:={maxSteps:=2000000}) (disch:=first | omega | (simp only [List.length_cons,List.length_nil,List.length_append,List.length_drop]; omega)) only [ca',ehb,g0,lP,r1,Bool.not_true,r2,g2,st,pu,ld,↓z2x,↓z1k,zh,↓z1e,z1c,↓m_st,z2p,↓z2d,z49,z3d,zo,↓z1p,↓zw,↓zy,↓z10,↓z1t,↓zu,↓s_op,↓zf,zf,↓zd,zd,zk,↓zg,zg,↓zb,↓zm,↓z1s,↓z17,↓z24,↓z26,↓z11,↓z13,↓z12,↓z1h,↓z1z,↓s_ext,zp,z3j,z1x,zo,z1m,z4y,↓za,↓z9,za,z9,Nat.reduceEqDiff,decide_true,decide_false,Bool.not_true,List.getElem?_cons_zero,List.getElem?_cons_succ]
    try rfl
  · replace r1:callX E X (K+83) (.fn k_tx_Encode) _ hb=_:=r1
    have kn1:=k1.1
    obtain ⟨st,pu,ld⟩:=z5u (List.replicate 32 0) (List.length_replicate) Z eZ
    rw [eZ] at st pu ld
    have g2:h1.get (h.next+1)=some (.cells Z .rw):=by rw [k1.2 _ (by omega),gz]
    refine ⟨List.replicate 32 0,60,h1.put (h.next+1) (.cells Z .rw),?_,⟨by show h.next≤h1.next; omega,fun j hj=>by rw [z1o _ _ (by omega),k1.2 _ (by omega),kb.2 _ hj]⟩,List.length_replicate,.inr ⟨no,rfl,rfl⟩⟩
    rw [eZ]
    simp (config:={maxSteps:=2000000}) (disch:=first | omega | (simp only [List.length_cons,List.length_nil,List.length_append,List.length_drop]; omega)) only [ca',ehb,g0,lP,r1,Bool.not_false,g2,st,pu,ld,↓z54,z71,z2y,↓z2x,↓z1k,zh,↓z1e,z1c,↓m_st,z2p,↓z2d,↓x_P0,z2y,Int.reduceEq,z49,z3d,zo,↓zw,↓zy,↓z10,↓z1t,↓zu,↓s_op,↓zf,zf,↓zd,zd,z1d,zk,↓zg,zg,↓zb,↓zm,↓z1s,↓z17,↓z24,↓z26,↓z11,↓z13,↓z12,↓z1h,↓z1z,↓s_ext,zp,z3j,z1x,zo,z1m,z4y,↓za,↓z9,za,z9,Nat.reduceEqDiff,decide_true,decide_false,Bool.not_false,List.getElem?_cons_zero,List.getElem?_cons_succ]
    try rfl
structure EnFm (E:Nat→Option Fn):Prop where
  ap:EnAp E
  de:EnDe E
  ro:EnRo E
  rt:E k_purserref04_Twice=some f_purserref04_Twice
  ri:E k_purserref06_Id=some f_purserref06_Id
  dc:E k_purserref06_Copy=some f_purserref06_Copy
  tw:E k_purserref01_Twin=some f_purserref01_Twin
  cb:E k_tx_Coinbase=some f_tx_Coinbase
  rcb:E k_purserref06_Coinbase=some f_purserref06_Coinbase
theorem z5f:NoAp noX:=by repeat' (first | exact fun _ _=>rfl | exact fun _ _ _=>rfl | exact fun _=>rfl | constructor)
theorem z82:NoDe noX:=by repeat' (first | exact fun _ _=>rfl | exact fun _ _ _=>rfl | exact fun _=>rfl | constructor)
theorem noRo_x:NoRo noX:=by repeat' (first | exact fun _ _=>rfl | exact fun _ _ _=>rfl | exact fun _=>rfl | constructor)
theorem b2s_nil (h:H):b2sV h (.slice none 0 (some 0) 0)=some (.str []):=nx_bs0 h _ _ _
theorem pair_enc (e:EnFm E) (M:Nat) (hM:500000<M) (t:TxQ) (ok:t.ok) (g:gtOk t):∃ (W:List Nat) (z:Int),
    (∀ P h,TxC (fun j=>j<h.next) h t P→∃ v h',callX E noX (M+199) (.fn k_tx_Encode) [.agg P] h=some (.tup [v,.int .i64 z],h')∧Kp h h'∧∀ h'',Kp h' h''→b2sV h'' v=some (.str W)) ∧
    (∀ P h,TxC (fun j=>j<h.next) h t P→∃ v h',callX E noX (M+199) (.fn k_purserref06_Encode) [.agg P] h=some (.tup [v,.int .i64 z],h')∧Kp h h'∧∀ h'',Kp h' h''→b2sV h'' v=some (.str W)):=by
  by_cases ck:ckOk t
  · refine ⟨txB t,0,fun P h tc=>?_,fun P h tc=>?_⟩
    · rcases enc_go e.ap.tb.te z5f.tb.te e.ap.tb.tc z5f.tb.tc (M+192) (by omega) t ok g P h tc with ⟨_,h',a,c,e',r,nw⟩ | ⟨no,_⟩
      · exact ⟨_,h',r,nw.kp,fun h'' k=>z5o (nw.wb.kp k).src (z6r t ok) c⟩
      · exact absurd ck no
    · rcases z6m e.de z82 (M+175) (by omega) t ok g P h tc with ⟨_,h',a,c,e',r,nw⟩ | ⟨no,_⟩
      · exact ⟨_,h',r,nw.kp,fun h'' k=>z5o (nw.wb.kp k).src (z6r t ok) c⟩
      · exact absurd ck no
  · refine ⟨[],60,fun P h tc=>?_,fun P h tc=>?_⟩
    · rcases enc_go e.ap.tb.te z5f.tb.te e.ap.tb.tc z5f.tb.tc (M+192) (by omega) t ok g P h tc with ⟨yes,_⟩ | ⟨_,h',r,k⟩
      · exact absurd yes ck
      · exact ⟨_,h',r,k,fun h'' _=>b2s_nil h''⟩
    · rcases z6m e.de z82 (M+175) (by omega) t ok g P h tc with ⟨yes,_⟩ | ⟨_,h',r,k⟩
      · exact absurd yes ck
      · exact ⟨_,h',r,k,fun h'' _=>b2s_nil h''⟩
theorem pair_id (e:EnFm E) (M:Nat) (hM:500000<M) (t:TxQ) (ok:t.ok) (g:gtOk t):∃ (s:List Nat) (z:Int),s.length=32 ∧
    (∀ P h,TxC (fun j=>j<h.next) h t P→∃ h',callX E noX (M+199) (.fn k_tx_Id) [.agg P] h=some (.tup [.agg (ofI .u8 s),.int .i64 z],h')∧Kp h h') ∧
    (∀ P h,TxC (fun j=>j<h.next) h t P→∃ h',callX E noX (M+199) (.fn k_purserref06_Id) [.agg P] h=some (.tup [.agg (ofI .u8 s),.int .i64 z],h')∧Kp h h'):=by
  have A:=fun P h tc=>txid2_go e.ap.tw z5f.tw e.ap.tb.te z5f.tb.te e.ap.tb.tc z5f.tb.tc e.ap.id_ z5f.id_ (M+115) (by omega) t ok g P h tc
  have B:=fun P h tc=>rid_go e.ro noRo_x e.rt (fun _ _=>rfl) e.de z82 e.ri (fun _ _=>rfl) (M-103) (by omega) t ok g P h tc
  rw [show M-103+302=M+199 by omega] at B
  by_cases ck:ckOk t
  · refine ⟨shaV (shaV (txB t)),0,z47 _,fun P h tc=>?_,fun P h tc=>?_⟩
    · obtain ⟨s,z,h',r,k,_,⟨_,rfl,rfl⟩ | ⟨no,_⟩⟩:=A P h tc
      · exact ⟨h',r,k⟩
      · exact absurd ck no
    · obtain ⟨s,z,h',r,k,_,⟨_,rfl,rfl⟩ | ⟨no,_⟩⟩:=B P h tc
      · exact ⟨h',r,k⟩
      · exact absurd ck no
  · refine ⟨List.replicate 32 0,60,List.length_replicate,fun P h tc=>?_,fun P h tc=>?_⟩
    · obtain ⟨s,z,h',r,k,_,⟨yes,_⟩ | ⟨_,rfl,rfl⟩⟩:=A P h tc
      · exact absurd yes ck
      · exact ⟨h',r,k⟩
    · obtain ⟨s,z,h',r,k,_,⟨yes,_⟩ | ⟨_,rfl,rfl⟩⟩:=B P h tc
      · exact absurd yes ck
      · exact ⟨h',r,k⟩
theorem pair_check (e:EnFm E) (M:Nat) (hM:500000<M) (t:TxQ) (ok:t.ok) (g:gtOk t):∃ (z:Int),
    (∀ P h,TxC (fun j=>j<h.next) h t P→∃ h',callX E noX (M+199) (.fn k_tx_Check) [.agg P] h=some (.int .i64 z,h')∧Kp h h') ∧
    (∀ P h,TxC (fun j=>j<h.next) h t P→∃ h',callX E noX (M+199) (.fn k_purserref06_Check) [.agg P] h=some (.int .i64 z,h')∧Kp h h'):=by
  have A:=fun a b ca cb ea eb h ra rb=>check_go e.ap.tb.tc z5f.tb.tc (M+196) (by omega) t (fun o ho=>by have:=g.2.2.1 o ho; omega) (fun o ho=>by have:=g.2.2.2 o ho; omega) a b ca cb ea eb h ra rb
  have B:=fun a b ca cb ea eb h ra rb=>dcheck_go e.de.ck z82.ck (M+198) (by omega) t (by have:=g.1; omega) (by have:=g.2.1; omega) a b ca cb ea eb h ra rb
  by_cases ck:ckOk t
  · refine ⟨0,fun P h tc=>?_,fun P h tc=>?_⟩
    · obtain ⟨a,b,ca,cb,ea,eb,rfl,ra,rb⟩:=tc
      obtain ⟨h',r,q,k,⟨_,rfl⟩ | ⟨no,_⟩⟩:=A a b ca cb ea eb h ra rb
      · exact ⟨h',q,k⟩
      · exact absurd ck no
    · obtain ⟨a,b,ca,cb,ea,eb,rfl,ra,rb⟩:=tc
      obtain ⟨h',r,q,k,⟨_,rfl⟩ | ⟨no,_⟩⟩:=B a b ca cb ea eb h ra rb
      · exact ⟨h',q,k⟩
      · exact absurd ck no
  · refine ⟨60,fun P h tc=>?_,fun P h tc=>?_⟩
    · obtain ⟨a,b,ca,cb,ea,eb,rfl,ra,rb⟩:=tc
      obtain ⟨h',r,q,k,⟨yes,_⟩ | ⟨_,rfl⟩⟩:=A a b ca cb ea eb h ra rb
      · exact absurd yes ck
      · exact ⟨h',q,k⟩
    · obtain ⟨a,b,ca,cb,ea,eb,rfl,ra,rb⟩:=tc
      obtain ⟨h',r,q,k,⟨yes,_⟩ | ⟨_,rfl⟩⟩:=B a b ca cb ea eb h ra rb
      · exact absurd yes ck
      · exact ⟨h',q,k⟩
theorem own_tc {h0 h h2:H} {t:TxQ} {a b:Option (Nat × Nat)} {ca cb:Option Nat} {ea eb:Nat} (ra:RowF (fun j=>h0.next≤j) h0.next 35 InC h t.ins a ca ea) (rb:RowF (fun j=>h0.next≤j) h0.next 2 OutC h t.outs b cb eb) (k:Kp h h2):TxC (fun j=>j<h2.next) h2 t (txV t a b ca cb ea eb) :=
  ⟨a,b,ca,cb,ea,eb,rfl,(ra.row itIn).mono2 itIn k.1 (fun j _ hj=>k.2 _ hj) (fun j _ hj=>Nat.lt_of_lt_of_le hj k.1),(rb.row z4o).mono2 z4o k.1 (fun j _ hj=>k.2 _ hj) (fun j _ hj=>Nat.lt_of_lt_of_le hj k.1)⟩
theorem copy_tc {h0 h h2:H} {t:TxQ} {a b:Option (Nat × Nat)} {ca cb:Option Nat} {ea eb:Nat} (ra:RowN 35 InW h0 h b t.ins a ca ea) (rb:RowN 2 OutW h0 h a t.outs b cb eb) (k:Kp h h2):TxC (fun j=>j<h2.next) h2 t (txV t a b ca cb ea eb):=by
  have kn:=k.1
  refine ⟨a,b,ca,cb,ea,eb,rfl,?_,?_⟩
  · rcases ra with ⟨h,_⟩ | ⟨_,q,cs,e1,e2,e3,h1,h2',gq,lc,at_⟩
    · exact .inl h
    · exact .inr ⟨q,0,cs,.rw,e1,e3,by omega,by omega,by rw [k.2 _ h2',gq],by rw [lc]; omega,fun i o ho=>by rw [Nat.zero_add]; exact itIn.mono (at_ i o ho).c kn (fun j _ hn=>k.2 _ hn) (fun j _ hn=>by omega)⟩
  · rcases rb with ⟨h,_⟩ | ⟨_,q,cs,e1,e2,e3,h1,h2',gq,lc,at_⟩
    · exact .inl h
    · exact .inr ⟨q,0,cs,.rw,e1,e3,by omega,by omega,by rw [k.2 _ h2',gq],by rw [lc]; omega,fun i o ho=>by rw [Nat.zero_add]; exact z4o.mono (at_ i o ho).c kn (fun j _ hn=>k.2 _ hn) (fun j _ hn=>by omega)⟩
theorem rowF_nil {α:Type} {K:Nat→Prop} {lo sz:Nat} {A:(Nat→Prop)→H→α→List V→Prop} {h:H} {ops:List α} {a:Option (Nat × Nat)} {c:Option Nat} {e:Nat} (r:RowF K lo sz A h ops a c e):ops=[]→a=none∧c=some 0∧e=0:=by
  intro h0
  rcases r with ⟨_,r⟩ | ⟨h1,_⟩
  · exact r
  · rw [h0] at h1; cases h1
theorem neqbb6 (h:H) (a:Bool):binV .eql .bool h (.bool a) (.bool a)=some (.bool true):=by cases a <;> rfl
set_option maxRecDepth 100000 in
set_option maxHeartbeats 4000000 in
theorem law_TxForms (e:EnFm E) (el:E k_purserlaw06_TxForms=some f_purserlaw06_TxForms) (M:Nat) (hM:600000<M) (t u:TxQ) (ok:t.ok) (uk:u.ok) (li:t.ins.length<9223372036854775807) (lo:t.outs.length<9223372036854775807) (ui:u.ins.length<9223372036854775807) (uo:u.outs.length<9223372036854775807) (P1 P2:List V) (h:H) (tc:TxC (fun j=>j<h.next) h t P1) (uc:TxC (fun j=>j<h.next) h u P2) :
    ∃ h2,callX E noX (M+200) (.fn k_purserlaw06_TxForms) [.agg P1,.agg P2] h=some (.bool true,h2):=by
  rw [z2c el _ _ (Nat.le_of_ble_eq_true rfl) rfl]
  rw [show ([.int .u32 0,.slice none 0 (some 0) 0,.slice none 0 (some 0) 0,.int .u32 0]:List V)=Z4 from rfl,show ([.int .u8 0,.int .u8 0,.int .u8 0,.int .u8 0,.int .u8 0,.int .u8 0,.int .u8 0,.int .u8 0,.int .u8 0,.int .u8 0,.int .u8 0,.int .u8 0,.int .u8 0,.int .u8 0,.int .u8 0,.int .u8 0,.int .u8 0,.int .u8 0,.int .u8 0,.int .u8 0,.int .u8 0,.int .u8 0,.int .u8 0,.int .u8 0,.int .u8 0,.int .u8 0,.int .u8 0,.int .u8 0,.int .u8 0,.int .u8 0,.int .u8 0,.int .u8 0]:List V)=ofI .u8 (List.replicate 32 0) from rfl]
  obtain ⟨Z,eZ⟩:∃ Z,ofI .u8 (List.replicate 32 0)=Z:=⟨_,rfl⟩
  rw [eZ]
  have xs:NoAp noX:=z5f
  have ca':∀ l:List V,(V.agg l).cells=l:=fun _=>rfl
  obtain ⟨p,ep⟩:∃ p,h.next=p:=⟨_,rfl⟩
  obtain ⟨hb,ehb⟩:∃ hb,(h.new (.cells P1 .rw)).new (.cells P2 .rw)=hb:=⟨_,rfl⟩
  have kb:Kp h hb:=by rw [← ehb]; (repeat (first | exact Kp.refl _ | refine Kp.put ?_ _ (by first | omega | (simp only [zr,zh,zq]; omega)) | refine Kp.del ?_ (by first | omega | (simp only [zr,zh,zq]; omega)) | refine Kp.trans ?_ (Kp.new _ _)))
  have nb:hb.next=p+2:=by rw [← ehb,← ep]; rfl
  have g0:hb.get p=some (.cells P1 .rw):=by rw [← ehb,← ep]; (simp (disch:=omega) only [z19,zh,Nat.add_eq_left,decide_true,decide_false,za,z9,reduceCtorEq,]; try rfl)
  have g0u:hb.get (p+1)=some (.cells P2 .rw):=by rw [← ehb,← ep]; (simp (disch:=omega) only [z19,zh,decide_true,za,]; try rfl)
  have lP1:=fun m=>z3u tc.fit m
  have lP2:=fun m=>z3u uc.fit m
  have b1:=tx_beq tc
  have b2:=tx_beq uc
  obtain ⟨h1,r,gr,k1,hr⟩:=gr6_go e.ap.tb.gr xs.tb.gr (M+198) (by omega) t li lo P1 hb (tc.kp kb)
  replace gr:callX E noX (M+199) (.fn k_purserref06_Great) _ hb=_:=gr
  have kn1:=k1.1
  have g1:h1.get p=some (.cells P1 .rw):=by rw [k1.2 _ (by omega),g0]
  have g1u:h1.get (p+1)=some (.cells P2 .rw):=by rw [k1.2 _ (by omega),g0u]
  have y1:decide ((0:Int)<1)=true:=rfl
  have y0:decide ((0:Int)<0)=false:=rfl
  rcases hr with ⟨gok,rfl⟩ | ⟨_,rfl⟩
  rotate_left
  · simp (config:={maxSteps:=2000000}) (disch:=first | omega | (simp only [List.length_cons,List.length_nil,List.length_append,List.length_drop]; omega)) only [ca',ep,ehb,g0,lP1,gr,Bool.not_true,↓z2x,Nat.zero_add,zh,↓z1e,z1c,Int.reduceLT,zo,↓zw,↓zy,↓z10,↓z1t,↓zu,↓s_op,↓z33,↓z1r,↓z1i,z1i,beq_false,↓zf,zf,↓zd,zd,z1d,zk,↓zg,zg,↓zb,↓z1s,↓z17,↓z24,↓z26,↓z11,↓z13,↓z12,↓z2m,↓z1j,z1j,↓z1h,↓z1z,zp,z3g,z1x,zo,z1m,z1n,↓za,↓z9,za,z9,Nat.zero_add,Nat.reduceEqDiff,decide_true,decide_false,Bool.not_true]
    exact ⟨_,rfl⟩
  obtain ⟨h2,r2,gr2,k2,hr2⟩:=gr6_go e.ap.tb.gr xs.tb.gr (M+198) (by omega) u ui uo P2 h1 (uc.kp (kb.trans k1))
  replace gr2:callX E noX (M+199) (.fn k_purserref06_Great) _ h1=_:=gr2
  have kn2:=k2.1
  rcases hr2 with ⟨guk,rfl⟩ | ⟨_,rfl⟩
  rotate_left
  · simp (config:={maxSteps:=2000000}) (disch:=first | omega | (simp only [List.length_cons,List.length_nil,List.length_append,List.length_drop]; omega)) only [ca',ep,ehb,g0,g1u,lP1,lP2,gr,gr2,↓z2x,Nat.zero_add,zh,↓z1e,z1c,Int.reduceLT,zo,↓zw,↓zy,↓z10,↓z1t,↓zu,↓s_op,↓z33,↓z1r,↓z1i,z1i,↓zf,zf,↓zd,zd,z1d,zk,↓zg,zg,↓zb,↓z1s,↓z17,↓z24,↓z26,↓z11,↓z13,↓z12,↓z2m,↓z1j,z1j,↓z1h,↓z1z,zp,z3g,z1x,zo,z1m,z1n,↓za,↓z9,za,z9,Nat.zero_add,Nat.reduceEqDiff,decide_true,decide_false,beq_self_eq_true]
    exact ⟨_,rfl⟩
  have k02:Kp h h2:=(kb.trans k1).trans k2
  obtain ⟨W,ze,mE,dE⟩:=pair_enc e M (by omega) t ok gok
  obtain ⟨s,zi,ls,mI,dI⟩:=pair_id e M (by omega) t ok gok
  obtain ⟨zc,mC,dC⟩:=pair_check e M (by omega) t ok gok
  obtain ⟨h3,a,b,ca,cb,ea,eb,r3,k3,ra,rb⟩:=dcopy_go (X:=noX) e.dc (fun _ _=>rfl) e.tw (fun _ _=>rfl) (M+197) (by omega) t gok P1 h2 (tc.kp k02)
  replace r3:callX E noX (M+199) (.fn k_purserref06_Copy) _ h2=_:=r3
  have kn3:=k3.1
  obtain ⟨P3,eP3⟩:∃ P,txV t a b ca cb ea eb=P:=⟨_,rfl⟩
  rw [eP3] at r3
  obtain ⟨po,epo⟩:∃ p,h3.next=p:=⟨_,rfl⟩
  obtain ⟨g3,eg3⟩:∃ g3,(h3.new (.cells Z4 .rw)).put po (.cells P3 .rw)=g3:=⟨_,rfl⟩
  have kg3:Kp h3 g3:=by rw [← eg3]; (repeat (first | exact Kp.refl _ | refine Kp.put ?_ _ (by first | omega | (simp only [zr,zh,zq]; omega)) | refine Kp.del ?_ (by first | omega | (simp only [zr,zh,zq]; omega)) | refine Kp.trans ?_ (Kp.new _ _)))
  have n3:g3.next=po+1:=by rw [← eg3,← epo]; rfl
  have go3:g3.get po=some (.cells P3 .rw):=by rw [← eg3]; exact z1f _ _ _
  have own:∀ {h':H},Kp h3 h'→TxC (fun j=>j<h'.next) h' t P3:=fun k=>by rw [← eP3]; exact own_tc ra rb k
  have fP3:Fit 4 P3:=by rw [← eP3]; exact ⟨rfl,rfl⟩
  have st3:=fun h i=>z4u fP3 h i
  have pu3:=fun h i=>z3w fP3 h i Z4 rfl
  have ld3:=fun m=>z3u fP3 m
  have b3:=tx_beq (own (Kp.refl h3))
  have gz3:(h3.new (.cells Z4 .rw)).get po=some (.cells Z4 .rw):=by rw [← epo]; exact z1g _ _
  have K3:Kp h g3:=(k02.trans k3).trans kg3
  obtain ⟨v4,h4,r4,k4,s4⟩:=mE P3 g3 (own kg3)
  have K4:Kp h3 h4:=kg3.trans k4
  have k24:Kp h h4:=K3.trans k4
  obtain ⟨v5,h5,r5,k5,s5⟩:=dE P1 h4 (tc.kp k24)
  have K5:Kp h3 h5:=K4.trans k5
  have k25:Kp h h5:=k24.trans k5
  obtain ⟨h6,r6,k6⟩:=mI P3 h5 (own K5)
  obtain ⟨stI,puI,ldI⟩:=z5u s ls Z eZ
  obtain ⟨q6,eq6⟩:∃ p,h6.next=p:=⟨_,rfl⟩
  obtain ⟨g6,eg6⟩:∃ g6,(h6.new (.cells Z .rw)).put q6 (.cells (ofI .u8 s) .rw)=g6:=⟨_,rfl⟩
  have kg6:Kp h6 g6:=by rw [← eg6]; (repeat (first | exact Kp.refl _ | refine Kp.put ?_ _ (by first | omega | (simp only [zr,zh,zq]; omega)) | refine Kp.del ?_ (by first | omega | (simp only [zr,zh,zq]; omega)) | refine Kp.trans ?_ (Kp.new _ _)))
  have n6:g6.next=q6+1:=by rw [← eg6,← eq6]; rfl
  have gi6:g6.get q6=some (.cells (ofI .u8 s) .rw):=by rw [← eg6]; exact z1f _ _ _
  have gz6:(h6.new (.cells Z .rw)).get q6=some (.cells Z .rw):=by rw [← eq6]; exact z1g _ _
  have k56:Kp h5 g6:=k6.trans kg6
  obtain ⟨h7,r7,k7⟩:=dI P1 g6 (tc.kp (k25.trans k56))
  obtain ⟨q7,eq7⟩:∃ p,h7.next=p:=⟨_,rfl⟩
  obtain ⟨g7,eg7⟩:∃ g7,(h7.new (.cells Z .rw)).put q7 (.cells (ofI .u8 s) .rw)=g7:=⟨_,rfl⟩
  have kg7:Kp h7 g7:=by rw [← eg7]; (repeat (first | exact Kp.refl _ | refine Kp.put ?_ _ (by first | omega | (simp only [zr,zh,zq]; omega)) | refine Kp.del ?_ (by first | omega | (simp only [zr,zh,zq]; omega)) | refine Kp.trans ?_ (Kp.new _ _)))
  have n7:g7.next=q7+1:=by rw [← eg7,← eq7]; rfl
  have gi7:g7.get q7=some (.cells (ofI .u8 s) .rw):=by rw [← eg7]; exact z1f _ _ _
  have gz7:(h7.new (.cells Z .rw)).get q7=some (.cells Z .rw):=by rw [← eq7]; exact z1g _ _
  have k67:Kp g6 g7:=k7.trans kg7
  have k57:Kp h5 g7:=k56.trans k67
  have K7:Kp h3 g7:=K5.trans k57
  have k27:Kp h g7:=k25.trans k57
  have sb4:=s4 g7 (k5.trans k57)
  have sb5:=s5 g7 k57
  obtain ⟨h8,r8,k8⟩:=mC P3 g7 (own K7)
  obtain ⟨h9,r9,k9⟩:=dC P1 h8 (tc.kp (k27.trans k8))
  have K9:Kp h3 h9:=(K7.trans k8).trans k9
  have k29:Kp h h9:=(k27.trans k8).trans k9
  have ra9:RowG (fun j=>j<h9.next) 35 InC h9 t.ins a ea:=(ra.row itIn).mono2 itIn K9.1 (fun j _ hj=>K9.2 _ hj) (fun j _ hj=>Nat.lt_of_lt_of_le hj K9.1)
  have rb9:RowG (fun j=>j<h9.next) 2 OutC h9 t.outs b eb:=(rb.row z4o).mono2 z4o K9.1 (fun j _ hj=>K9.2 _ hj) (fun j _ hj=>Nat.lt_of_lt_of_le hj K9.1)
  obtain ⟨h10,a',b',ca2,cb2,ea2,eb2,r10,k10,rna,rnb,dis⟩:=txcopyw_go e.ap.cp xs.cp (M+197) (by omega) t gok a b ca cb ea eb h9 ra9 rb9 (rowF_nil ra) (rowF_nil rb)
  rw [eP3] at r10
  replace r10:callX E noX (M+199) (.fn k_tx_Copy) _ h9=_:=r10
  obtain ⟨P4,eP4⟩:∃ P,txV t a' b' ca2 cb2 ea2 eb2=P:=⟨_,rfl⟩
  rw [eP4] at r10
  obtain ⟨pd,epd⟩:∃ p,h10.next=p:=⟨_,rfl⟩
  obtain ⟨g10,eg10⟩:∃ g,(h10.new (.cells Z4 .rw)).put pd (.cells P4 .rw)=g:=⟨_,rfl⟩
  have kg10:Kp h10 g10:=by rw [← eg10]; (repeat (first | exact Kp.refl _ | refine Kp.put ?_ _ (by first | omega | (simp only [zr,zh,zq]; omega)) | refine Kp.del ?_ (by first | omega | (simp only [zr,zh,zq]; omega)) | refine Kp.trans ?_ (Kp.new _ _)))
  have n10:g10.next=pd+1:=by rw [← eg10,← epd]; rfl
  have gd10:g10.get pd=some (.cells P4 .rw):=by rw [← eg10]; exact z1f _ _ _
  have gz10:(h10.new (.cells Z4 .rw)).get pd=some (.cells Z4 .rw):=by rw [← epd]; exact z1g _ _
  have fP4:Fit 4 P4:=by rw [← eP4]; exact ⟨rfl,rfl⟩
  have st4:=fun h i=>z4u fP4 h i
  have pu4:=fun h i=>z3w fP4 h i Z4 rfl
  have ld4:=fun m=>z3u fP4 m
  have dup:∀ {h':H},Kp h10 h'→TxC (fun j=>j<h'.next) h' t P4:=fun k=>by rw [← eP4]; exact copy_tc rna rnb k
  have b4:=tx_beq (dup (Kp.refl h10))
  have K10:Kp h3 g10:=(K9.trans k10).trans kg10
  have k210:Kp h g10:=(k29.trans k10).trans kg10
  obtain ⟨h11,r11,k11⟩:=z7m e.de.db z82.db (M+175) (by omega) t t ok ok gok gok P4 P1 g10 (dup kg10) (tc.kp k210)
  replace r11:callX E noX (M+199) (.fn k_purserref06_Same) _ g10=_:=r11
  rw [decide_eq_true rfl] at r11
  have K11:=K10.trans k11
  have k211:=k210.trans k11
  obtain ⟨h12,r12,k12⟩:=coin_go (X:=noX) e.cb (fun _ _=>rfl) (M+198) t ok li P3 h11 (own K11)
  replace r12:callX E noX (M+199) (.fn k_tx_Coinbase) _ h11=_:=r12
  have K12:=K11.trans k12
  have k212:=k211.trans k12
  obtain ⟨h13,r13,k13⟩:=dcoin_go (X:=noX) e.rcb (fun _ _=>rfl) (M+198) (by omega) t ok li P1 h12 (tc.kp k212)
  replace r13:callX E noX (M+199) (.fn k_purserref06_Coinbase) _ h12=_:=r13
  have K13:=K12.trans k13
  have k213:=k212.trans k13
  obtain ⟨h14,r14,k14⟩:=txsame_go e.ap.tb.ts xs.tb.ts (M+195) (by omega) t u ok uk ⟨by have:=gok.1; omega,by have:=gok.2.1; omega⟩ ⟨ui,uo⟩ P3 P2 h13 (own K13) (uc.kp k213)
  replace r14:callX E noX (M+199) (.fn k_tx_Same) _ h13=_:=r14
  have K14:=K13.trans k14
  have k214:=k213.trans k14
  obtain ⟨h15,r15,k15⟩:=z7m e.de.db z82.db (M+175) (by omega) t u ok uk gok guk P1 P2 h14 (tc.kp k214) (uc.kp k214)
  replace r15:callX E noX (M+199) (.fn k_purserref06_Same) _ h14=_:=r15
  have eqq:decide (txB t=txB u)=decide (t=u):=decide_eq_decide.2 ⟨txB_injG t u ok uk gok guk,fun h=>by rw [h]⟩
  rw [eqq] at r15
  have K15:=K14.trans k15
  have k215:=k214.trans k15
  obtain ⟨h16,r16,k16⟩:=txsame_go e.ap.tb.ts xs.tb.ts (M+195) (by omega) t t ok ok ⟨by have:=gok.1; omega,by have:=gok.2.1; omega⟩ ⟨li,lo⟩ P3 P3 h15 (own K15) (own K15)
  replace r16:callX E noX (M+199) (.fn k_tx_Same) _ h15=_:=r16
  rw [decide_eq_true rfl] at r16
  have K16:=K15.trans k16
  have k216:=k215.trans k16
  have K10_16:Kp g10 h16:=(((((k11.trans k12).trans k13).trans k14).trans k15).trans k16)
  have Kc16:Kp h10 h16:=kg10.trans K10_16
  have kn4:=K4.1
  have kn10:=k10.1
  have kn9:=K9.1
  have sh:SpH h9.next pd P4 a' b' t.ins.length t.outs.length h16 h16:=⟨by rw [K10_16.2 _ (by omega),gd10],rwIn_of rna rfl (fun o ho=>by have:=gok.2.2.1 o ho; omega) (by omega) (fun j hj=>Kc16.2 _ hj),rwOut_of rnb rfl (fun o ho=>by have:=gok.2.2.2 o ho; omega) (by omega) (fun j hj=>Kc16.2 _ hj),rfl,fun _ _=>rfl⟩
  have p41:P4[1]?=some (.slice a' t.ins.length ca2 ea2):=by rw [← eP4]; rfl
  have p42:P4[2]?=some (.slice b' t.outs.length cb2 eb2):=by rw [← eP4]; rfl
  have at1:∀ {h':H},Kp hb h'→h'.get p=some (.cells P1 .rw):=fun k=>by rw [k.2 _ (by omega),g0]
  have at2:∀ {h':H},Kp hb h'→h'.get (p+1)=some (.cells P2 .rw):=fun k=>by rw [k.2 _ (by omega),g0u]
  have at3:∀ {h':H},Kp g3 h'→h'.get po=some (.cells P3 .rw):=fun k=>by rw [k.2 _ (by omega),go3]
  have kb3:Kp hb h3:=(k1.trans k2).trans k3
  have fin:∀ T,KT pd (.ptr (some (p,0))) (.ptr (some (po,0))) (.bool true) T→evO T (.t 105)=.int .i64 (t.ins.length:Int)→evO T (.t 106)=.int .i64 ((0:Nat):Int) →
      ∃ h',fnEnd [.tmp 4] (bindE (blockE 0 (loopN (evC (callX E noX (M+199)) 185 (M+199) none L_purserlaw06_TxForms_1) (M+199) ⟨T,[],h16⟩)) (evC (callX E noX (M+199)) 185 (M+199) none R_purserlaw06_TxForms_3))=some (.bool true,h'):=by
    intro T kt tn tk
    obtain ⟨T',h17,rr,⟨u2,u5,u15,u14⟩,n17,f17⟩:=spoil6_go (callX E noX (M+199)) (M+199) (by omega) h9.next pd P4 a' b' t.ins.length t.outs.length (by have:=gok.1; omega) (by have:=gok.2.1; omega) dis ca2 cb2 ea2 eb2 p41 p42 (by omega) _ _ _ h16 sh T kt tn tk
    rw [rr]
    have k917:Kp h9 h17:=⟨by rw [n17]; have:=Kc16.1; omega,fun j hj=>by rw [f17 _ hj,Kc16.2 _ (by omega),k10.2 _ hj]⟩
    obtain ⟨h18,r18,k18⟩:=z7m e.de.db z82.db (M+175) (by omega) t t ok ok gok gok P3 P1 h17 (own (K9.trans k917)) (tc.kp (k29.trans k917))
    replace r18:callX E noX (M+199) (.fn k_purserref06_Same) _ h17=_:=r18
    rw [decide_eq_true rfl] at r18
    have w1:h17.get p=some (.cells P1 .rw):=at1 ((kb3.trans K9).trans k917)
    have w3:h17.get po=some (.cells P3 .rw):=by
      have kk:Kp g3 h9:=(((k4.trans k5).trans k57).trans k8).trans k9
      exact at3 (kk.trans k917)
    exact ⟨h18,by
      simp (config:={maxSteps:=2000000}) (disch:=first | omega | (simp only [List.length_cons,List.length_nil,List.length_append,List.length_drop]; omega)) only [R_purserlaw06_TxForms_2,u2,u5,u15,w1,w3,lP1,ld3,r18,↓z1e,z1c,zo,↓zw,↓zy,↓z1t,↓zu,↓s_op,↓z33,↓z1r,↓z1i,z1i,↓zf,zf,↓zd,zd,zk,↓zb,↓z24,↓z26,↓z12,↓z2m,↓z1j,z1j,↓z1z,zp,z1x,zo,z1m,z1n,↓za,↓z9,za,z9,Nat.reduceEqDiff,decide_true,decide_false,beq_self_eq_true]⟩
  obtain ⟨R,eR⟩:∃ R,R_purserlaw06_TxForms_3=R:=⟨_,rfl⟩
  obtain ⟨Lo,eL⟩:∃ R,L_purserlaw06_TxForms_1=R:=⟨_,rfl⟩
  rw [eR,eL] at fin ⊢
  have g3_4:Kp g3 h4:=k4
  have g3_5:Kp g3 h5:=k4.trans k5
  have g3_7:Kp g3 g7:=g3_5.trans k57
  have g3_9:Kp g3 h9:=(g3_7.trans k8).trans k9
  have g3_10:Kp g3 g10:=(g3_9.trans k10).trans kg10
  have o5:h5.get po=some (.cells P3 .rw):=at3 g3_5
  have o7:g7.get po=some (.cells P3 .rw):=at3 g3_7
  have o8:h8.get po=some (.cells P3 .rw):=at3 (g3_7.trans k8)
  have o9:h9.get po=some (.cells P3 .rw):=at3 g3_9
  have o10:g10.get po=some (.cells P3 .rw):=at3 g3_10
  have o11:h11.get po=some (.cells P3 .rw):=at3 (g3_10.trans k11)
  have o12:h12.get po=some (.cells P3 .rw):=at3 ((g3_10.trans k11).trans k12)
  have o13:h13.get po=some (.cells P3 .rw):=at3 (((g3_10.trans k11).trans k12).trans k13)
  have o14:h14.get po=some (.cells P3 .rw):=at3 ((((g3_10.trans k11).trans k12).trans k13).trans k14)
  have o15:h15.get po=some (.cells P3 .rw):=at3 (((((g3_10.trans k11).trans k12).trans k13).trans k14).trans k15)
  have o16:h16.get po=some (.cells P3 .rw):=at3 (g3_10.trans K10_16)
  have i2:h2.get p=some (.cells P1 .rw):=at1 (k1.trans k2)
  have hb3:Kp hb g3:=kb3.trans kg3
  have i4:h4.get p=some (.cells P1 .rw):=at1 (hb3.trans g3_4)
  have i6:g6.get p=some (.cells P1 .rw):=at1 ((hb3.trans g3_5).trans k56)
  have i8:h8.get p=some (.cells P1 .rw):=at1 ((hb3.trans g3_7).trans k8)
  have i9:h9.get p=some (.cells P1 .rw):=at1 (hb3.trans g3_9)
  have i7:g7.get p=some (.cells P1 .rw):=at1 (hb3.trans g3_7)
  have i10:g10.get p=some (.cells P1 .rw):=at1 (hb3.trans g3_10)
  have i11:h11.get p=some (.cells P1 .rw):=at1 ((hb3.trans g3_10).trans k11)
  have i12:h12.get p=some (.cells P1 .rw):=at1 (((hb3.trans g3_10).trans k11).trans k12)
  have i13:h13.get p=some (.cells P1 .rw):=at1 ((((hb3.trans g3_10).trans k11).trans k12).trans k13)
  have i14:h14.get p=some (.cells P1 .rw):=at1 (((((hb3.trans g3_10).trans k11).trans k12).trans k13).trans k14)
  have i15:h15.get p=some (.cells P1 .rw):=at1 ((((((hb3.trans g3_10).trans k11).trans k12).trans k13).trans k14).trans k15)
  have i16:h16.get p=some (.cells P1 .rw):=at1 ((hb3.trans g3_10).trans K10_16)
  have j13:h13.get (p+1)=some (.cells P2 .rw):=at2 ((((hb3.trans g3_10).trans k11).trans k12).trans k13)
  have j14:h14.get (p+1)=some (.cells P2 .rw):=at2 (((((hb3.trans g3_10).trans k11).trans k12).trans k13).trans k14)
  have j15:h15.get (p+1)=some (.cells P2 .rw):=at2 ((((((hb3.trans g3_10).trans k11).trans k12).trans k13).trans k14).trans k15)
  have j16:h16.get (p+1)=some (.cells P2 .rw):=at2 ((hb3.trans g3_10).trans K10_16)
  have d11:h11.get pd=some (.cells P4 .rw):=by rw [k11.2 _ (by omega),gd10]
  have d16:h16.get pd=some (.cells P4 .rw):=sh.gp
  have gi67:g7.get q6=some (.cells (ofI .u8 s) .rw):=by rw [k67.2 _ (by omega),gi6]
  have w67:=k7.1
  have nq:=fun h=>neq32 h s s ls ls
  have dt:(!decide (s=s))=false:=by rw [decide_eq_true rfl]; rfl
  rw [dt] at nq
  have dd:∀ v:Int,decide (v=v)=true:=fun v=>decide_eq_true rfl
  have ds:decide (W=W)=true:=decide_eq_true rfl
  clear mE dE mI dI mC dC ra rb rna rnb sh own dup at1 at2 at3 s4 s5 eqq
  generalize decide (t=u)=DD at *
  generalize cbV t=CB at *
  generalize ofI .u8 s=CS at *
  generalize Z4=z4 at *
  obtain ⟨n,en⟩:∃ n,t.ins.length=n:=⟨_,rfl⟩
  rw [en] at fin p41
  simp (config:={maxSteps:=2000000}) (disch:=first | omega | (simp only [List.length_cons,List.length_nil,List.length_append,List.length_drop]; omega)) only [ca',ep,ehb,g0,g1u,lP1,lP2,gr,gr2,i2,r3,epo,eg3,st3,pu3,ld3,go3,r4,i4,r5,o5,r6,eq6,eg6,stI,puI,ldI,i6,r7,eq7,eg7,sb4,sb5,nq,gi67,gi7,o7,r8,i8,r9,o9,r10,epd,eg10,st4,pu4,ld4,gd10,i10,r11,i11,o11,r12,i12,r13,neqbb6,o13,j13,r14,i14,j14,r15,o15,r16,i13,i7,b1,b2,d16,p41,b_sneq,↓ns_b2s,↓z2x,↓z1q,z18,Bool.not_true,↓zn,z14,Nat.zero_add,↓z4x,↓z3i,↓s_dL,↓s_dLg,↓s_dR,↓s_dRg,↓s_dRjg,↓s_dB,↓s_dBg,↓z28,z28,z4p,z38,↓z37,s_ok0,↓s_ok1,z6a,↓z5z,↓z4w,z4w,z6b,z6c,z6e,Bool.and_self,↓z2k,↓z2e,↓z19,zh,↓z1e,z1c,↓zj,zj,↓m_st,z2p,↓z2d,z18,↓z1q,Int.reduceLT,↓z1p,↓zw,↓z3h,↓zy,↓z10,↓z15,↓zu,↓s_op,↓z33,↓z1r,↓z1i,z1i,↓zf,zf,↓zd,zd,zk,↓zg,zg,↓zb,↓zm,↓z1s,↓z17,↓z24,↓z26,↓z11,↓z13,↓z12,↓z2m,↓z1j,z1j,↓z1h,↓z1z,↓s_ext,zp,z3j,z3g,↓za,↓z9,za,z9,Nat.zero_add,Nat.reduceEqDiff,decide_true,decide_false,Bool.not_true,List.getElem?_cons_zero,List.getElem?_cons_succ,beq_self_eq_true]
  exact fin _ ⟨(by (simp only [zb,zm,Nat.reduceEqDiff,decide_false,decide_true,z9,za]; try rfl)),(by (simp only [zb,zm,Nat.reduceEqDiff,decide_false,decide_true,z9,za]; try rfl)),(by (simp only [zb,Nat.reduceEqDiff,decide_false,decide_true,z9,za]; try rfl)),(by (simp only [zb,zm,Nat.reduceEqDiff,decide_false,decide_true,z9,za]; try rfl))⟩ (by (simp only [zb,Nat.reduceEqDiff,decide_false,decide_true,z9,za]; try rfl)) (by (simp only [zb,decide_true,za]; try rfl))
end Go.Eng
