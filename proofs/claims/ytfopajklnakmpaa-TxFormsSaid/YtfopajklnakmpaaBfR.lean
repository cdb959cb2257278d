import Derived.Test.YtfopajklnakmpaaBfQ
namespace Go.Eng
open Go
variable {E:Nat→Option Fn} {X:Orc}
set_option linter.unusedSimpArgs false
set_option linter.unusedVariables false
structure EnTw (E:Nat→Option Fn):Prop where
  sh:EnSha E
  o:E k_sha_Of=some f_sha_Of
  tw:E k_sha_Twice=some f_sha_Twice
structure NoTw (X:Orc):Prop where
  sh:NoSha X
  o:∀ a h,X (.fn k_sha_Of) a h=none
  tw:∀ a h,X (.fn k_sha_Twice) a h=none
theorem z5u (s:List Nat) (hs:s.length=32) (Z:List V) (eZ:ofI .u8 (List.replicate 32 0)=Z) :
    (∀ h i,storeV h 32 (.ptr (some (i,0))) (.agg (ofI .u8 s))=storeE (h.get i) h i 0 (ofI .u8 s))∧(∀ h i,storeE (some (.cells Z .rw)) h i 0 (ofI .u8 s)=some (h.put i (.cells (ofI .u8 s) .rw)))∧(∀ m,loadE (some (.cells (ofI .u8 s) m)) (some 32) 0=some (.agg (ofI .u8 s))) :=
  ⟨fun h i=>st32 h i 0 _ hs,fun h i=>by
    rw [z1v _ _ _ _ _ (by rw [← eZ,z1a,z1a,hs,List.length_replicate]; omega),← eZ,wrAll _ _ _ (by rw [List.length_replicate,hs])],fun m=>by rw [z3n,z40 _ 32 (by rw [z1a,hs])]⟩
theorem tw2_go (e:EnTw E) (x:NoTw X) (K:Nat) (hK:100<K) (l:List Nat) (hl:l.length<K) (hl2:l.length≤10000000) (a:Option (Nat × Nat)) (c:Option Nat) (ez:Nat) (h:H) (src:SrcH h a ez l) :
    ∃ h',callX E X (K+83) (.fn k_sha_Twice) [.slice a l.length c ez] h=some (.agg (ofI .u8 (shaV (shaV l))),h')∧Kp h h':=by
  rw [z2c e.tw _ _ (Nat.le_of_ble_eq_true rfl) (x.tw _ _)]
  rw [← z32e]
  obtain ⟨Z,eZ⟩:∃ Z,ofI .u8 (List.replicate 32 0)=Z:=⟨_,rfl⟩
  rw [eZ]
  obtain ⟨hA,eA⟩:∃ hA,h.new (.cells Z .rw)=hA:=⟨_,rfl⟩
  have kA:Kp h hA:=by rw [← eA]; exact Kp.new _ _
  have nA:hA.next=h.next+1:=by rw [← eA]; rfl
  have g0:hA.get h.next=some (.cells Z .rw):=by rw [← eA]; exact z1g _ _
  obtain ⟨h1,r1,k1⟩:=of_go e.sh x.sh e.o x.o K l a c ez hA (by omega) (by omega) (by omega) (src.mono kA)
  have kn1:=k1.1
  obtain ⟨s,es⟩:∃ s,shaV l=s:=⟨_,rfl⟩
  have hs:s.length=32:=by rw [← es]; exact z47 l
  obtain ⟨st,pu,ld⟩:=z5u s hs Z eZ
  rw [es] at r1 ⊢
  obtain ⟨h2,eh2⟩:∃ h2,(h1.new (.cells Z .rw)).put h1.next (.cells (ofI .u8 s) .rw)=h2:=⟨_,rfl⟩
  have k2:Kp h1 h2:=by rw [← eh2]; (repeat (first | exact Kp.refl _ | refine Kp.put ?_ _ (by first | omega | (simp only [zr,zh,zq]; omega)) | refine Kp.del ?_ (by first | omega | (simp only [zr,zh,zq]; omega)) | refine Kp.trans ?_ (Kp.new _ _)))
  have n2:h2.next=h1.next+1:=by rw [← eh2]; rfl
  have gz:(h1.new (.cells Z .rw)).get h1.next=some (.cells Z .rw):=z1g _ _
  have g2:h2.get h1.next=some (.cells (ofI .u8 s) .rw):=by rw [← eh2]; exact z1f _ _ _
  obtain ⟨h3,r3,k3⟩:=of_go e.sh x.sh e.o x.o K s (some (h1.next,0)) (some 32) 1 h2 (by omega) (by omega) (by omega) (.inr ⟨h1.next,0,ofI .u8 s,.rw,rfl,rfl,by omega,g2,by rw [z1a]; omega,by rw [List.drop_zero]; exact List.take_of_length_le (by rw [z1a]; omega)⟩)
  rw [hs] at r3
  have kn3:=k3.1
  obtain ⟨s2,es2⟩:∃ s2,shaV s=s2:=⟨_,rfl⟩
  have hs2:s2.length=32:=by rw [← es2]; exact z47 s
  obtain ⟨st2,pu2,ld2⟩:=z5u s2 hs2 Z eZ
  rw [es2] at r3 ⊢
  have g3:h3.get h.next=some (.cells Z .rw):=by rw [k3.2 _ (by omega),k2.2 _ (by omega),k1.2 _ (by omega),g0]
  refine ⟨h3.put h.next (.cells (ofI .u8 s2) .rw),?_,⟨by show h.next≤h3.next; omega,fun j hj=>by rw [z1o _ _ (by omega),k3.2 _ (by omega),k2.2 _ (by omega),k1.2 _ (by omega),kA.2 _ hj]⟩⟩
  have sB:∀ h i,slcB (some (.cells (ofI .u8 s) .rw)) 32 1 i 0 none none h=some (.slice (some (i,0)) 32 (some 32) 1,h):=fun h i=>z80 _ _ _ _ _ _ (by rw [z1a]; omega)
  generalize ofI .u8 s2=S2 at *
  generalize ofI .u8 s=S1 at *
  generalize l.length=n at *
  simp (config:={maxSteps:=2000000}) (disch:=first | omega | (simp only [List.length_cons,List.length_nil,List.length_append,List.length_drop]; omega)) only [eA,r1,st,pu,eh2,g2,r3,g3,st2,pu2,ld2,↓z6w,z53,sB,x_M0,↓z1k,↓z19,z1c,↓m_st,z2p,↓z2d,z49,z3d,zo,↓zw,↓zy,↓z1t,↓zu,↓s_op,↓zf,zf,↓zd,zd,zk,↓zb,↓zm,↓z1s,↓z24,↓z26,↓z11,↓z13,↓z12,↓z1z,z1x,zo,z1n,↓za,↓z9,za,z9,Nat.reduceEqDiff,decide_true,decide_false]
  try rfl
structure EnAp (E:Nat→Option Fn):Prop where
  tb:EnTb E
  tw:EnTw E
  cp:EnCp E
  id_:E k_tx_Id=some f_tx_Id
structure NoAp (X:Orc):Prop where
  tb:NoTb X
  tw:NoTw X
  cp:NoCp X
  id_:∀ a h,X (.fn k_tx_Id) a h=none
theorem inV_s32 (o:InQ) (b:Option (Nat × Nat)) (cb:Option Nat) (eb n:Nat) (l:o.tx.length=32):(inV o b cb eb).set 32 (.int .u32 (n:Int))=inV ⟨o.tx,n,o.l,o.q⟩ b cb eb:=by
  unfold inV
  rw [List.set_append_right _ _ (by rw [z1a]; omega),z1a,l]; rfl
theorem inV_32 (o:InQ) (b:Option (Nat × Nat)) (cb:Option Nat) (eb:Nat) (l:o.tx.length=32):(inV o b cb eb)[32]?=some (.int .u32 (o.n:Int)):=by
  unfold inV
  rw [List.getElem?_append_right (by rw [z1a]; omega),z1a,l]; rfl
end Go.Eng
