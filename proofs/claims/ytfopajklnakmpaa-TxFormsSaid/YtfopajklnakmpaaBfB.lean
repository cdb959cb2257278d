import Derived.Test.YtfopajklnakmpaaBfA
namespace Go.Eng
open Go
variable {E:Nat→Option Fn} {X:Orc}
set_option linter.unusedSimpArgs false
set_option linter.unusedVariables false
structure InQ where
  tx:List Nat
  n:Nat
  l:List Nat
  q:Nat
structure InQ.ok (o:InQ):Prop where
  lt:o.tx.length=32
  bt:byt o.tx=true
  n1:o.n<4294967296
  bl:byt o.l=true
  q1:o.q<4294967296
def InAt (h:H) (o:InQ) (p:List V):Prop:=∃ a,p=ofI .u8 o.tx++[.int .u32 (o.n:Int),.slice a o.l.length none 1,.int .u32 (o.q:Int)]∧SrcH h a 1 o.l
def InsH (h:H) (a:Option (Nat × Nat)) (ops:List InQ):Prop:=∃ parts,Al2 (InAt h) ops parts∧(ops=[]∨∃ k md,a=some (k,0)∧k<h.next∧h.get k=some (.cells parts.flatten md))
structure OutQ where
  v:Int
  l:List Nat
structure OutQ.ok (o:OutQ):Prop where
  v0:-9223372036854775808≤o.v
  v1:o.v<9223372036854775808
  bl:byt o.l=true
def OutAt (h:H) (o:OutQ) (p:List V):Prop:=∃ a,p=[.int .i64 o.v,.slice a o.l.length none 1]∧SrcH h a 1 o.l
def OutsH (h:H) (a:Option (Nat × Nat)) (ops:List OutQ):Prop:=∃ parts,Al2 (OutAt h) ops parts∧(ops=[]∨∃ k md,a=some (k,0)∧k<h.next∧h.get k=some (.cells parts.flatten md))
theorem xs2 {α:Type} {xs:List α} (h:xs.length=2):∃ a b,xs=[a,b]:=by
  match xs,h with
  | [a,b],_=>exact ⟨a,b,rfl⟩
theorem xs3 {α:Type} {xs:List α} (h:xs.length=3):∃ a b c,xs=[a,b,c]:=by
  match xs,h with
  | [a,b,c],_=>exact ⟨a,b,c,rfl⟩
theorem xs4 {α:Type} {xs:List α} (h:xs.length=4):∃ a b c d,xs=[a,b,c,d]:=by
  match xs,h with
  | [a,b,c,d],_=>exact ⟨a,b,c,d,rfl⟩
section
variable {Hh:Type} {enc:TypeId × Value→Hh} {P:Program} {W:World} {spare:Nat→Bool} {held:Bool} {base:Nat}
theorem trod_row {α:Type} {t e:TypeId} {sz:Nat} (A:H→α→List V→Prop) (ok:α→Prop) (B:DataW Hh→α→Prop) (m:Nat) (ht:P.underlying t=some (.slice e)) (hce:P.cellsOf e=sz)
    (one:∀ (g:Nat) (cs:List Value) (x:DataW Hh × List MemPlace),DataW.trod enc P W base spare held g e cs=some x→∃ o:α,(ok o∧B x.1 o)∧∀ n,Rd (absD P (n+m) e x.1) (fun h vs=>A h o vs))
    {f:Nat} {cs:List Value} {d:DataW Hh} {p:List MemPlace} (hf:DataW.trod enc P W base spare held f t cs=some (d,p)) :
    ∃ ops:List α,(∀ o ∈ ops,ok o)∧(∀ sz' b,P.bytesOf e=sz'→0<sz'→(∀ n ∈ d.weights P t,n≤b)→ops.length≤b∧∀ o ∈ ops,∃ x:DataW Hh,B x o∧∀ n ∈ x.weights P e,n≤b)∧∀ n,Rd (absD P (n+(m+1)) t d) (fun h vs=>∃ a,vs=[.slice a ops.length none sz]∧∃ parts,Al2 (A h) ops parts∧(ops=[]∨∃ k md,a=some (k,0)∧k<h.next∧h.get k=some (.cells parts.flatten md))):=by
  rcases DataW.trod_slice ht hf with ⟨_,hx⟩ | ⟨ad,len,cap,elems,rest,n,_,_,hx,_,_,_,hl,hi,_,_⟩
  · have hd:d=.nil:=congrArg Prod.fst hx
    subst hd
    refine ⟨[],(fun o ho=>by cases ho),(fun _ _ _ _ _=>⟨Nat.zero_le _,fun o ho=>by cases ho⟩),fun n nx=>?_⟩
    obtain ⟨vs,bl,n1,e1,l1,k1⟩:=rd_nil (Hh:=Hh) (n+m) ht nx
    exact ⟨vs,bl,n1,e1,l1,fun h hh=>⟨none,by rw [k1 h hh,hce]; rfl,[],.nil,.inl rfl⟩⟩
  · have hd:d=.slice (elems.map (·.1)) (rest.map (·.1)):=congrArg Prod.fst hx
    obtain ⟨ops,al⟩:=gather (p:=fun (x:DataW Hh × List MemPlace) (o:α)=>(ok o∧B x.1 o)∧∀ n,Rd (absD P (n+m) e x.1) (fun h vs=>A h o vs)) elems (fun y hy=>by
      obtain ⟨i,hi1,hi2⟩:=List.getElem_of_mem hy
      have hi3:elems[i]?=some y:=by rw [List.getElem?_eq_getElem hi1,hi2]
      have h4:=(hi i (by omega)).trans hi3
      simp only [Option.bind_eq_some_iff] at h4
      obtain ⟨cs,_,h5⟩:=h4
      exact one _ _ _ h5)
    refine ⟨ops,fun o ho=>?_,fun sz' b hsz hpos hB=>?_,fun n nx=>?_⟩
    · clear hl hi hx hd hf
      induction al with
      | nil=>cases ho
      | cons h1 _ ih => rcases List.mem_cons.1 ho with rfl | ho
                        · exact h1.1.1
                        · exact ih ho
    · have hB':∀ n ∈ ((elems.map (·.1)).length+(rest.map (·.1)).length)*P.bytesOf e :: DataW.weightsAll P e (elems.map (·.1)),n≤b:=by
        intro n hn
        apply hB n
        rw [hd]
        simp only [DataW.weights,ht,List.mem_cons,List.mem_append] at hn ⊢
        rcases hn with h | h
        · exact .inl h
        · exact .inr (.inl h)
      refine ⟨?_,fun o ho=>?_⟩
      · have h1:=hB' _ (List.mem_cons_self ..)
        rw [hsz,List.length_map,al.len] at h1
        have h2:ops.length*1≤(ops.length+(rest.map (·.1)).length)*sz':=Nat.mul_le_mul (Nat.le_add_right _ _) hpos
        omega
      · have hB2:∀ n ∈ DataW.weightsAll P e (elems.map (·.1)),n≤b:=fun n hn=>hB' n (List.mem_cons_of_mem _ hn)
        clear hl hi hx hd hf hB hB'
        induction al with
        | nil=>cases ho
        | cons h1 _ ih =>
          simp only [List.map_cons,DataW.weightsAll,List.mem_append] at hB2
          rcases List.mem_cons.1 ho with rfl | ho
          · exact ⟨_,h1.1.2,fun n hn=>hB2 n (.inl hn)⟩
          · exact ih ho (fun n hn=>hB2 n (.inr hn))
    · have al2:Al2 (fun (dd:DataW Hh) R=>Rd (absD P (n+m) e dd) R) (elems.map (·.1)) (ops.map (fun o h vs=>A h o vs)):=by
        clear hl hi hx hd hf
        induction al with
        | nil=>exact .nil
        | cons h1 _ ih=>exact .cons (h1.2 n) ih
      obtain ⟨vs,bl,n1,e1,l1,k1⟩:=rd_slice (Hh:=Hh) (n+m) ht (elems.map (·.1)) (rest.map (·.1)) al2 nx
      rw [hd]
      refine ⟨vs,bl,n1,e1,l1,fun h hh=>?_⟩
      obtain ⟨ad2,parts,ev,al3,t⟩:=k1 h hh
      have le:(elems.map (·.1)).length=ops.length:=by rw [List.length_map]; exact al.len
      refine ⟨ad2,by rw [ev,le,hce],parts,?_,?_⟩
      · have conv:∀ (os:List α) (ps:List (List V)),Al2 (fun (R:H→List V→Prop) p=>R h p) (os.map (fun o h vs=>A h o vs)) ps→Al2 (A h) os ps:=by
          intro os
          induction os with
          | nil=>intro ps a; cases a; exact .nil
          | cons o os ih=>intro ps a; cases a with | cons a1 a2=>exact .cons a1 (ih _ a2)
        exact conv _ _ al3
      · rcases t with t | ⟨k,t1,t2,t3⟩
        · left
          rw [t] at le
          exact List.length_eq_zero_iff.1 le.symm
        · exact .inr ⟨k,.ro,t1,t2,t3⟩
end
section
variable {Hh:Type} {enc:TypeId × Value→Hh} {P:Program} {W:World} {spare:Nat→Bool} {held:Bool} {base:Nat}
theorem trod_hash' {t e:TypeId} {N:Nat} (ht:P.underlying t=some (.array N e)) (he:P.underlying e=some (.int .u8)) {f:Nat} {cs:List Value} {d:DataW Hh} {p:List MemPlace} (hf:DataW.trod enc P W base spare held f t cs=some (d,p)) :
    ∃ s:List Nat,s.length=N∧byt s=true∧∀ n nx,absD P (n+2) t d nx=some (ofI .u8 s,[],nx):=by
  obtain ⟨xs,m,_,hx,_,hl,hi⟩:=DataW.trod_array ht hf
  have go:∀ x ∈ xs,∃ b:Nat,x.1=.lit (.int .u8 (b:Int))∧b<256:=by
    intro x hxm
    obtain ⟨i,hi1,hi2⟩:=List.getElem_of_mem hxm
    have hi3:xs[i]?=some x:=by rw [List.getElem?_eq_getElem hi1,hi2]
    obtain ⟨n,_,e1,w⟩:=DataW.trod_int he ((hi i (by omega)).trans hi3)
    simp [Lit.wf,IntKind.min,IntKind.max,IntKind.signed,IntKind.bits] at w
    obtain ⟨b,rfl⟩:=Int.eq_ofNat_of_zero_le w.1
    exact ⟨b,by rw [e1],by omega⟩
  obtain ⟨s,s1,s2,s3⟩:=lits_u8 go
  refine ⟨s,by omega,s2,fun n nx=>?_⟩
  have ed:d=.agg (s.map fun (x:Nat)=>.lit (.int .u8 (x:Int))):=by
    have:=congrArg Prod.fst hx
    simp only at this
    rw [this,s1]
  rw [ed]
  unfold absD
  rw [ht]
  exact absL_I P e n he nx s
theorem rd_hash (n:Nat) {t:TypeId} {d:DataW Hh} {s:List Nat} (h:∀ n nx,absD P (n+2) t d nx=some (ofI .u8 s,[],nx)):Rd (absD P (n+2) t d) (fun _ vs=>vs=ofI .u8 s):=fun nx=>⟨_,[],nx,h n nx,.nil _,fun _ _=>rfl⟩
theorem trod_in {e ub eb:TypeId} {f0 f1 f2 g0 g1:Field} (he:P.underlying e=some (.struct #[f0,f1,f2])) (ho:P.underlying f0.type=some (.struct #[g0,g1])) (hh:P.underlying g0.type=some (.array 32 ub)) (hu:P.underlying ub=some (.int .u8)) (hn:P.underlying g1.type=some (.int .u32)) (hs:P.underlying f1.type=some (.slice eb)) (hb:P.underlying eb=some (.int .u8)) (hc:P.cellsOf eb=1) (hq:P.underlying f2.type=some (.int .u32))
    (g:Nat) (cs:List Value) (x:DataW Hh × List MemPlace) (hx:DataW.trod enc P W base spare held g e cs=some x) :
    ∃ o:InQ,(o.ok∧(P.bytesOf eb=1→∀ b,(∀ n ∈ x.1.weights P e,n≤b)→o.l.length≤b))∧∀ n,Rd (absD P (n+4) e x.1) (fun h vs=>InAt h o vs):=by
  obtain ⟨xs,m,_,rfl,_,hl,hf⟩:=DataW.trod_struct he hx
  obtain ⟨x0,x1,x2,rfl⟩:=xs3 hl
  obtain ⟨ys,m2,_,ey,_,hl2,hf2⟩:=DataW.trod_struct ho (hf 0 f0 rfl)
  obtain ⟨y0,y1,rfl⟩:=xs2 hl2
  obtain ⟨d0,p0⟩:=y0
  obtain ⟨tx,t1,t2,r0⟩:=trod_hash' hh hu (hf2 0 g0 rfl)
  obtain ⟨nn,_,e1,w1⟩:=DataW.trod_int hn (hf2 1 g1 rfl)
  obtain ⟨l,bl,wt,r3⟩:=trod_u8s' hs hb hc (hf 1 f1 rfl)
  obtain ⟨qq,_,e2,w2⟩:=DataW.trod_int hq (hf 2 f2 rfl)
  simp [Lit.wf,IntKind.min,IntKind.max,IntKind.signed,IntKind.bits] at w1 w2
  obtain ⟨n,rfl⟩:=Int.eq_ofNat_of_zero_le w1.1
  obtain ⟨q,rfl⟩:=Int.eq_ofNat_of_zero_le w2.1
  refine ⟨⟨tx,n,l,q⟩,⟨⟨t1,t2,by show n<_; omega,bl,by show q<_; omega⟩,fun h1' b hB=>wt h1' b (fun m hm=>hB m ?_)⟩,fun j=>?_⟩
  · show m ∈ DataW.weights P e (.agg [x0.1,x1.1,x2.1])
    simp only [DataW.weights,he,List.map_cons,List.map_nil,DataW.weightsEach,List.mem_append]
    exact .inr (.inl hm)
  have hz0:=z6f (Hh:=Hh) (j+2) ho [d0,y1.1] rfl (Rs:=[_,_]) (.cons (rd_hash j r0) (.cons (by rw [e1]; exact z8u (j+1) hn (n:Int)) .nil))
  have ex0:x0.1=.agg [d0,y1.1]:=by rw [ey]; rfl
  have hz:=z6f (Hh:=Hh) (j+3) he [x0.1,x1.1,x2.1] rfl (Rs:=[_,_,_]) (.cons (by rw [ex0]; exact hz0) (.cons (r3 (j+1)) (.cons (by rw [e2]; exact z8u (j+2) hq (q:Int)) .nil)))
  intro nx
  obtain ⟨vs,bls,n1,q1,q2,q3⟩:=hz nx
  refine ⟨vs,bls,n1,q1,q2,fun h hh=>?_⟩
  obtain ⟨parts,rfl,al⟩:=q3 h hh
  cases al with | cons a0 al=>cases al with | cons a1 al=>cases al with | cons a2 al =>
  cases al
  obtain ⟨parts2,rfl,al2⟩:=a0
  cases al2 with | cons b0 al2=>cases al2 with | cons b1 al2 =>
  cases al2
  obtain ⟨a,e3,sr⟩:=a1
  refine ⟨a,?_,sr⟩
  rw [b0,b1,e3,a2]
  simp
theorem trod_out {e eb:TypeId} {f0 f1:Field} (he:P.underlying e=some (.struct #[f0,f1])) (h0:P.underlying f0.type=some (.int .i64)) (h1:P.underlying f1.type=some (.slice eb)) (hb:P.underlying eb=some (.int .u8)) (hc:P.cellsOf eb=1)
    (g:Nat) (cs:List Value) (x:DataW Hh × List MemPlace) (hx:DataW.trod enc P W base spare held g e cs=some x) :
    ∃ o:OutQ,(o.ok∧(P.bytesOf eb=1→∀ b,(∀ n ∈ x.1.weights P e,n≤b)→o.l.length≤b))∧∀ n,Rd (absD P (n+4) e x.1) (fun h vs=>OutAt h o vs):=by
  obtain ⟨xs,m,_,rfl,_,hl,hf⟩:=DataW.trod_struct he hx
  obtain ⟨x0,x1,rfl⟩:=xs2 hl
  obtain ⟨k,_,e0,w0⟩:=DataW.trod_int h0 (hf 0 f0 rfl)
  obtain ⟨l,bl,wt,r3⟩:=trod_u8s' h1 hb hc (hf 1 f1 rfl)
  simp [Lit.wf,IntKind.min,IntKind.max,IntKind.signed,IntKind.bits] at w0
  refine ⟨⟨k,l⟩,⟨⟨w0.1,by have:=w0.2; show k<_; omega,bl⟩,fun h1' B hB=>wt h1' B (fun m hm=>hB m ?_)⟩,fun j=>?_⟩
  · show m ∈ DataW.weights P e (.agg [x0.1,x1.1])
    simp only [DataW.weights,he,List.map_cons,List.map_nil,DataW.weightsEach,List.mem_append]
    exact .inr (.inl hm)
  have hz:=z6f (Hh:=Hh) (j+3) he [x0.1,x1.1] rfl (Rs:=[_,_]) (.cons (by rw [e0]; exact z8u (j+2) h0 k) (.cons (r3 (j+1)) .nil))
  intro nx
  obtain ⟨vs,bls,n1,q1,q2,q3⟩:=hz nx
  refine ⟨vs,bls,n1,q1,q2,fun h hh=>?_⟩
  obtain ⟨parts,rfl,al⟩:=q3 h hh
  cases al with | cons a0 al=>cases al with | cons a3 al =>
  cases al
  obtain ⟨a,e3,sr⟩:=a3
  exact ⟨a,by rw [a0,e3]; rfl,sr⟩
structure TxQ where
  ver:Nat
  ins:List InQ
  outs:List OutQ
  lock:Nat
structure TxQ.ok (t:TxQ):Prop where
  v1:t.ver<4294967296
  io:∀ o ∈ t.ins,o.ok
  oo:∀ o ∈ t.outs,o.ok
  l1:t.lock<4294967296
def TxAt (h:H) (t:TxQ) (vs:List V):Prop:=∃ a b,vs=[.int .u32 (t.ver:Int),.slice a t.ins.length none 35,.slice b t.outs.length none 2,.int .u32 (t.lock:Int)]∧InsH h a t.ins∧OutsH h b t.outs
theorem trod_tx {e ei eo ub eb:TypeId} {t0 t1 t2 t3 f0 f1 f2 g0 g1 o0 o1:Field} (het:P.underlying e=some (.struct #[t0,t1,t2,t3])) (hv:P.underlying t0.type=some (.int .u32)) (hi:P.underlying t1.type=some (.slice ei)) (hoo:P.underlying t2.type=some (.slice eo)) (hk:P.underlying t3.type=some (.int .u32))
    (he:P.underlying ei=some (.struct #[f0,f1,f2])) (ho:P.underlying f0.type=some (.struct #[g0,g1])) (hh:P.underlying g0.type=some (.array 32 ub)) (hu:P.underlying ub=some (.int .u8)) (hn:P.underlying g1.type=some (.int .u32)) (hs:P.underlying f1.type=some (.slice eb)) (hb:P.underlying eb=some (.int .u8)) (hq:P.underlying f2.type=some (.int .u32))
    (heo:P.underlying eo=some (.struct #[o0,o1])) (h0:P.underlying o0.type=some (.int .i64)) (h1:P.underlying o1.type=some (.slice eb)) (hc:P.cellsOf eb=1) (hci:P.cellsOf ei=35) (hco:P.cellsOf eo=2)
    {f:Nat} {cs:List Value} {x:DataW Hh × List MemPlace} (hx:DataW.trod enc P W base spare held f e cs=some x) :
    ∃ t:TxQ,t.ok∧(P.bytesOf eb=1→∀ si so,P.bytesOf ei=si→0<si→P.bytesOf eo=so→0<so→∀ b,(∀ n ∈ x.1.weights P e,n≤b)→(t.ins.length≤b∧∀ o ∈ t.ins,o.l.length≤b)∧(t.outs.length≤b∧∀ o ∈ t.outs,o.l.length≤b))∧∀ n,Rd (absD P (n+6) e x.1) (fun h vs=>TxAt h t vs):=by
  obtain ⟨xs,m,_,rfl,_,hl,hf⟩:=DataW.trod_struct het hx
  obtain ⟨x0,x1,x2,x3,rfl⟩:=xs4 hl
  obtain ⟨vv,_,e0,w0⟩:=DataW.trod_int hv (hf 0 t0 rfl)
  obtain ⟨kk,_,e3,w3⟩:=DataW.trod_int hk (hf 3 t3 rfl)
  simp [Lit.wf,IntKind.min,IntKind.max,IntKind.signed,IntKind.bits] at w0 w3
  obtain ⟨v,rfl⟩:=Int.eq_ofNat_of_zero_le w0.1
  obtain ⟨k,rfl⟩:=Int.eq_ofNat_of_zero_le w3.1
  obtain ⟨d1,p1⟩:=x1
  obtain ⟨d2,p2⟩:=x2
  obtain ⟨ins,i1,i2,i3⟩:=trod_row InAt InQ.ok (fun x o=>P.bytesOf eb=1→∀ b,(∀ n ∈ x.weights P ei,n≤b)→o.l.length≤b) 4 hi hci (fun g cs x hx=>trod_in he ho hh hu hn hs hb hc hq g cs x hx) (hf 1 t1 rfl)
  obtain ⟨outs,o1',o2,o3⟩:=trod_row OutAt OutQ.ok (fun x o=>P.bytesOf eb=1→∀ b,(∀ n ∈ x.weights P eo,n≤b)→o.l.length≤b) 4 hoo hco (fun g cs x hx=>trod_out heo h0 h1 hb hc g cs x hx) (hf 2 t2 rfl)
  refine ⟨⟨v,ins,outs,k⟩,⟨by show v<_; omega,i1,o1',by show k<_; omega⟩,fun hb1 si so hsi psi hso pso b hB=>?_,fun j=>?_⟩
  · have wB:∀ n,(n ∈ d1.weights P t1.type∨n ∈ d2.weights P t2.type)→n≤b:=fun n hn=>hB n (by
      show n ∈ DataW.weights P e (.agg [x0.1,d1,d2,x3.1])
      simp only [DataW.weights,het,List.map_cons,List.map_nil,DataW.weightsEach,List.mem_append]
      rcases hn with h | h
      · exact .inr (.inl h)
      · exact .inr (.inr (.inl h)))
    obtain ⟨a1,a2⟩:=i2 si b hsi psi (fun n hn=>wB n (.inl hn))
    obtain ⟨b1,b2⟩:=o2 so b hso pso (fun n hn=>wB n (.inr hn))
    exact ⟨⟨a1,fun o ho=>by obtain ⟨x,h1,h2⟩:=a2 o ho; exact h1 hb1 b h2⟩,b1,fun o ho=>by obtain ⟨x,h1,h2⟩:=b2 o ho; exact h1 hb1 b h2⟩
  have hz:=z6f (Hh:=Hh) (j+5) het [x0.1,d1,d2,x3.1] rfl (Rs:=[_,_,_,_]) (.cons (by rw [e0]; exact z8u (j+4) hv (v:Int)) (.cons (i3 j) (.cons (o3 j) (.cons (by rw [e3]; exact z8u (j+4) hk (k:Int)) .nil))))
  intro nx
  obtain ⟨vs,bls,n1,q1,q2,q3⟩:=hz nx
  refine ⟨vs,bls,n1,q1,q2,fun h hh=>?_⟩
  obtain ⟨parts,rfl,al⟩:=q3 h hh
  cases al with | cons a0 al=>cases al with | cons a1 al=>cases al with | cons a2 al=>cases al with | cons a3 al =>
  cases al
  obtain ⟨a,ea,sa⟩:=a1
  obtain ⟨b,eb',sb⟩:=a2
  exact ⟨a,b,by rw [a0,ea,eb',a3]; rfl,sa,sb⟩
end
structure PenS (S:Nat→Prop) (pn:Nat) (w:List Nat) (h:H):Prop where
  pe:∃ a,PenH pn w a h∧∀ q o,a=some (q,o)→¬ S q
  ne:¬ S pn
  lt:∀ j,S j→j<h.next
def PsR (S:Nat→Prop) (pn:Nat) (w:List Nat) (h h':H):Prop:=PenS S pn w h'∧h.next≤h'.next∧∀ j,S j→h'.get j=h.get j
theorem PenS.also {S:Nat→Prop} {h h':H} {pn:Nat} {w:List Nat} (p:PenS S pn w h) (k:Kp h h') (q:Nat) (hq:h.next≤q) (hq2:q<h'.next):PenS (fun j=>S j∨j=q) pn w h':=by
  obtain ⟨⟨a,pe,ge⟩,ne,lt⟩:=p
  refine ⟨⟨a,pe.kp k,fun q' o e h=>?_⟩,fun h=>?_,fun j hj=>?_⟩
  · rcases h with h | h
    · exact ge _ _ e h
    · have:=pe.alt e; omega
  · rcases h with h | h
    · exact ne h
    · have:=pe.lt; omega
  · rcases hj with h | h
    · have:=lt j h; have:=k.1; omega
    · omega
theorem PenS.less {S S':Nat→Prop} {h:H} {pn:Nat} {w:List Nat} (p:PenS S pn w h) (hs:∀ j,S' j→S j):PenS S' pn w h:=by
  obtain ⟨⟨a,pe,ge⟩,ne,lt⟩:=p
  exact ⟨⟨a,pe,fun q o e h=>ge q o e (hs _ h)⟩,fun h=>ne (hs _ h),fun j h=>lt j (hs _ h)⟩
theorem PenS.step {S:Nat→Prop} {h h':H} {pn:Nat} {w':List Nat} {a a':Option (Nat × Nat)} (ge:∀ q o,a=some (q,o)→¬ S q) (ne:¬ S pn) (lt:∀ j,S j→j<h.next) (pe':PenH pn w' a' h') (f:Fr pn a h a' h'):PsR S pn w' h h':=by
  have k2:=f.nx
  refine ⟨⟨⟨a',pe',fun q o e hS=>?_⟩,ne,fun j hj=>by have:=lt j hj; omega⟩,k2,fun j hj=>f.fr j (lt j hj) (fun e=>ne (e ▸ hj)) (fun e=>ge _ _ e hj)⟩
  rcases f.ow with e1 | ⟨q',e1,e2⟩
  · rw [e1] at e; exact ge _ _ e hS
  · rw [e1] at e; cases e; have:=lt _ hS; omega
theorem PenS.fixed (e:EnFix E) (x:NoFix X) (M:Nat) (hM:10<M) {S:Nat→Prop} {h:H} {pn:Nat} {w:List Nat} (p:PenS S pn w h) (s:Nat) (hs:s=4∨s=8) (n:Nat) (hn:n<256 ^ s) (hw:w.length≤90000000) :
    ∃ h',callX E X (M+4) (.fn k_octet_Pen_Fixed) [.ptr (some (pn,0)),.int .i64 (s:Int),.int .u64 (n:Int)] h=some (.int .i64 0,h')∧PsR S pn (w++leN s n) h h':=by
  obtain ⟨⟨a,pe,ge⟩,ne,lt⟩:=p
  have h64:n<18446744073709551616:=by
    rcases hs with rfl | rfl
    · exact Nat.lt_of_lt_of_le hn (by decide)
    · exact hn
  obtain ⟨h',a',r,p',f⟩:=fixedv_go e x M pn (s:Int) n hM h64 w hw a h pe
  have hz:sizedI (s:Int)=true:=by rcases hs with rfl | rfl <;> rfl
  have e2:fixE (s:Int) n=0:=by
    unfold fixE; rw [hz,if_pos rfl,if_pos (by have:=(z77 n s h64 (by omega)).2 hn; omega)]
  have e3:fixB (s:Int) n=leN s n:=by unfold fixB; rw [e2,if_pos rfl,Int.toNat_natCast]
  rw [e2] at r
  rw [e3] at p'
  exact ⟨h',r,PenS.step ge ne lt p' f⟩
theorem PenS.size (e:EnSize E) (x:NoSize X) (M:Nat) (hM:10<M) {S:Nat→Prop} {h:H} {pn:Nat} {w:List Nat} (p:PenS S pn w h) (n:Nat) (hn:n<18446744073709551616) (hw:w.length≤80000000) :
    ∃ h',callX E X (M+5) (.fn k_octet_Pen_Size) [.ptr (some (pn,0)),.int .u64 (n:Int)] h=some (.int .i64 0,h')∧PsR S pn (w++sizV n) h h':=by
  obtain ⟨⟨a,pe,ge⟩,ne,lt⟩:=p
  obtain ⟨h',a',r,p',f⟩:=sizev_go e x M pn n hM hn w hw a h pe
  exact ⟨h',r,PenS.step ge ne lt p' f⟩
def SrcS (S:Nat→Prop) (h:H) (a:Option (Nat × Nat)) (e:Nat) (l:List Nat):Prop:=l=[]∨∃ bi off vs m,a=some (bi,off)∧e=1∧S bi∧bi<h.next∧h.get bi=some (.cells vs m)∧off+l.length≤vs.length∧(vs.drop off).take l.length=ofI .u8 l
theorem SrcS.src {S:Nat→Prop} {h:H} {a:Option (Nat × Nat)} {e:Nat} {l:List Nat} (s:SrcS S h a e l):SrcH h a e l:=by
  rcases s with s | ⟨bi,off,vs,m,e1,e2,hk,hb,g,hl,hv⟩
  · exact .inl s
  · exact .inr ⟨bi,off,vs,m,e1,e2,hb,g,hl,hv⟩
theorem SrcS.part {S:Nat→Prop} {h:H} {pn:Nat} {a b:Option (Nat × Nat)} {c:Option Nat} {e:Nat} {l:List Nat} (s:SrcS S h b e l) (ge:∀ q o,a=some (q,o)→¬ S q) (ne:¬ S pn):PartOk pn a h (b,c,e,l):=by
  refine ⟨s.src,fun hne q o eq=>?_⟩
  rcases s with s | ⟨bi,off,vs,m,e1,e2,hk,_⟩
  · exact absurd s hne
  · simp only at eq
    rw [e1] at eq; cases eq
    exact ⟨fun e=>ne (e ▸ hk),fun e=>ge _ _ e hk⟩
theorem PenS.bytes (e:EnPen E) (x:NoSize X) (xb:∀ a h,X (.fn k_octet_Pen_Bytes) a h=none) (xr:∀ a h,X (.fn k_octet_Pen_Raw) a h=none) (M:Nat) (hM:10<M) {S:Nat→Prop} {h:H} {pn:Nat} {w:List Nat} (p:PenS S pn w h) (l:List Nat) (hl:l.length≤15000000) (hw:w.length≤80000000) (b:Option (Nat × Nat)) (c:Option Nat) (ez:Nat) (src:SrcS S h b ez l) :
    ∃ h',callX E X (M+6) (.fn k_octet_Pen_Bytes) [.ptr (some (pn,0)),.slice b l.length c ez] h=some (.int .i64 0,h')∧PsR S pn (w++(sizV l.length++l)) h h':=by
  obtain ⟨⟨a,pe,ge⟩,ne,lt⟩:=p
  obtain ⟨h',a',r,p',f⟩:=bytesv_go e.si e.by_ e.rw_ x xb xr M pn hM w l hw hl b c ez a h pe (src.part ge ne)
  exact ⟨h',r,PenS.step ge ne lt p' f⟩
theorem PenS.raw1 (e:EnPen E) (xr:∀ a h,X (.fn k_octet_Pen_Raw) a h=none) (M:Nat) (hM:1<M) {S:Nat→Prop} {h:H} {pn:Nat} {w:List Nat} (p:PenS S pn w h) (l:List Nat) (hw:w.length+l.length≤100000000) (b:Option (Nat × Nat)) (c:Option Nat) (ez:Nat) (src:SrcS S h b ez l) :
    ∃ h',callX E X (M+1) (.fn k_octet_Pen_Raw) [.ptr (some (pn,0)),.slice (some (h.next,0)) 1 (some 1) 1] (h.new (.cells [.slice b l.length c ez] .rw))=some (.int .i64 0,h')∧PsR S pn (w++l) h h':=by
  obtain ⟨⟨a,pe,ge⟩,ne,lt⟩:=p
  obtain ⟨h',a',r,p',f⟩:=raw1_go e.rw_ xr M pn hM w l b c ez a hw h pe (src.part ge ne)
  exact ⟨h',r,PenS.step ge ne lt p' f⟩
theorem SrcS.mono {S S':Nat→Prop} {h h':H} {a:Option (Nat × Nat)} {e:Nat} {l:List Nat} (s:SrcS S h a e l) (hn:h.next≤h'.next) (k:∀ j,S j→h'.get j=h.get j) (w:∀ j,S j→S' j):SrcS S' h' a e l:=by
  rcases s with s | ⟨bi,off,vs,m,e1,e2,hk,hb,g,hl,hv⟩
  · exact .inl s
  · exact .inr ⟨bi,off,vs,m,e1,e2,w _ hk,by omega,by rw [k _ hk,g],hl,hv⟩
theorem SrcH.s {h:H} {a:Option (Nat × Nat)} {e:Nat} {l:List Nat} (s:SrcH h a e l):SrcS (fun j=>j<h.next) h a e l:=by
  rcases s with s | ⟨bi,off,vs,m,e1,e2,hb,g,hl,hv⟩
  · exact .inl s
  · exact .inr ⟨bi,off,vs,m,e1,e2,hb,hb,g,hl,hv⟩
def RowG {α:Type} (S:Nat→Prop) (sz:Nat) (A:(Nat→Prop)→H→α→List V→Prop) (h:H) (ops:List α) (a:Option (Nat × Nat)) (e:Nat):Prop:=ops=[]∨∃ q off vs md,a=some (q,off)∧e=sz∧S q∧q<h.next∧h.get q=some (.cells vs md)∧off+ops.length*sz≤vs.length∧∀ (i:Nat) (o:α),ops[i]?=some o→A S h o ((vs.drop (off+i*sz)).take sz)
theorem RowG.mono {α:Type} {S S':Nat→Prop} {sz:Nat} {A:(Nat→Prop)→H→α→List V→Prop} {h h':H} {ops:List α} {a:Option (Nat × Nat)} {e:Nat} (r:RowG S sz A h ops a e) (hn:h.next≤h'.next) (k:∀ j,S j→h'.get j=h.get j) (w:∀ j,S j→S' j) (am:∀ o p,A S h o p→A S' h' o p):RowG S' sz A h' ops a e:=by
  rcases r with r | ⟨q,off,vs,md,e1,e2,hs,hq,g,hl,at_⟩
  · exact .inl r
  · exact .inr ⟨q,off,vs,md,e1,e2,w _ hs,by omega,by rw [k _ hs,g],hl,fun i o ho=>am _ _ (at_ i o ho)⟩
theorem rowG_of {α:Type} {sz:Nat} {A:(Nat→Prop)→H→α→List V→Prop} {h:H} {ops:List α} {parts:List (List V)} (hA:∀ o p,A (fun j=>j<h.next) h o p→p.length=sz) (al:Al2 (A (fun j=>j<h.next) h) ops parts) (a:Option (Nat × Nat)) (t:ops=[]∨∃ k md,a=some (k,0)∧k<h.next∧h.get k=some (.cells parts.flatten md)):RowG (fun j=>j<h.next) sz A h ops a sz:=by
  have pl:∀ p ∈ parts,p.length=sz:=by
    clear t
    induction al with
    | nil=>intro p hp; cases hp
    | cons h1 _ ih => intro p hp; rcases List.mem_cons.1 hp with rfl | hp
                      · exact hA _ _ h1
                      · exact ih p hp
  rcases t with t | ⟨k,md,rfl,hk,g⟩
  · exact .inl t
  · refine .inr ⟨k,0,_,md,rfl,rfl,hk,hk,g,by rw [flat_len (k:=sz) pl,al.len]; omega,fun i o ho=>?_⟩
    obtain ⟨p,hp,hap⟩:=al.get i o ho
    rw [Nat.zero_add,flat_get pl i _ hp]; exact hap
def inV (o:InQ) (b:Option (Nat × Nat)) (cb:Option Nat) (eb:Nat):List V:=ofI .u8 o.tx++[.int .u32 (o.n:Int),.slice b o.l.length cb eb,.int .u32 (o.q:Int)]
def InC (S:Nat→Prop) (h:H) (o:InQ) (p:List V):Prop:=∃ b cb eb,p=inV o b cb eb∧SrcS S h b eb o.l∧o.tx.length=32
def OutC (S:Nat→Prop) (h:H) (o:OutQ) (p:List V):Prop:=∃ b cb eb,p=[.int .i64 o.v,.slice b o.l.length cb eb]∧SrcS S h b eb o.l
theorem InC.mono {S S':Nat→Prop} {h h':H} {o:InQ} {p:List V} (r:InC S h o p) (hn:h.next≤h'.next) (k:∀ j,S j→h'.get j=h.get j) (w:∀ j,S j→S' j):InC S' h' o p:=by
  obtain ⟨b,cb,eb,e,s,l⟩:=r
  exact ⟨b,cb,eb,e,s.mono hn k w,l⟩
theorem OutC.mono {S S':Nat→Prop} {h h':H} {o:OutQ} {p:List V} (r:OutC S h o p) (hn:h.next≤h'.next) (k:∀ j,S j→h'.get j=h.get j) (w:∀ j,S j→S' j):OutC S' h' o p:=by
  obtain ⟨b,cb,eb,e,s⟩:=r
  exact ⟨b,cb,eb,e,s.mono hn k w⟩
theorem InsH.row {h:H} {a:Option (Nat × Nat)} {ops:List InQ} (r:InsH h a ops) (ok:∀ o ∈ ops,o.ok):RowG (fun j=>j<h.next) 35 InC h ops a 35:=by
  obtain ⟨parts,al,t⟩:=r
  have al2:Al2 (InC (fun j=>j<h.next) h) ops parts:=by
    clear t
    induction al with
    | nil=>exact .nil
    | cons h1 _ ih =>
      obtain ⟨b,e,s⟩:=h1
      exact .cons ⟨b,none,1,e,s.s,(ok _ (List.mem_cons_self ..)).lt⟩ (ih (fun o ho=>ok o (List.mem_cons_of_mem _ ho)))
  exact rowG_of (fun o p h=>by
    obtain ⟨b,cb,eb,e,_,l⟩:=h
    rw [e]; unfold inV; rw [List.length_append,z1a,l]; rfl) al2 a t
theorem OutsH.row {h:H} {a:Option (Nat × Nat)} {ops:List OutQ} (r:OutsH h a ops):RowG (fun j=>j<h.next) 2 OutC h ops a 2:=by
  obtain ⟨parts,al,t⟩:=r
  have al2:Al2 (OutC (fun j=>j<h.next) h) ops parts:=by
    clear t
    induction al with
    | nil=>exact .nil
    | cons h1 _ ih =>
      obtain ⟨b,e,s⟩:=h1
      exact .cons ⟨b,none,1,e,s.s⟩ ih
  exact rowG_of (fun o p h=>by
    obtain ⟨b,cb,eb,e,_⟩:=h
    rw [e]; rfl) al2 a t
theorem z4z {α:Type} {S:Nat→Prop} {sz:Nat} {A:(Nat→Prop)→H→α→List V→Prop} {h:H} {ops:List α} {a:Option (Nat × Nat)} {e:Nat} (r:RowG S sz A h ops a e) (i:Nat) (o:α) (ho:ops[i]?=some o):∃ q off vs md P,a=some (q,off)∧e=sz∧S q∧h.get q=some (.cells vs md)∧A S h o P∧loadE (some (.cells vs md)) (some sz) (off+i*sz)=some (.agg P):=by
  rcases r with r | ⟨q,off,vs,md,e1,e2,hs,hq,g,hl,at_⟩
  · rw [r] at ho; simp at ho
  · have hi:=(List.getElem?_eq_some_iff.1 ho).1
    have hle:(i+1)*sz≤ops.length*sz:=Nat.mul_le_mul_right _ hi
    rw [Nat.add_mul,Nat.one_mul] at hle
    refine ⟨q,off,vs,md,_,e1,e2,hs,g,at_ i o ho,?_⟩
    rw [z3n,z39 vs _ _ (by omega)]
theorem z5k (o:InQ) (b:Option (Nat × Nat)) (cb:Option Nat) (eb:Nat) (l:o.tx.length=32):(inV o b cb eb).length=35:=by
  unfold inV; rw [List.length_append,z1a,l]; rfl
theorem inV_n (o:InQ) (b:Option (Nat × Nat)) (cb:Option Nat) (eb:Nat) (l:o.tx.length=32):(inV o b cb eb)[32]?=some (.int .u32 (o.n:Int))∧(inV o b cb eb)[33]?=some (.slice b o.l.length cb eb)∧(inV o b cb eb)[34]?=some (.int .u32 (o.q:Int)):=by
  unfold inV
  have h:(ofI .u8 o.tx).length=32:=by rw [z1a,l]
  refine ⟨?_,?_,?_⟩ <;> rw [List.getElem?_append_right (by omega),h] <;> rfl
theorem inV_st (o:InQ) (b:Option (Nat × Nat)) (cb:Option Nat) (eb:Nat) (l:o.tx.length=32) (h:H) (i:Nat):storeV h 35 (.ptr (some (i,0))) (.agg (inV o b cb eb))=storeE (h.get i) h i 0 (inV o b cb eb):=by
  refine z3b h 35 i 0 _ ?_
  rw [z5k o b cb eb l]
  unfold inV
  rw [List.all_append,z31]; rfl
theorem inV_put (o:InQ) (b:Option (Nat × Nat)) (cb:Option Nat) (eb:Nat) (l:o.tx.length=32) (h:H) (i:Nat) (vs:List V) (lv:vs.length=35):storeE (some (.cells vs .rw)) h i 0 (inV o b cb eb)=some (h.put i (.cells (inV o b cb eb) .rw)):=by
  rw [z1v _ _ _ _ _ (by rw [z5k o b cb eb l,lv]; omega),z2q,List.drop_eq_nil_of_le (by rw [z5k o b cb eb l,lv]; omega),List.append_nil]
theorem inV_src (S:Nat→Prop) (o:InQ) (b:Option (Nat × Nat)) (cb:Option Nat) (eb:Nat) (l:o.tx.length=32) (h:H) (q:Nat) (hs:S q) (hq:q<h.next) (g:h.get q=some (.cells (inV o b cb eb) .rw)):SrcS S h (some (q,0)) 1 o.tx :=
  .inr ⟨q,0,_,.rw,rfl,rfl,hs,hq,g,by rw [z5k o b cb eb l]; omega,by
    rw [List.drop_zero]; unfold inV
    rw [List.take_left' (by rw [z1a])]⟩
def inB (o:InQ):List Nat:=o.tx++leN 4 o.n++(sizV o.l.length++o.l)++leN 4 o.q
def outB (o:OutQ):List Nat:=leN 8 (o.v % 18446744073709551616).toNat++(sizV o.l.length++o.l)
def txB (t:TxQ):List Nat:=leN 4 t.ver++sizV t.ins.length++(t.ins.map inB).flatten++sizV t.outs.length++(t.outs.map outB).flatten++leN 4 t.lock
structure TiI (v1 v22:V) (n pn:Nat) (S:Nat→Prop) (a:Option (Nat × Nat)) (e:Nat) (w0:List Nat) (ins:List InQ) (h0:H) (i:Nat) (T:Tr V) (h:H):Prop where
  il:i≤ins.length
  t1:evO T (.t 1)=v1
  t4:evO T (.t 4)=.ptr (some (pn,0))
  t22:evO T (.t 22)=v22
  t23:evO T (.t 23)=.int .i64 (n:Int)
  t24:evO T (.t 24)=.int .i64 (i:Int)
  p:PenS S pn (w0++((ins.take i).map inB).flatten) h
  row:RowG S 35 InC h ins a e
  nx:h0.next≤h.next
  fr:∀ j,S j→h.get j=h0.get j
theorem in_step (e:EnPen E) (x:NoSize X) (xf:NoFix X) (xb:∀ a h,X (.fn k_octet_Pen_Bytes) a h=none) (xr:∀ a h,X (.fn k_octet_Pen_Raw) a h=none) (M m:Nat) (hM:10<M) (ins:List InQ) (hl:ins.length≤60) (ok:∀ o ∈ ins,o.ok∧o.l.length≤2100) (v1:V) (pn:Nat) (S:Nat→Prop) (a:Option (Nat × Nat)) (c:Option Nat) (ez:Nat) (w0:List Nat) (h0:H) (i:Nat) (hi:i<ins.length) (T:Tr V) (h:H) (hw:(w0++((ins.take i).map inB).flatten).length≤70000000) (I:TiI v1 (.slice a ins.length c ez) ins.length pn S a ez w0 ins h0 i T h) :
    ∃ T' h',evC (callX E X (M+6)) 71 m none L_tx_Encode_0 ⟨T,[],h⟩=some (.normal,⟨T',[],h'⟩)∧TiI v1 (.slice a ins.length c ez) ins.length pn S a ez w0 ins h0 (i+1) T' h':=by
  obtain ⟨_,t1,t4,t22,t23,t24,p,row,nx,fr⟩:=I
  have ho:ins[i]?=some ins[i]:=List.getElem?_eq_getElem hi
  obtain ⟨oo,ol⟩:=ok _ (List.mem_of_getElem? ho)
  have es:((ins.take (i+1)).map inB).flatten=((ins.take i).map inB).flatten++inB ins[i]:=by
    rw [List.take_add_one,ho,List.map_append,List.flatten_append]
    show _++(inB _++[])=_
    rw [List.append_nil]
  obtain ⟨q,off,vs,md,P,rfl,rfl,hsq,gq,⟨b,cb,eb,rfl,sb,l32⟩,ld⟩:=z4z row i _ ho
  generalize ins[i]=o at *
  have c0:decide ((i:Int)<(ins.length:Int))=true:=decide_eq_true (by omega)
  have wi:wr .i64 ((i:Int)+1)=((i+1:Nat):Int):=by rw [z1u (by omega)]; omega
  have ix:idx (i:Int) ins.length=some i:=idxn hi
  have un:wr .u64 (o.n:Int)=(o.n:Int):=u64n _ (by have:=oo.n1; omega)
  have uq:wr .u64 (o.q:Int)=(o.q:Int):=u64n _ (by have:=oo.q1; omega)
  obtain ⟨p32,p33,p34⟩:=inV_n o b cb eb l32
  have st:=inV_st o b cb eb l32
  have pu:=fun (h:H) (j:Nat)=>inV_put o b cb eb l32 h j [.int .u8 0,.int .u8 0,.int .u8 0,.int .u8 0,.int .u8 0,.int .u8 0,.int .u8 0,.int .u8 0,.int .u8 0,.int .u8 0,.int .u8 0,.int .u8 0,.int .u8 0,.int .u8 0,.int .u8 0,.int .u8 0,.int .u8 0,.int .u8 0,.int .u8 0,.int .u8 0,.int .u8 0,.int .u8 0,.int .u8 0,.int .u8 0,.int .u8 0,.int .u8 0,.int .u8 0,.int .u8 0,.int .u8 0,.int .u8 0,.int .u8 0,.int .u8 0,.int .u32 0,.slice none 0 (some 0) 0,.int .u32 0] rfl
  obtain ⟨h1,eh1⟩:∃ h1,(h.new (.cells [.int .u8 0,.int .u8 0,.int .u8 0,.int .u8 0,.int .u8 0,.int .u8 0,.int .u8 0,.int .u8 0,.int .u8 0,.int .u8 0,.int .u8 0,.int .u8 0,.int .u8 0,.int .u8 0,.int .u8 0,.int .u8 0,.int .u8 0,.int .u8 0,.int .u8 0,.int .u8 0,.int .u8 0,.int .u8 0,.int .u8 0,.int .u8 0,.int .u8 0,.int .u8 0,.int .u8 0,.int .u8 0,.int .u8 0,.int .u8 0,.int .u8 0,.int .u8 0,.int .u32 0,.slice none 0 (some 0) 0,.int .u32 0] .rw)).put h.next (.cells (inV o b cb eb) .rw)=h1:=⟨_,rfl⟩
  have k1:Kp h h1:=by rw [← eh1]; (repeat (first | exact Kp.refl _ | refine Kp.put ?_ _ (by first | omega | (simp only [zr,zh,zq]; omega)) | refine Kp.del ?_ (by first | omega | (simp only [zr,zh,zq]; omega)) | refine Kp.trans ?_ (Kp.new _ _)))
  have n1:h1.next=h.next+1:=by rw [← eh1]; rfl
  have g1:h1.get h.next=some (.cells (inV o b cb eb) .rw):=by rw [← eh1]; exact z1f _ _ _
  have p1:=p.also k1 h.next (Nat.le_refl _) (by omega)
  obtain ⟨w,ew0⟩:∃ w,w0++((ins.take i).map inB).flatten=w:=⟨_,rfl⟩
  rw [ew0] at p1 hw
  have hS1:∀ j,S j→S j∨j=h.next:=fun j h=>.inl h
  have sx:=inV_src (fun j=>S j∨j=h.next) o b cb eb l32 h1 h.next (.inr rfl) (by omega) g1
  obtain ⟨h2,r2,p2,n2,f2⟩:=PenS.raw1 e xr (M+5) (by omega) p1 o.tx (by omega) (some (h.next,0)) (some 32) 1 sx
  rw [l32] at r2
  have g2:h2.get h.next=some (.cells (inV o b cb eb) .rw):=by rw [f2 _ (.inr rfl),g1]
  obtain ⟨h3,r3,p3,n3,f3⟩:=PenS.fixed e.fi xf (M+2) (by omega) p2 4 (.inl rfl) o.n (by have:=oo.n1; omega) (by rw [List.length_append]; omega)
  have g3:h3.get h.next=some (.cells (inV o b cb eb) .rw):=by rw [f3 _ (.inr rfl),g2]
  have lS:∀ j,S j→h1.get j=h.get j:=fun j hj=>k1.2 _ (p.lt j hj)
  have sb3:SrcS (fun j=>S j∨j=h.next) h3 b eb o.l:=sb.mono (by omega) (fun j hj=>by rw [f3 _ (.inl hj),f2 _ (.inl hj),lS j hj]) hS1
  obtain ⟨h4,r4,p4,n4,f4⟩:=PenS.bytes e x xb xr M hM p3 o.l (by omega) (by rw [List.length_append,List.length_append,z20]; omega) b cb eb sb3
  have g4:h4.get h.next=some (.cells (inV o b cb eb) .rw):=by rw [f4 _ (.inr rfl),g3]
  have lz:=z4g o.l.length
  obtain ⟨h5,r5,p5,n5,f5⟩:=PenS.fixed e.fi xf (M+2) (by omega) p4 4 (.inl rfl) o.q (by have:=oo.q1; omega) (by simp only [List.length_append,z20]; omega)
  have ff:∀ j,S j→h5.get j=h.get j:=fun j hj=>by rw [f5 _ (.inl hj),f4 _ (.inl hj),f3 _ (.inl hj),f2 _ (.inl hj),lS j hj]
  have i1:i+1≤ins.length:=hi
  have ew:w++o.tx++leN 4 o.n++(sizV o.l.length++o.l)++leN 4 o.q=w++inB o:=by unfold inB; simp only [List.append_assoc]
  rw [ew] at p5
  have sl:slcB (some (.cells (inV o b cb eb) .rw)) 32 1 h.next 0 none none h1=some (.slice (some (h.next,0)) 32 (some 32) 1,h1):=z80 _ _ _ _ _ _ (by rw [z5k o b cb eb l32]; omega)
  have row5:RowG S 35 InC h5 ins (some (q,off)) 35:=row.mono (by omega) ff (fun _ h=>h) (fun o p r=>r.mono (by omega) ff (fun _ h=>h))
  replace r3:callX E X (M+6) (.fn k_octet_Pen_Fixed) [.ptr (some (pn,0)),.int .i64 4,.int .u64 (o.n:Int)] h2=_:=r3
  replace r5:callX E X (M+6) (.fn k_octet_Pen_Fixed) [.ptr (some (pn,0)),.int .i64 4,.int .u64 (o.q:Int)] h4=_:=r5
  obtain ⟨n,en⟩:∃ n,ins.length=n:=⟨_,rfl⟩
  rw [en] at t22 t23 c0 ix
  obtain ⟨T',r,u1,u4,u22,u23,u24⟩:∃ T',evC (callX E X (M+6)) 71 m none L_tx_Encode_0 ⟨T,[],h⟩=some (.normal,⟨T',[],h5⟩)∧evO T' (.t 1)=v1∧evO T' (.t 4)=.ptr (some (pn,0))∧evO T' (.t 22)=.slice (some (q,off)) n c 35∧evO T' (.t 23)=.int .i64 (n:Int)∧evO T' (.t 24)=.int .i64 ((i+1:Nat):Int):=by
    generalize inV o b cb eb=P at *
    generalize o.l.length=L at *
    exact ⟨_,by
      simp (config:={maxSteps:=2000000}) (disch:=first | omega | (simp only [List.length_cons,List.length_nil,List.length_append,List.length_drop]; omega)) only [L_tx_Encode_0,t4,t22,t23,t24,gq,ld,c0,wi,ix,st,pu,eh1,g1,r2,g2,p32,un,r3,g3,p33,r4,g4,p34,uq,r5,↓z6w,z53,x_M0,sl,↓z2r,z29,↓zn,z14,Nat.zero_add,Nat.add_zero,↓z19,↓z1e,z1c,↓zj,zj,↓m_st,z2p,z2q,↓z2d,↓z2g,z23,z21,↓z2s,z2v,↓x_P0,↓x_P1,z2y,x_fills,List.length_cons,List.length_nil,List.drop_succ_cons,List.drop_nil,↓z1p,↓zw,↓zy,↓z10,↓z15,↓zu,↓s_op,↓zf,zf,↓zd,zd,zk,↓zg,zg,zt,↓zb,↓zm,↓z17,↓z24,↓z26,↓z12,↓z1h,↓z1z,zp,z1y,z2z,↓za,↓z9,za,z9,Nat.zero_add,List.append_nil,Nat.reduceEqDiff,decide_true,decide_false]
      exact rfl,(by (simp only [zb,zm,Nat.reduceEqDiff,decide_false,z9,t1]; try rfl)),(by (simp only [zb,zm,Nat.reduceEqDiff,decide_false,z9,t4]; try rfl)),(by (simp only [zb,zm,Nat.reduceEqDiff,decide_false,z9,t22]; try rfl)),(by (simp only [zb,zm,Nat.reduceEqDiff,decide_false,z9,t23]; try rfl)),(by (simp only [zb,decide_true,za]; try rfl))⟩
  exact ⟨T',h5,r,i1,u1,u4,by rw [en]; exact u22,by rw [en]; exact u23,u24,by rw [es,← List.append_assoc,ew0]; exact p5.less (fun _ h=>.inl h),row5,by omega,fun j hj=>by rw [ff j hj,fr j hj]⟩
theorem wr_u64m (v:Int):wr .u64 v=((v % 18446744073709551616).toNat:Int):=by
  rw [z5x]
  simp only [IntKind.wrap,IntKind.bits,IntKind.signed]
  have:(0:Int)≤v % 18446744073709551616:=Int.emod_nonneg _ (by decide)
  simp
  omega
theorem sto2 (h:H) (i:Nat) (x:Int) (a:Option (Nat × Nat)) (n:Nat) (c:Option Nat) (e:Nat):storeV h 2 (.ptr (some (i,0))) (.agg [.int .i64 x,.slice a n c e])=storeE (h.get i) h i 0 [.int .i64 x,.slice a n c e]:=z3b h 2 i 0 _ rfl
structure ToI (v1 v52:V) (n pn:Nat) (S:Nat→Prop) (a:Option (Nat × Nat)) (e:Nat) (w0:List Nat) (outs:List OutQ) (h0:H) (i:Nat) (T:Tr V) (h:H):Prop where
  il:i≤outs.length
  t1:evO T (.t 1)=v1
  t4:evO T (.t 4)=.ptr (some (pn,0))
  t52:evO T (.t 52)=v52
  t53:evO T (.t 53)=.int .i64 (n:Int)
  t54:evO T (.t 54)=.int .i64 (i:Int)
  p:PenS S pn (w0++((outs.take i).map outB).flatten) h
  row:RowG S 2 OutC h outs a e
  nx:h0.next≤h.next
  fr:∀ j,S j→h.get j=h0.get j
theorem out_step (e:EnPen E) (x:NoSize X) (xf:NoFix X) (xb:∀ a h,X (.fn k_octet_Pen_Bytes) a h=none) (xr:∀ a h,X (.fn k_octet_Pen_Raw) a h=none) (M m:Nat) (hM:10<M) (outs:List OutQ) (hl:outs.length≤60) (ok:∀ o ∈ outs,o.ok∧o.l.length≤2100) (v1:V) (pn:Nat) (S:Nat→Prop) (a:Option (Nat × Nat)) (c:Option Nat) (ez:Nat) (w0:List Nat) (h0:H) (i:Nat) (hi:i<outs.length) (T:Tr V) (h:H) (hw:(w0++((outs.take i).map outB).flatten).length≤70000000) (I:ToI v1 (.slice a outs.length c ez) outs.length pn S a ez w0 outs h0 i T h) :
    ∃ T' h',evC (callX E X (M+6)) 71 m none L_tx_Encode_1 ⟨T,[],h⟩=some (.normal,⟨T',[],h'⟩)∧ToI v1 (.slice a outs.length c ez) outs.length pn S a ez w0 outs h0 (i+1) T' h':=by
  obtain ⟨_,t1,t4,t52,t53,t54,p,row,nx,fr⟩:=I
  have ho:outs[i]?=some outs[i]:=List.getElem?_eq_getElem hi
  obtain ⟨oo,ol⟩:=ok _ (List.mem_of_getElem? ho)
  have es:((outs.take (i+1)).map outB).flatten=((outs.take i).map outB).flatten++outB outs[i]:=by
    rw [List.take_add_one,ho,List.map_append,List.flatten_append]
    show _++(outB _++[])=_
    rw [List.append_nil]
  obtain ⟨q,off,vs,md,P,rfl,rfl,hsq,gq,⟨b,cb,eb,rfl,sb⟩,ld⟩:=z4z row i _ ho
  generalize outs[i]=o at *
  have c0:decide ((i:Int)<(outs.length:Int))=true:=decide_eq_true (by omega)
  have wi:wr .i64 ((i:Int)+1)=((i+1:Nat):Int):=by rw [z1u (by omega)]; omega
  have ix:idx (i:Int) outs.length=some i:=idxn hi
  have uv:=wr_u64m o.v
  have vlt:(o.v % 18446744073709551616).toNat<256 ^ 8:=by
    have h1:(0:Int)≤o.v % 18446744073709551616:=Int.emod_nonneg _ (by decide)
    have h2:o.v % 18446744073709551616<18446744073709551616:=Int.emod_lt_of_pos _ (by decide)
    show _<18446744073709551616
    omega
  obtain ⟨h1,eh1⟩:∃ h1,(h.new (.cells [.int .i64 0,.slice none 0 (some 0) 0] .rw)).put h.next (.cells [.int .i64 o.v,.slice b o.l.length cb eb] .rw)=h1:=⟨_,rfl⟩
  have k1:Kp h h1:=by rw [← eh1]; (repeat (first | exact Kp.refl _ | refine Kp.put ?_ _ (by first | omega | (simp only [zr,zh,zq]; omega)) | refine Kp.del ?_ (by first | omega | (simp only [zr,zh,zq]; omega)) | refine Kp.trans ?_ (Kp.new _ _)))
  have n1:h1.next=h.next+1:=by rw [← eh1]; rfl
  have g1:h1.get h.next=some (.cells [.int .i64 o.v,.slice b o.l.length cb eb] .rw):=by rw [← eh1]; exact z1f _ _ _
  have p1:=p.also k1 h.next (Nat.le_refl _) (by omega)
  obtain ⟨w,ew0⟩:∃ w,w0++((outs.take i).map outB).flatten=w:=⟨_,rfl⟩
  rw [ew0] at p1 hw
  have hS1:∀ j,S j→S j∨j=h.next:=fun j h=>.inl h
  obtain ⟨h3,r3,p3,n3,f3⟩:=PenS.fixed e.fi xf (M+2) (by omega) p1 8 (.inr rfl) _ vlt (by omega)
  have g3:h3.get h.next=some (.cells [.int .i64 o.v,.slice b o.l.length cb eb] .rw):=by rw [f3 _ (.inr rfl),g1]
  have lS:∀ j,S j→h1.get j=h.get j:=fun j hj=>k1.2 _ (p.lt j hj)
  have sb3:SrcS (fun j=>S j∨j=h.next) h3 b eb o.l:=sb.mono (by omega) (fun j hj=>by rw [f3 _ (.inl hj),lS j hj]) hS1
  obtain ⟨h4,r4,p4,n4,f4⟩:=PenS.bytes e x xb xr M hM p3 o.l (by omega) (by rw [List.length_append,z20]; omega) b cb eb sb3
  have ff:∀ j,S j→h4.get j=h.get j:=fun j hj=>by rw [f4 _ (.inl hj),f3 _ (.inl hj),lS j hj]
  have i1:i+1≤outs.length:=hi
  have ew:w++leN 8 (o.v % 18446744073709551616).toNat++(sizV o.l.length++o.l)=w++outB o:=by unfold outB; simp only [List.append_assoc]
  rw [ew] at p4
  have row4:RowG S 2 OutC h4 outs (some (q,off)) 2:=row.mono (by omega) ff (fun _ h=>h) (fun o p r=>r.mono (by omega) ff (fun _ h=>h))
  replace r3:callX E X (M+6) (.fn k_octet_Pen_Fixed) [.ptr (some (pn,0)),.int .i64 8,.int .u64 (((o.v % 18446744073709551616).toNat:Nat):Int)] h1=_:=r3
  obtain ⟨n,en⟩:∃ n,outs.length=n:=⟨_,rfl⟩
  rw [en] at t52 t53 c0 ix
  obtain ⟨T',r,u1,u4,u52,u53,u54⟩:∃ T',evC (callX E X (M+6)) 71 m none L_tx_Encode_1 ⟨T,[],h⟩=some (.normal,⟨T',[],h4⟩)∧evO T' (.t 1)=v1∧evO T' (.t 4)=.ptr (some (pn,0))∧evO T' (.t 52)=.slice (some (q,off)) n c 2∧evO T' (.t 53)=.int .i64 (n:Int)∧evO T' (.t 54)=.int .i64 ((i+1:Nat):Int):=by
    generalize (o.v % 18446744073709551616).toNat=VV at *
    generalize o.v=ov at *
    generalize o.l.length=L at *
    exact ⟨_,by
      simp (config:={maxSteps:=2000000}) (disch:=first | omega | (simp only [List.length_cons,List.length_nil,List.length_append,List.length_drop]; omega)) only [L_tx_Encode_1,t4,t52,t53,t54,gq,ld,c0,wi,ix,sto2,eh1,g1,uv,r3,g3,r4,↓z2r,z29,↓zn,z14,Nat.zero_add,Nat.add_zero,↓z19,↓z1e,z1c,↓zj,zj,↓m_st,z2p,z1v,z2q,↓z2d,↓z2g,z23,z21,List.length_cons,List.length_nil,List.drop_succ_cons,List.drop_nil,Nat.reduceAdd,↓z1p,↓zw,↓zy,↓z10,↓z15,↓zu,↓s_op,↓zf,zf,↓zd,zd,zk,↓zg,zg,zt,↓zb,↓zm,↓z17,↓z24,↓z26,↓z12,↓z1h,↓z1z,zp,z1y,z2z,↓za,↓z9,za,z9,Nat.zero_add,List.append_nil,Nat.reduceEqDiff,decide_true,decide_false,List.getElem?_cons_zero,List.getElem?_cons_succ]
      exact rfl,(by (simp only [zb,zm,Nat.reduceEqDiff,decide_false,z9,t1]; try rfl)),(by (simp only [zb,zm,Nat.reduceEqDiff,decide_false,z9,t4]; try rfl)),(by (simp only [zb,zm,Nat.reduceEqDiff,decide_false,z9,t52]; try rfl)),(by (simp only [zb,zm,Nat.reduceEqDiff,decide_false,z9,t53]; try rfl)),(by (simp only [zb,decide_true,za]; try rfl))⟩
  exact ⟨T',h4,r,i1,u1,u4,by rw [en]; exact u52,by rw [en]; exact u53,u54,by rw [es,← List.append_assoc,ew0]; exact p4.less (fun _ h=>.inl h),row4,by omega,fun j hj=>by rw [ff j hj,fr j hj]⟩
theorem inB_len (o:InQ) (ok:o.ok) (hl:o.l.length≤2100):(inB o).length≤2200:=by
  unfold inB
  have:=z4g o.l.length
  have:=ok.lt
  simp only [List.length_append,z20]; omega
theorem outB_len (o:OutQ) (hl:o.l.length≤2100):(outB o).length≤2200:=by
  unfold outB
  have:=z4g o.l.length
  simp only [List.length_append,z20]; omega
theorem flat_le {α:Type} (f:α→List Nat) (k:Nat) (l:List α) (h:∀ o ∈ l,(f o).length≤k):(l.map f).flatten.length≤k*l.length:=by
  induction l with
  | nil=>exact Nat.zero_le _
  | cons a r ih =>
    have h1:=h a (List.mem_cons_self ..)
    have h2:=ih (fun o ho=>h o (List.mem_cons_of_mem _ ho))
    rw [List.map_cons,List.flatten_cons,List.length_append,List.length_cons,Nat.mul_succ]; omega
structure EnTe (E:Nat→Option Fn):Prop where
  ep:EnPen E
  en:E k_tx_Encode=some f_tx_Encode
structure NoTe (X:Orc):Prop where
  si:NoSize X
  fi:NoFix X
  by_:∀ a h,X (.fn k_octet_Pen_Bytes) a h=none
  rw_:∀ a h,X (.fn k_octet_Pen_Raw) a h=none
  al:∀ a h,X (.fn k_octet_Pen_All) a h=none
  en:∀ a h,X (.fn k_tx_Encode) a h=none
theorem tenc_go (e:EnTe E) (x:NoTe X) (M:Nat) (hM:100<M) (t:TxQ) (ok:t.ok) (li:t.ins.length≤60) (lo:t.outs.length≤60) (hi:∀ o ∈ t.ins,o.l.length≤2100) (ho:∀ o ∈ t.outs,o.l.length≤2100) (a b:Option (Nat × Nat)) (ca cb:Option Nat) (ea eb:Nat) (h:H) (ra:RowG (fun j=>j<h.next) 35 InC h t.ins a ea) (rb:RowG (fun j=>j<h.next) 2 OutC h t.outs b eb)
    (h1:H) (ck:callX E X (M+6) (.fn k_tx_Check) [.agg [.int .u32 (t.ver:Int),.slice a t.ins.length ca ea,.slice b t.outs.length cb eb,.int .u32 (t.lock:Int)]] (h.new (.cells [.int .u32 (t.ver:Int),.slice a t.ins.length ca ea,.slice b t.outs.length cb eb,.int .u32 (t.lock:Int)] .rw))=some (.int .i64 0,h1)) (kc:Kp (h.new (.cells [.int .u32 (t.ver:Int),.slice a t.ins.length ca ea,.slice b t.outs.length cb eb,.int .u32 (t.lock:Int)] .rw)) h1) :
    ∃ h' a2 c2 e2,callX E X (M+7) (.fn k_tx_Encode) [.agg [.int .u32 (t.ver:Int),.slice a t.ins.length ca ea,.slice b t.outs.length cb eb,.int .u32 (t.lock:Int)]] h=some (.tup [.slice a2 (txB t).length c2 e2,.int .i64 0],h')∧Nw h h' (txB t) a2 c2 e2:=by
  rw [z2c e.en _ _ (Nat.le_of_ble_eq_true rfl) (x.en _ _)]
  obtain ⟨C,eC⟩:∃ C:List V,[.int .u32 (t.ver:Int),.slice a t.ins.length ca ea,.slice b t.outs.length cb eb,.int .u32 (t.lock:Int)]=C:=⟨_,rfl⟩
  have k01:Kp h h1:=(Kp.new h (.cells C .rw)).trans (by rw [← eC]; exact kc)
  have nB:h.next<h1.next:=by have:=kc.1; have:(h.new (.cells [.int .u32 (t.ver:Int),.slice a t.ins.length ca ea,.slice b t.outs.length cb eb,.int .u32 (t.lock:Int)] .rw)).next=h.next+1:=rfl; omega
  have gB:h1.get h.next=some (.cells C .rw):=by rw [kc.2 _ (Nat.lt_succ_self _),← eC]; exact z1g _ _
  obtain ⟨h2,eh2⟩:∃ h2,h1.new (.cells [.slice none 0 (some 0) 0] .rw)=h2:=⟨_,rfl⟩
  have k12:Kp h1 h2:=by rw [← eh2]; exact Kp.new _ _
  have n2:h2.next=h1.next+1:=by rw [← eh2]; rfl
  have p2:PenS (fun j=>j<h1.next) h1.next [] h2:=⟨⟨none,PenH.new h2 h1.next (by omega) (by rw [← eh2]; exact z1g _ _),fun q o e=>by cases e⟩,fun h=>Nat.lt_irrefl _ h,fun j hj=>by have:j<h1.next:=hj; omega⟩
  have kS:∀ j,j<h.next→h2.get j=h.get j:=fun j hj=>by rw [k12.2 _ (by omega),k01.2 _ hj]
  obtain ⟨h3,r3,p3,n3,f3⟩:=PenS.fixed e.ep.fi x.fi (M+2) (by omega) p2 4 (.inl rfl) t.ver ok.v1 (by simp)
  rw [List.nil_append] at p3
  obtain ⟨h4,r4,p4,n4,f4⟩:=PenS.size e.ep.si x.si (M+1) (by omega) p3 t.ins.length (by omega) (by rw [z20]; omega)
  have gB4:h4.get h.next=some (.cells C .rw):=by rw [f4 _ nB,f3 _ nB,k12.2 _ nB,gB]
  have gB2:h2.get h.next=some (.cells C .rw):=by rw [k12.2 _ nB,gB]
  have gB3:h3.get h.next=some (.cells C .rw):=by rw [f3 _ nB,gB2]
  have s4:∀ j,j<h.next→h4.get j=h.get j:=fun j hj=>by rw [f4 _ (by show j<h1.next; omega),f3 _ (by show j<h1.next; omega),kS j hj]
  have wS:∀ j,j<h.next→j<h1.next:=fun j hj=>by omega
  have ra4:RowG (fun j=>j<h1.next) 35 InC h4 t.ins a ea:=ra.mono (by omega) s4 wS (fun o p r=>r.mono (by omega) s4 wS)
  have fi:∀ i,i≤t.ins.length→((t.ins.take i).map inB).flatten.length≤132000:=fun i hi'=>by
    have:=flat_le inB 2200 (t.ins.take i) (fun o ho=>inB_len o (ok.io o (List.mem_of_mem_take ho)) (hi o (List.mem_of_mem_take ho)))
    rw [List.length_take] at this
    have:2200*min i t.ins.length≤2200*60:=Nat.mul_le_mul_left _ (by omega)
    omega
  have fo:∀ i,i≤t.outs.length→((t.outs.take i).map outB).flatten.length≤132000:=fun i hi'=>by
    have:=flat_le outB 2200 (t.outs.take i) (fun o ho'=>outB_len o (ho o (List.mem_of_mem_take ho')))
    rw [List.length_take] at this
    have:2200*min i t.outs.length≤2200*60:=Nat.mul_le_mul_left _ (by omega)
    omega
  have z1:=z4g t.ins.length
  have z2:=z4g t.outs.length
  obtain ⟨w1,ew1⟩:∃ w,leN 4 t.ver++sizV t.ins.length=w:=⟨_,rfl⟩
  have lw1:w1.length≤13:=by rw [← ew1,List.length_append,z20]; omega
  rw [ew1] at p4
  have okI:∀ o ∈ t.ins,o.ok∧o.l.length≤2100:=fun o h=>⟨ok.io o h,hi o h⟩
  have okO:∀ o ∈ t.outs,o.ok∧o.l.length≤2100:=fun o h=>⟨ok.oo o h,ho o h⟩
  have fin:∀ T,TiI (.ptr (some (h.next,0))) (.slice a t.ins.length ca ea) t.ins.length h1.next (fun j=>j<h1.next) a ea w1 t.ins h4 0 T h4→∃ h' a2 c2 e2,fnEnd [.tmp 2,.tmp 3] (bindE (blockE 0 (loopN (evC (callX E X (M+6)) 71 (M+6) none L_tx_Encode_0) (M+6) ⟨T,[],h4⟩)) (evC (callX E X (M+6)) 71 (M+6) none R_tx_Encode_1))=some (.tup [.slice a2 (txB t).length c2 e2,.int .i64 0],h')∧Nw h h' (txB t) a2 c2 e2:=by
    intro T I
    obtain ⟨T',h5,rr,J⟩:=z22 (f:=evC (callX E X (M+6)) 71 (M+6) none L_tx_Encode_0) (TiI (.ptr (some (h.next,0))) (.slice a t.ins.length ca ea) t.ins.length h1.next (fun j=>j<h1.next) a ea w1 t.ins h4) t.ins.length (.exit 0) (by intro h; cases h) (TiI (.ptr (some (h.next,0))) (.slice a t.ins.length ca ea) t.ins.length h1.next (fun j=>j<h1.next) a ea w1 t.ins h4 t.ins.length) (fun i T h' hi' I=>in_step e.ep x.si x.fi x.by_ x.rw_ M _ (by omega) t.ins li okI _ _ _ a ca ea w1 h4 i hi' T h' (by rw [List.length_append]; have:=fi i (by omega); omega) I) (fun T h' I=>by
      obtain ⟨il,t1,t4,t22,t23,t24,p,row,nx,fr⟩:=I
      have c0:decide ((t.ins.length:Int)<(t.ins.length:Int))=false:=decide_eq_false (by omega)
      obtain ⟨n,en⟩:∃ n,t.ins.length=n:=⟨_,rfl⟩
      rw [en] at t22 t23 t24 c0
      exact ⟨_,h',by
        simp (config:={maxSteps:=2000000}) (disch:=first | omega | (simp only [List.length_cons,List.length_nil,List.length_append,List.length_drop]; omega)) only [L_tx_Encode_0,t23,t24,c0,↓zw,↓zy,↓z10,↓z2b,↓zu,↓s_op,↓zf,zf,↓zd,zd,z16,zk,↓zg,zg,↓zb,↓z1h,zp,z1y,↓za,↓z9,za,z9,decide_true]
        exact rfl,⟨il,(by (simp only [zb,Nat.reduceEqDiff,decide_false,z9,t1]; try rfl)),(by (simp only [zb,Nat.reduceEqDiff,decide_false,z9,t4]; try rfl)),by rw [en]; exact (by (simp only [zb,Nat.reduceEqDiff,decide_false,z9,t22]; try rfl)),by rw [en]; exact (by (simp only [zb,Nat.reduceEqDiff,decide_false,z9,t23]; try rfl)),by rw [en]; exact (by (simp only [zb,Nat.reduceEqDiff,decide_false,z9,t24]; try rfl)),p,row,nx,fr⟩⟩) t.ins.length 0 (by omega) (M+6) (by omega) T h4 I
    rw [rr]
    obtain ⟨_,t1,t4,_,_,_,p5,_,nx5,f5⟩:=J
    rw [List.take_length] at p5
    obtain ⟨w2,ew2⟩:∃ w,w1++(t.ins.map inB).flatten=w:=⟨_,rfl⟩
    have lw2:w2.length≤132013:=by
      have:=fi t.ins.length (Nat.le_refl _)
      rw [List.take_length] at this
      rw [← ew2,List.length_append]; omega
    rw [ew2] at p5
    have gB5:h5.get h.next=some (.cells C .rw):=by rw [f5 _ nB,gB4]
    obtain ⟨h6,r6,p6,n6,f6⟩:=PenS.size e.ep.si x.si (M+1) (by omega) p5 t.outs.length (by omega) (by omega)
    have gB6:h6.get h.next=some (.cells C .rw):=by rw [f6 _ nB,gB5]
    have s6:∀ j,j<h.next→h6.get j=h.get j:=fun j hj=>by rw [f6 _ (by show j<h1.next; omega),f5 _ (by show j<h1.next; omega),s4 j hj]
    have rb6:RowG (fun j=>j<h1.next) 2 OutC h6 t.outs b eb:=rb.mono (by omega) s6 wS (fun o p r=>r.mono (by omega) s6 wS)
    obtain ⟨w3,ew3⟩:∃ w,w2++sizV t.outs.length=w:=⟨_,rfl⟩
    have lw3:w3.length≤132022:=by rw [← ew3,List.length_append]; omega
    rw [ew3] at p6
    have fin2:∀ T,ToI (.ptr (some (h.next,0))) (.slice b t.outs.length cb eb) t.outs.length h1.next (fun j=>j<h1.next) b eb w3 t.outs h6 0 T h6→∃ h' a2 c2 e2,fnEnd [.tmp 2,.tmp 3] (bindE (blockE 2 (loopN (evC (callX E X (M+6)) 71 (M+6) none L_tx_Encode_1) (M+6) ⟨T,[],h6⟩)) (evC (callX E X (M+6)) 71 (M+6) none R_tx_Encode_0))=some (.tup [.slice a2 (txB t).length c2 e2,.int .i64 0],h')∧Nw h h' (txB t) a2 c2 e2:=by
      intro T I
      obtain ⟨T',h7,rr,J⟩:=z22 (f:=evC (callX E X (M+6)) 71 (M+6) none L_tx_Encode_1) (ToI (.ptr (some (h.next,0))) (.slice b t.outs.length cb eb) t.outs.length h1.next (fun j=>j<h1.next) b eb w3 t.outs h6) t.outs.length (.exit 2) (by intro h; cases h) (ToI (.ptr (some (h.next,0))) (.slice b t.outs.length cb eb) t.outs.length h1.next (fun j=>j<h1.next) b eb w3 t.outs h6 t.outs.length) (fun i T h' hi' I=>out_step e.ep x.si x.fi x.by_ x.rw_ M _ (by omega) t.outs lo okO _ _ _ b cb eb w3 h6 i hi' T h' (by rw [List.length_append]; have:=fo i (by omega); omega) I) (fun T h' I=>by
        obtain ⟨il,t1,t4,t52,t53,t54,p,row,nx,fr⟩:=I
        have c0:decide ((t.outs.length:Int)<(t.outs.length:Int))=false:=decide_eq_false (by omega)
        obtain ⟨n,en⟩:∃ n,t.outs.length=n:=⟨_,rfl⟩
        rw [en] at t52 t53 t54 c0
        exact ⟨_,h',by
          simp (config:={maxSteps:=2000000}) (disch:=first | omega | (simp only [List.length_cons,List.length_nil,List.length_append,List.length_drop]; omega)) only [L_tx_Encode_1,t53,t54,c0,↓zw,↓zy,↓z10,↓z2b,↓zu,↓s_op,↓zf,zf,↓zd,zd,z16,zk,↓zg,zg,↓zb,↓z1h,zp,z1y,↓za,↓z9,za,z9,decide_true]
          exact rfl,⟨il,(by (simp only [zb,Nat.reduceEqDiff,decide_false,z9,t1]; try rfl)),(by (simp only [zb,Nat.reduceEqDiff,decide_false,z9,t4]; try rfl)),by rw [en]; exact (by (simp only [zb,Nat.reduceEqDiff,decide_false,z9,t52]; try rfl)),by rw [en]; exact (by (simp only [zb,Nat.reduceEqDiff,decide_false,z9,t53]; try rfl)),by rw [en]; exact (by (simp only [zb,Nat.reduceEqDiff,decide_false,z9,t54]; try rfl)),p,row,nx,fr⟩⟩) t.outs.length 0 (by omega) (M+6) (by omega) T h6 I
      rw [rr]
      obtain ⟨_,t1,t4,_,_,_,p7,_,nx7,f7⟩:=J
      rw [List.take_length] at p7
      have fo':=fo t.outs.length (Nat.le_refl _)
      rw [List.take_length] at fo'
      have gB7:h7.get h.next=some (.cells C .rw):=by rw [f7 _ nB,gB6]
      obtain ⟨h8,r8,p8,n8,f8⟩:=PenS.fixed e.ep.fi x.fi (M+2) (by omega) p7 4 (.inl rfl) t.lock ok.l1 (by rw [List.length_append]; omega)
      have ew:w3++(t.outs.map outB).flatten++leN 4 t.lock=txB t:=by rw [← ew3,← ew2,← ew1]; rfl
      have lw:(txB t).length≤100000000:=by rw [← ew,List.length_append,List.length_append,z20]; omega
      rw [ew] at p8
      obtain ⟨⟨a8,pe8,_⟩,_,_⟩:=p8
      obtain ⟨a9,c9,e9,h9,r9,nw9⟩:=allv_go e.ep.al x.al (M+5) h1.next (txB t) lw a8 h8 pe8
      have k9:=nw9.kp
      have kn9:=k9.1
      have k01n:=k01.1
      refine ⟨h9,a9,c9,e9,?_,⟨⟨by omega,fun j hj=>by rw [k9.2 _ (by omega),f8 _ (by show j<h1.next; omega),f7 _ (by show j<h1.next; omega),s6 j hj]⟩,nw9.wb,fun q o e=>by have:=nw9.ge q o e; omega⟩⟩
      have uk:wr .u64 (t.lock:Int)=(t.lock:Int):=u64n _ (by have:=ok.l1; omega)
      rw [← eC] at gB7
      replace r8:callX E X (M+6) (.fn k_octet_Pen_Fixed) [.ptr (some (h1.next,0)),.int .i64 4,.int .u64 (t.lock:Int)] h7=_:=r8
      replace r9:callX E X (M+6) (.fn k_octet_Pen_All) [.ptr (some (h1.next,0))] h8=_:=r9
      generalize (txB t).length=L at *
      simp (config:={maxSteps:=2000000}) (disch:=first | omega | (simp only [List.length_cons,List.length_nil,List.length_append,List.length_drop]; omega)) only [R_tx_Encode_0,t1,t4,gB7,uk,r8,r9,↓z2r,z29,↓zn,z14,Nat.zero_add,↓z1e,z1c,↓zj,zj,zo,↓zw,↓zy,↓z1t,↓zu,↓s_op,↓zf,zf,↓zd,zd,zk,z1b,↓zb,↓z17,↓z24,↓z26,↓z12,↓z1z,zp,z1x,zo,z1m,z4y,↓za,↓z9,za,z9,Nat.zero_add,Nat.reduceEqDiff,decide_true,decide_false,List.getElem?_cons_zero,List.getElem?_cons_succ,if_true]
      try rfl
    obtain ⟨R,eR⟩:∃ R,R_tx_Encode_0=R:=⟨_,rfl⟩
    obtain ⟨Lo,eL⟩:∃ R,L_tx_Encode_1=R:=⟨_,rfl⟩
    rw [eR,eL] at fin2
    have fin3:=fun T q1 q4 q52 q53 q54=>fin2 T ⟨Nat.zero_le _,q1,q4,q52,q53,q54,by simpa using p6,rb6,Nat.le_refl _,fun _ _=>rfl⟩
    clear fin2
    rw [← eC] at gB5 gB6
    have un:wr .u64 (t.outs.length:Int)=(t.outs.length:Int):=u64n _ (by omega)
    replace r6:callX E X (M+6) (.fn k_octet_Pen_Size) [.ptr (some (h1.next,0)),.int .u64 (t.outs.length:Int)] h5=_:=r6
    generalize (txB t).length=L at *
    obtain ⟨n,en⟩:∃ n,t.outs.length=n:=⟨_,rfl⟩
    rw [en] at gB5 gB6 un r6 fin3
    simp (config:={maxSteps:=2000000}) (disch:=first | omega | (simp only [List.length_cons,List.length_nil,List.length_append,List.length_drop]; omega)) only [R_tx_Encode_1,eR,eL,t1,t4,gB5,gB6,un,r6,↓z1q,z18,↓z2r,z29,↓zn,z14,Nat.zero_add,↓z2k,↓z2e,↓z1e,z1c,↓zj,zj,z18,↓z1q,↓zw,↓zy,↓z15,↓zu,↓s_op,↓zf,zf,↓zd,zd,zk,z1b,↓zb,↓z17,↓z24,↓z26,↓z12,↓z1z,zp,↓za,↓z9,za,z9,Nat.zero_add,Nat.reduceEqDiff,decide_true,decide_false,List.getElem?_cons_zero,List.getElem?_cons_succ,if_true]
    exact fin3 _ (by (simp only [zb,Nat.reduceEqDiff,decide_false,z9,t1]; try rfl)) (by (simp only [zb,Nat.reduceEqDiff,decide_false,z9,t4]; try rfl)) (by (simp only [zb,Nat.reduceEqDiff,decide_false,decide_true,z9,za]; try rfl)) (by (simp only [zb,Nat.reduceEqDiff,decide_false,decide_true,z9,za]; try rfl)) (by (simp only [zb,decide_true,za]; try rfl))
  obtain ⟨R,eR⟩:∃ R,R_tx_Encode_1=R:=⟨_,rfl⟩
  obtain ⟨Lo,eL⟩:∃ R,L_tx_Encode_0=R:=⟨_,rfl⟩
  rw [eR,eL] at fin ⊢
  have fin':=fun T q1 q4 q22 q23 q24=>fin T ⟨Nat.zero_le _,q1,q4,q22,q23,q24,by simpa using p4,ra4,Nat.le_refl _,fun _ _=>rfl⟩
  clear fin
  have z0:decide ((0:Int)=0)=true:=rfl
  have uv:wr .u64 (t.ver:Int)=(t.ver:Int):=u64n _ (by have:=ok.v1; omega)
  have un:wr .u64 (t.ins.length:Int)=(t.ins.length:Int):=u64n _ (by omega)
  have g0:(h.new (.cells C .rw)).get h.next=some (.cells C .rw):=z1g _ _
  rw [← eC] at gB2 gB3 gB4 g0
  replace r3:callX E X (M+6) (.fn k_octet_Pen_Fixed) [.ptr (some (h1.next,0)),.int .i64 4,.int .u64 (t.ver:Int)] h2=_:=r3
  replace r4:callX E X (M+6) (.fn k_octet_Pen_Size) [.ptr (some (h1.next,0)),.int .u64 (t.ins.length:Int)] h3=_:=r4
  obtain ⟨hb,ehb⟩:∃ hb,h.new (.cells [.int .u32 (t.ver:Int),.slice a t.ins.length ca ea,.slice b t.outs.length cb eb,.int .u32 (t.lock:Int)] .rw)=hb:=⟨_,rfl⟩
  rw [ehb] at ck g0
  have ca':∀ l:List V,(V.agg l).cells=l:=fun _=>rfl
  obtain ⟨n,en⟩:∃ n,t.ins.length=n:=⟨_,rfl⟩
  obtain ⟨n',en'⟩:∃ n,t.outs.length=n:=⟨_,rfl⟩
  rw [en,en'] at ck ehb g0 gB2 gB3 gB4
  rw [en] at un r4 fin' ⊢
  rw [en']
  generalize (txB t).length=L at *
  simp (config:={maxSteps:=2000000}) (disch:=first | omega | (simp only [List.length_cons,List.length_nil,List.length_append,List.length_drop]; omega)) only [ca',ehb,g0,ck,eh2,gB2,uv,r3,gB3,un,r4,gB4,↓z2x,↓z1q,z18,↓z2r,z29,↓zn,z14,Nat.zero_add,Nat.add_zero,↓z2k,↓z2e,↓z1e,z1c,↓zj,zj,↓z2d,z18,↓z1q,m_load4,↓z1p,↓zw,↓zy,↓z10,↓z15,↓zu,↓s_op,↓zf,zf,↓zd,zd,zk,↓zg,zg,↓zb,↓z1s,↓z17,↓z24,↓z26,↓z11,↓z13,↓z12,↓z1h,↓z1z,zp,z3j,↓za,↓z9,za,z9,Nat.zero_add,Nat.reduceEqDiff,decide_true,decide_false,Bool.not_true,List.getElem?_cons_zero,List.getElem?_cons_succ]
  exact fin' _ (by (simp only [zb,Nat.reduceEqDiff,decide_false,decide_true,z9,za]; try rfl)) (by (simp only [zb,Nat.reduceEqDiff,decide_false,decide_true,z9,za]; try rfl)) (by (simp only [zb,Nat.reduceEqDiff,decide_false,decide_true,z9,za]; try rfl)) (by (simp only [zb,Nat.reduceEqDiff,decide_false,decide_true,z9,za]; try rfl)) (by (simp only [zb,decide_true,za]; try rfl))
end Go.Eng
