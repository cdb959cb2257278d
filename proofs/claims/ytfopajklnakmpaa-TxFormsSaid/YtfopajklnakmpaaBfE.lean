import Derived.Test.YtfopajklnakmpaaBfD
namespace Go.Eng
open Go
variable {E:Nat→Option Fn} {X:Orc}
set_option linter.unusedSimpArgs false
set_option linter.unusedVariables false
theorem fit_fill {sz:Nat} {P:List V} (f:Fit sz P) (Z:List V) (hz:Z.length=sz):fillV Z [(0,sz,.agg P)]=some P:=by
  have c:(V.agg P).cells=P:=rfl
  rw [x_fill1 _ _ _ _ _ (by rw [c,f.1,hz,Nat.zero_add,Nat.beq_refl]; simp),c,z2q,z2y,List.drop_eq_nil_of_le (by rw [f.1,hz]; omega),List.append_nil]
theorem vbeq4 (k:IntKind) (m n:Int) (a b:Option (Nat × Nat)) (la lb:Nat) (ca cb:Option Nat) (ea eb:Nat):V.beq (.agg [.int k m,.slice a la ca ea,.slice b lb cb eb,.int k n]) (.agg [.int k m,.slice a la ca ea,.slice b lb cb eb,.int k n])=true:=by
  show V.beqs _ _=true
  simp only [V.beqs,z7f,vbeq_slc,Bool.and_self]
theorem mod_wr (v:Int) (h1:-9223372036854775808≤v) (h2:v<9223372036854775808):wr .i64 (((v % 18446744073709551616).toNat:Nat):Int)=v∧(v % 18446744073709551616).toNat<18446744073709551616:=by
  rw [z5x]
  simp [IntKind.wrap,IntKind.bits,IntKind.signed]
  omega
def Z4:List V:=[.int .u32 0,.slice none 0 (some 0) 0,.slice none 0 (some 0) 0,.int .u32 0]
theorem inB_byt (o:InQ) (ok:o.ok):byt (inB o)=true:=by
  unfold inB
  exact z3k (z3k (z3k ok.bt (z5j _ _)) (z3k (z7c _) ok.bl)) (z5j _ _)
theorem outB_byt (o:OutQ) (ok:o.ok):byt (outB o)=true:=by
  unfold outB
  exact z3k (z5j _ _) (z3k (z7c _) ok.bl)
theorem flat_byt {α:Type} (f:α→List Nat) (l:List α) (h:∀ o ∈ l,byt (f o)=true):byt (l.map f).flatten=true:=by
  induction l with
  | nil=>rfl
  | cons a r ih =>
    rw [List.map_cons,List.flatten_cons]
    exact z3k (h a (List.mem_cons_self ..)) (ih (fun o ho=>h o (List.mem_cons_of_mem _ ho)))
theorem z6r (t:TxQ) (ok:t.ok):byt (txB t)=true:=by
  unfold txB
  exact z3k (z3k (z3k (z3k (z3k (z5j _ _) (z7c _)) (flat_byt _ _ (fun o ho=>inB_byt o (ok.io o ho)))) (z7c _)) (flat_byt _ _ (fun o ho=>outB_byt o (ok.oo o ho)))) (z5j _ _)
structure EnTb (E:Nat→Option Fn):Prop where
  te:EnTe E
  tc:EnTc E
  gr:E k_purserref06_Great=some f_purserref06_Great
  rr:EnRr E
  ts:EnTs E
structure NoTb (X:Orc):Prop where
  te:NoTe X
  tc:NoTc X
  gr:∀ a h,X (.fn k_purserref06_Great) a h=none
  rr:NoRr X
  ts:NoTs X
theorem enc_go (e:EnTe E) (x:NoTe X) (ec:EnTc E) (xc:NoTc X) (M:Nat) (hM:100<M) (t:TxQ) (ok:t.ok) (g:gtOk t) (P:List V) (h:H) (tc:TxC (fun j=>j<h.next) h t P) :
    (ckOk t∧∃ h' a2 c2 e2,callX E X (M+7) (.fn k_tx_Encode) [.agg P] h=some (.tup [.slice a2 (txB t).length c2 e2,.int .i64 0],h')∧Nw h h' (txB t) a2 c2 e2) ∨
    (¬ ckOk t∧∃ h',callX E X (M+7) (.fn k_tx_Encode) [.agg P] h=some (.tup [.slice none 0 (some 0) 0,.int .i64 60],h')∧Kp h h'):=by
  obtain ⟨a,b,ca,cb,ea,eb,rfl,ra,rb⟩:=tc
  exact tencode_go e x ec xc M hM t ok g.1 g.2.1 g.2.2.1 g.2.2.2 a b ca cb ea eb h ra rb
theorem gr6_go (e6:E k_purserref06_Great=some f_purserref06_Great) (x6:∀ a h,X (.fn k_purserref06_Great) a h=none) (M:Nat) (hM:100<M) (t:TxQ) (hi:t.ins.length<9223372036854775807) (ho:t.outs.length<9223372036854775807) (P:List V) (h:H) (tc:TxC (fun j=>j<h.next) h t P) :
    ∃ (h':H) (r:Int),callX E X (M+1) (.fn k_purserref06_Great) [.agg P] h=some (.int .i64 r,h')∧Kp h h'∧((gtOk t∧r=0)∨(¬ gtOk t∧r=1)):=by
  obtain ⟨a,b,ca,cb,ea,eb,rfl,ra,rb⟩:=tc
  exact great6_go e6 x6 M hM t hi ho a b ca cb ea eb h ra rb
theorem txB_le (t:TxQ) (ok:t.ok) (g:gtOk t):(txB t).length≤300000:=by
  have:=txB_ln t ok g
  have h1:=(lnI_eq t.ins (fun o ho=>⟨ok.io o ho,g.2.2.1 o ho⟩)).2
  have h2:=(lnO_eq t.outs g.2.2.2).2
  have h3:=sz6_le t.ins.length
  have h4:=sz6_le t.outs.length
  have g1:=g.1
  have g2:=g.2.1
  have:2143*t.ins.length≤2143*60:=Nat.mul_le_mul_left _ g1
  have:2111*t.outs.length≤2111*60:=Nat.mul_le_mul_left _ g2
  omega
end Go.Eng
