/- What functions of the program come to: own work. -/
import Derived.Test.YtfopajklnakmpaaBaD
namespace Go.Eng
open Go
variable {E : Nat → Option Fn} {X : Orc}
set_option linter.unusedSimpArgs false
set_option linter.unusedVariables false
def rxO (l : List Nat) (s : Nat × Bool) : OutQ × Nat × Bool := (⟨wr .i64 ((eyFix 8 l s.1).1 : Int), (rdS l ((eyFix 8 l s.1).2.2, s.2 || decide ((eyFix 8 l s.1).2.1 ≠ 0))).1⟩, (rdS l ((eyFix 8 l s.1).2.2, s.2 || decide ((eyFix 8 l s.1).2.1 ≠ 0))).2)
def rxS {α : Type} (item : Nat × Bool → α × Nat × Bool) (x : List α × Nat × Bool) : List α × Nat × Bool := (x.1 ++ [(item x.2).1], (item x.2).2)
def rxR {α : Type} (item : Nat × Bool → α × Nat × Bool) (x : List α × Nat × Bool) : Nat → List α × Nat × Bool
  | 0 => x
  | n + 1 => if (rxR item x n).2.2 = true then rxR item x n else rxS item (rxR item x n)
/-- how a list begins -/
def rxB (l : List Nat) (s : Nat × Bool) : Nat × Bool := ((eySiz l s.1).2.2, s.2 || decide ((eySiz l s.1).2.1 ≠ 0) || (decide ((eySiz l s.1).1 < 1) || decide (50 < (eySiz l s.1).1)))
def rxL {α : Type} (item : List Nat → Nat × Bool → α × Nat × Bool) (l : List Nat) (s : Nat × Bool) : List α × Nat × Bool := rxR (item l) ([], rxB l s) (eySiz l s.1).1
end Go.Eng
namespace Go.Eng
open Go
variable {E : Nat → Option Fn} {X : Orc}
set_option linter.unusedSimpArgs false
set_option linter.unusedVariables false
end Go.Eng
namespace Go.Eng
open Go
variable {E : Nat → Option Fn} {X : Orc}
set_option linter.unusedSimpArgs false
set_option linter.unusedVariables false
theorem RdH.put {ep rp : Nat} {l : List Nat} {a : Option (Nat × Nat)} {s : Nat × Bool} {h : H} (r : RdH ep rp l a s h) (q : Nat) (b : Blk) (h1 : q ≠ ep) (h2 : q ≠ rp) (h3 : ∀ o, a ≠ some (q, o)) : RdH ep rp l a s (h.put q b) :=
  ⟨r.y.mono (Nat.le_refl _) (h_put_ne _ _ h1) (fun q' hq eq => h_put_ne _ _ (fun e => h3 0 (by rw [eq, e]))), by rw [h_put_ne _ _ h2]; exact r.g, r.lt, r.ne, r.na⟩
theorem RowF.put {α : Type} {sz : Nat} {A : (Nat → Prop) → H → α → List V → Prop} (it : ItA sz A) {lo : Nat} {h : H} {ops : List α} {a : Option (Nat × Nat)} {c : Option Nat} {e : Nat} (r : RowF (fun j => lo ≤ j) lo sz A h ops a c e) (q : Nat) (hq : q < lo) (b : Blk) : RowF (fun j => lo ≤ j) lo sz A (h.put q b) ops a c e :=
  r.mono it (Nat.le_refl _) (fun i hk _ => h_put_ne _ _ (by have : lo ≤ i := hk; omega)) (fun q' o eq => h_put_ne _ _ (by have := r.lt eq; omega))
def rx1 (l : List Nat) : Nat × Nat × Bool := rdW l (0, false)
def rx2 (l : List Nat) : List InQ × Nat × Bool := rxL rxI l (rx1 l).2
def rx3 (l : List Nat) : List OutQ × Nat × Bool := rxL rxO l (rx2 l).2
def rx4 (l : List Nat) : Nat × Nat × Bool := rdW l (rx3 l).2
/-- what is read of bytes: a transaction, its place's end, and whether that failed -/
def rxT (l : List Nat) : TxQ × Nat × Bool := (⟨(rx1 l).1, (rx2 l).1, (rx3 l).1, (rx4 l).1⟩, (rx4 l).2)
theorem vbeq4 (k : IntKind) (m n : Int) (a b : Option (Nat × Nat)) (la lb : Nat) (ca cb : Option Nat) (ea eb : Nat) : V.beq (.agg [.int k m, .slice a la ca ea, .slice b lb cb eb, .int k n]) (.agg [.int k m, .slice a la ca ea, .slice b lb cb eb, .int k n]) = true := by
  show V.beqs _ _ = true
  simp only [V.beqs, vbeq_int, vbeq_slc, Bool.and_self]
end Go.Eng
namespace Go.Eng
open Go
variable {E : Nat → Option Fn} {X : Orc}
set_option linter.unusedSimpArgs false
set_option linter.unusedVariables false
/-- bytes stand at a reader's place -/
def At (l : List Nat) (s : Nat × Bool) (b : List Nat) : Prop := s.2 = false ∧ ∃ r, l.drop s.1 = b ++ r
theorem At.left {l : List Nat} {s : Nat × Bool} {a b : List Nat} (h : At l s (a ++ b)) : At l s a := by
  obtain ⟨h1, r, h2⟩ := h
  exact ⟨h1, b ++ r, by rw [h2, List.append_assoc]⟩
theorem At.right {l : List Nat} {s : Nat × Bool} {a b : List Nat} (h : At l s (a ++ b)) : At l (s.1 + a.length, false) b := by
  obtain ⟨h1, r, h2⟩ := h
  exact ⟨rfl, r, by show l.drop (s.1 + a.length) = _; rw [← List.drop_drop, h2, List.append_assoc, List.drop_left]⟩
theorem At.app {l : List Nat} {s : Nat × Bool} {a b : List Nat} (h : At l s a) (h' : At l (s.1 + a.length, false) b) : At l s (a ++ b) := by
  obtain ⟨h1, r, h2⟩ := h
  obtain ⟨_, r', h3⟩ := h'
  refine ⟨h1, r', ?_⟩
  have h3' : l.drop (s.1 + a.length) = b ++ r' := h3
  rw [← List.drop_drop, h2, List.drop_left] at h3'
  rw [h2, h3', List.append_assoc]
theorem At.nil {l : List Nat} {s : Nat × Bool} (h : s.2 = false) : At l s [] := ⟨h, _, rfl⟩
theorem At.le {l : List Nat} {s : Nat × Bool} {b : List Nat} (h : At l s b) (hb : 0 < b.length) : s.1 + b.length ≤ l.length := by
  obtain ⟨_, r, h2⟩ := h
  have := congrArg List.length h2
  rw [List.length_drop, List.length_append] at this; omega
theorem At.take {l : List Nat} {s : Nat × Bool} {b : List Nat} (h : At l s b) : (l.drop s.1).take b.length = b := by
  obtain ⟨_, r, h2⟩ := h
  rw [h2, List.take_left]
theorem at_fix (k : Nat) (hk : k = 4 ∨ k = 8) (l : List Nat) (s : Nat × Bool) (n : Nat) (hn : n < 256 ^ k) (h : At l s (leN k n)) : eyFix (k : Int) l s.1 = (n, 0, s.1 + k) := by
  have hz : sizedI (k : Int) = true := by rcases hk with rfl | rfl <;> rfl
  have hle := h.le (by rw [leN_len]; rcases hk with rfl | rfl <;> omega)
  have ht := h.take
  rw [leN_len] at hle ht
  unfold eyFix
  rw [if_pos hz, Int.toNat_natCast, if_pos hle, ht, numV_leN k n hn]
theorem at_w (l : List Nat) (s : Nat × Bool) (n : Nat) (hn : n < 4294967296) (h : At l s (leN 4 n)) : rdW l s = (n, s.1 + 4, false) := by
  have e := at_fix 4 (.inl rfl) l s n (by simpa using hn) h
  unfold rdW
  rw [show eyFix 4 l s.1 = (n, 0, s.1 + 4) from e, h.1]
  rfl
theorem at_h (l : List Nat) (s : Nat × Bool) (t : List Nat) (ht : t.length = 32) (h : At l s t) : rdH l s = (t, s.1 + 32, false) := by
  have hle := h.le (by omega)
  have htk := h.take
  rw [ht] at hle htk
  have e32 : (32 : Int).toNat = 32 := rfl
  have er : eyRaw 32 l s.1 = (t, 0, s.1 + 32) := by
    unfold eyRaw
    rw [if_neg (by omega), e32, if_pos hle, htk]
  unfold rdH
  rw [er, h.1]
  simp only
  rw [if_neg (fun h => by rw [h] at ht; cases ht)]
  rfl
theorem at_s (l : List Nat) (s : Nat × Bool) (t : List Nat) (ht : t.length ≤ 2000) (h : At l s (sizV t.length ++ t)) : rdS l s = (t, s.1 + (sizV t.length ++ t).length, false) := by
  have hr := h.right
  obtain ⟨h1, r, h2⟩ := h
  have c : comV (l.drop s.1) = some (t.length, cplV t.length) := by rw [h2, List.append_assoc]; exact siz_com t.length (by omega) (t ++ r)
  have lu : (sizV t.length).length = cplV t.length := sizV_len _
  obtain ⟨_, r', h3⟩ := hr
  have h3' : l.drop (s.1 + cplV t.length) = t ++ r' := by rw [← lu]; exact h3
  have ll := congrArg List.length h2
  rw [List.length_drop, List.length_append, List.length_append, lu] at ll
  have er : eyByt 2000 l s.1 = (t, 0, s.1 + cplV t.length + t.length) := by
    unfold eyByt; rw [c]; simp only; rw [if_neg (by omega), h3', List.take_left]
  unfold rdS
  rw [er, h1, List.length_append, lu]
  simp only [Nat.add_assoc]
  rfl
/-! items -/
theorem at_i (l : List Nat) (s : Nat × Bool) (o : InQ) (ok : o.ok) (hl : o.l.length ≤ 2000) (h : At l s (inB o)) : rxI l s = (o, s.1 + (inB o).length, false) := by
  have lt := ok.lt
  unfold inB at h
  have a1 := at_h l s o.tx ok.lt h.left.left.left
  have b0 := h.left.left.right
  rw [lt] at b0
  have b1 := at_w l _ o.n ok.n1 b0
  have c0 := h.left.right
  rw [List.length_append, lt, leN_len] at c0
  have c1 := at_s l _ o.l hl c0
  have d0 := h.right
  rw [List.length_append, List.length_append, lt, leN_len] at d0
  have d1 := at_w l _ o.q ok.q1 d0
  simp only at b1 c1 d1
  unfold rxI
  rw [a1]
  simp only
  rw [b1]
  simp only
  rw [show s.1 + 32 + 4 = s.1 + (32 + 4) by omega, c1]
  simp only
  rw [show s.1 + (32 + 4) + (sizV o.l.length ++ o.l).length = s.1 + (32 + 4 + (sizV o.l.length ++ o.l).length) by omega, d1]
  simp only [inB, List.length_append, lt, leN_len]
  congr 2
theorem mod_wr (v : Int) (h1 : -9223372036854775808 ≤ v) (h2 : v < 9223372036854775808) : wr .i64 (((v % 18446744073709551616).toNat : Nat) : Int) = v ∧ (v % 18446744073709551616).toNat < 18446744073709551616 := by
  rw [wr_eq]
  simp [IntKind.wrap, IntKind.bits, IntKind.signed]
  omega
theorem at_o (l : List Nat) (s : Nat × Bool) (o : OutQ) (ok : o.ok) (hl : o.l.length ≤ 2000) (h : At l s (outB o)) : rxO l s = (o, s.1 + (outB o).length, false) := by
  obtain ⟨m1, m2⟩ := mod_wr o.v ok.v0 ok.v1
  unfold outB at h
  have a1 := at_fix 8 (.inr rfl) l s _ (by simpa using m2) h.left
  have c0 := h.right
  rw [leN_len] at c0
  have c1 := at_s l _ o.l hl c0
  have e8 : (((8 : Nat) : Int)) = 8 := rfl
  rw [e8] at a1
  unfold rxO
  rw [a1, h.1]
  have z : (false || decide ((0 : Nat) ≠ 0)) = false := rfl
  simp only
  rw [z, c1, m1]
  simp only [outB, List.length_append, leN_len]
  congr 2
  omega
end Go.Eng
namespace Go.Eng
open Go
variable {E : Nat → Option Fn} {X : Orc}
set_option linter.unusedSimpArgs false
set_option linter.unusedVariables false
/-! lists of items -/
theorem at_rr {α : Type} (l : List Nat) (item : Nat × Bool → α × Nat × Bool) (enc : α → List Nat) (ok : α → Prop) (hi : ∀ s o, ok o → At l s (enc o) → item s = (o, s.1 + (enc o).length, false)) (os : List α) (x : List α × Nat × Bool) (oks : ∀ o ∈ os, ok o) (h : At l x.2 (os.map enc).flatten) : ∀ k, k ≤ os.length → rxR item x k = (x.1 ++ os.take k, x.2.1 + ((os.take k).map enc).flatten.length, false) := by
  intro k
  induction k with
  | zero =>
    intro _
    rw [rxR]
    refine Prod.ext (by simp) (Prod.ext (by simp) h.1)
  | succ k ih =>
    intro hk
    have e := ih (by omega)
    have ho : os[k]? = some os[k] := List.getElem?_eq_getElem hk
    have hm : os[k] ∈ os := List.getElem_mem hk
    have sp : (os.map enc).flatten = ((os.take k).map enc).flatten ++ (enc os[k] ++ ((os.drop (k + 1)).map enc).flatten) := by
      conv => lhs; rw [← List.take_append_drop k os, List.drop_eq_getElem_cons hk, List.map_append, List.flatten_append, List.map_cons, List.flatten_cons]
    rw [sp] at h
    have a1 := h.right.left
    have i1 := hi _ os[k] (oks _ hm) a1
    rw [rxR, e, if_neg (by simp)]
    unfold rxS
    simp only at i1 ⊢
    rw [i1, List.take_add_one, ho, List.map_append, List.flatten_append, List.length_append]
    simp [Nat.add_assoc]
theorem at_lst {α : Type} (item : List Nat → Nat × Bool → α × Nat × Bool) (enc : α → List Nat) (ok : α → Prop) (l : List Nat) (hi : ∀ s o, ok o → At l s (enc o) → item l s = (o, s.1 + (enc o).length, false)) (s : Nat × Bool) (os : List α) (h1 : 1 ≤ os.length) (h2 : os.length ≤ 50) (oks : ∀ o ∈ os, ok o) (h : At l s (sizV os.length ++ (os.map enc).flatten)) :
    rxL item l s = (os, s.1 + (sizV os.length ++ (os.map enc).flatten).length, false) := by
  have hr := h.right
  obtain ⟨f1, r, f2⟩ := h
  have c : comV (l.drop s.1) = some (os.length, cplV os.length) := by rw [f2, List.append_assoc]; exact siz_com os.length (by omega) _
  have lu : (sizV os.length).length = cplV os.length := sizV_len _
  have er : eySiz l s.1 = (os.length, 0, s.1 + cplV os.length) := by unfold eySiz; rw [c]
  have hB : rxB l s = (s.1 + cplV os.length, false) := by
    unfold rxB
    rw [er, f1]
    have d1 : decide (os.length < 1) = false := decide_eq_false (by omega)
    have d2 : decide (50 < os.length) = false := decide_eq_false (by omega)
    simp only
    rw [d1, d2]; rfl
  rw [lu] at hr
  unfold rxL
  rw [hB, er]
  have := at_rr l (item l) enc ok hi os ([], s.1 + cplV os.length, false) oks hr os.length (Nat.le_refl _)
  simp only at this ⊢
  rw [this, List.take_length, List.nil_append, List.length_append, lu, Nat.add_assoc]
/-! transactions -/
theorem at_t (l : List Nat) (t : TxQ) (ok : t.ok) (ck : ckOk t) (h : At l (0, false) (txB t)) : rxT l = (t, (txB t).length, false) := by
  obtain ⟨⟨i1, i2⟩, ⟨o1, o2⟩, s1, s2⟩ := ck
  have et : txB t = leN 4 t.ver ++ (sizV t.ins.length ++ (t.ins.map inB).flatten) ++ (sizV t.outs.length ++ (t.outs.map outB).flatten) ++ leN 4 t.lock := by
    unfold txB; simp only [List.append_assoc]
  have lt : (txB t).length = 4 + (sizV t.ins.length ++ (t.ins.map inB).flatten).length + (sizV t.outs.length ++ (t.outs.map outB).flatten).length + 4 := by
    rw [et, List.length_append, List.length_append, List.length_append, leN_len, leN_len]
  rw [et] at h
  have a1 : rx1 l = (t.ver, 0 + 4, false) := at_w l _ t.ver ok.v1 h.left.left.left
  have b0 := h.left.left.right
  rw [leN_len] at b0
  have b1 : rx2 l = (t.ins, 0 + 4 + (sizV t.ins.length ++ (t.ins.map inB).flatten).length, false) := by
    unfold rx2; rw [a1]
    exact at_lst rxI inB (fun o => o.ok ∧ o.l.length ≤ 2000) l (fun s o ho ha => at_i l s o ho.1 ho.2 ha) _ t.ins i1 i2 (fun o ho => ⟨ok.io o ho, s1 o ho⟩) b0
  have c0 := h.left.right
  rw [List.length_append, leN_len] at c0
  have c1 : rx3 l = (t.outs, 0 + 4 + (sizV t.ins.length ++ (t.ins.map inB).flatten).length + (sizV t.outs.length ++ (t.outs.map outB).flatten).length, false) := by
    unfold rx3; rw [b1]
    exact at_lst rxO outB (fun o => o.ok ∧ o.l.length ≤ 2000) l (fun s o ho ha => at_o l s o ho.1 ho.2 ha) _ t.outs o1 o2 (fun o ho => ⟨ok.oo o ho, s2 o ho⟩) (by rw [← Nat.add_assoc] at c0; exact c0)
  have d0 := h.right
  rw [List.length_append, List.length_append, leN_len] at d0
  have d1 : rx4 l = (t.lock, 0 + 4 + (sizV t.ins.length ++ (t.ins.map inB).flatten).length + (sizV t.outs.length ++ (t.outs.map outB).flatten).length + 4, false) := by
    unfold rx4; rw [c1]
    exact at_w l _ t.lock ok.l1 (by rw [← Nat.add_assoc, ← Nat.add_assoc] at d0; exact d0)
  unfold rxT
  rw [a1, b1, c1, d1, lt]
  try simp only [Nat.zero_add]
end Go.Eng
namespace Go.Eng
open Go
variable {E : Nat → Option Fn} {X : Orc}
set_option linter.unusedSimpArgs false
set_option linter.unusedVariables false
def pw (i : Nat) : Nat := 512 * 2 ^ i
def Z4 : List V := [.int .u32 0, .slice none 0 (some 0) 0, .slice none 0 (some 0) 0, .int .u32 0]
end Go.Eng
namespace Go.Eng
open Go
variable {E : Nat → Option Fn} {X : Orc}
set_option linter.unusedSimpArgs false
set_option linter.unusedVariables false
theorem inB_byt (o : InQ) (ok : o.ok) : byt (inB o) = true := by
  unfold inB
  exact byt_app (byt_app (byt_app ok.bt (leN_byt _ _)) (byt_app (sizV_byt _) ok.bl)) (leN_byt _ _)
theorem outB_byt (o : OutQ) (ok : o.ok) : byt (outB o) = true := by
  unfold outB
  exact byt_app (leN_byt _ _) (byt_app (sizV_byt _) ok.bl)
theorem flat_byt {α : Type} (f : α → List Nat) (l : List α) (h : ∀ o ∈ l, byt (f o) = true) : byt (l.map f).flatten = true := by
  induction l with
  | nil => rfl
  | cons a r ih =>
    rw [List.map_cons, List.flatten_cons]
    exact byt_app (h a (List.mem_cons_self ..)) (ih (fun o ho => h o (List.mem_cons_of_mem _ ho)))
theorem txB_byt (t : TxQ) (ok : t.ok) : byt (txB t) = true := by
  unfold txB
  exact byt_app (byt_app (byt_app (byt_app (byt_app (leN_byt _ _) (sizV_byt _)) (flat_byt _ _ (fun o ho => inB_byt o (ok.io o ho)))) (sizV_byt _)) (flat_byt _ _ (fun o ho => outB_byt o (ok.oo o ho)))) (leN_byt _ _)
theorem Wb.hc {h : H} {w : List Nat} {a : Option (Nat × Nat)} {c : Option Nat} {e : Nat} (s : Wb h w a c e) : w ≠ [] → c = none ∧ e = 1 := by
  rcases s with ⟨h1, _⟩ | ⟨_, q, md, _, h3, h4, _⟩
  · intro h; exact absurd h1 h
  · intro _; exact ⟨h3, h4⟩
structure EnTb (E : Nat → Option Fn) : Prop where
  te : EnTe E
  tc : EnTc E
  gr : E k_purserref06_Great = some f_purserref06_Great
  rr : EnRr E
  ts : EnTs E
structure NoTb (X : Orc) : Prop where
  te : NoTe X
  tc : NoTc X
  gr : ∀ a h, X (.fn k_purserref06_Great) a h = none
  rr : NoRr X
  ts : NoTs X
theorem NoTb.al : NoTb (alT k_purserlaw06_alive) := by repeat' (first | exact fun _ _ => rfl | exact fun _ _ _ => rfl | exact fun _ => rfl | constructor)
/-- Encode, by what a transaction's cells point to -/
theorem enc_go (e : EnTe E) (x : NoTe X) (ec : EnTc E) (xc : NoTc X) (M : Nat) (hM : 100 < M) (t : TxQ) (ok : t.ok) (g : gtOk t) (P : List V) (h : H) (tc : TxC (fun j => j < h.next) h t P) :
    (ckOk t ∧ ∃ h' a2 c2 e2, callX E X (M + 7) (.fn k_tx_Encode) [.agg P] h = some (.tup [.slice a2 (txB t).length c2 e2, .int .i64 0], h') ∧ Nw h h' (txB t) a2 c2 e2) ∨
    (¬ ckOk t ∧ ∃ h', callX E X (M + 7) (.fn k_tx_Encode) [.agg P] h = some (.tup [.slice none 0 (some 0) 0, .int .i64 60], h') ∧ Kp h h') := by
  obtain ⟨a, b, ca, cb, ea, eb, rfl, ra, rb⟩ := tc
  exact tencode_go e x ec xc M hM t ok g.1 g.2.1 g.2.2.1 g.2.2.2 a b ca cb ea eb h ra rb
theorem gr6_go (e6 : E k_purserref06_Great = some f_purserref06_Great) (x6 : ∀ a h, X (.fn k_purserref06_Great) a h = none) (M : Nat) (hM : 100 < M) (t : TxQ) (hi : t.ins.length < 9223372036854775807) (ho : t.outs.length < 9223372036854775807) (P : List V) (h : H) (tc : TxC (fun j => j < h.next) h t P) :
    ∃ (h' : H) (r : Int), callX E X (M + 1) (.fn k_purserref06_Great) [.agg P] h = some (.int .i64 r, h') ∧ Kp h h' ∧ ((gtOk t ∧ r = 0) ∨ (¬ gtOk t ∧ r = 1)) := by
  obtain ⟨a, b, ca, cb, ea, eb, rfl, ra, rb⟩ := tc
  exact great6_go e6 x6 M hM t hi ho a b ca cb ea eb h ra rb
theorem gt_of {t : TxQ} (h : ckOk t) : gtOk t := ⟨by have := h.1.2; omega, by have := h.2.1.2; omega, fun o ho => by have := h.2.2.1 o ho; omega, fun o ho => by have := h.2.2.2 o ho; omega⟩
theorem txB_le (t : TxQ) (ok : t.ok) (g : gtOk t) : (txB t).length ≤ 300000 := by
  have := txB_ln t ok g
  have h1 := (lnI_eq t.ins (fun o ho => ⟨ok.io o ho, g.2.2.1 o ho⟩)).2
  have h2 := (lnO_eq t.outs g.2.2.2).2
  have h3 := sz6_le t.ins.length
  have h4 := sz6_le t.outs.length
  have g1 := g.1
  have g2 := g.2.1
  have : 2143 * t.ins.length ≤ 2143 * 60 := Nat.mul_le_mul_left _ g1
  have : 2111 * t.outs.length ≤ 2111 * 60 := Nat.mul_le_mul_left _ g2
  omega
end Go.Eng
