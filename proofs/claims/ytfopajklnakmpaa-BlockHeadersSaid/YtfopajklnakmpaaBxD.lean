/- What functions of the program come to: own work. -/
import Derived.Test.YtfopajklnakmpaaBxC
namespace Go.Eng
open Go
variable {E : Nat → Option Fn} {X : Orc}
set_option linter.unusedSimpArgs false
set_option linter.unusedVariables false
/-! cells of one item: so many, plain -/
def Fit (sz : Nat) (P : List V) : Prop := P.length = sz ∧ P.all plainV = true
theorem fit_st {sz : Nat} {P : List V} (f : Fit sz P) (h : H) (i : Nat) : storeV h sz (.ptr (some (i, 0))) (.agg P) = storeE (h.get i) h i 0 P := m_storeA h sz i 0 _ (by rw [f.1, f.2, Nat.beq_refl]; rfl)
theorem fit_put {sz : Nat} {P : List V} (f : Fit sz P) (h : H) (i : Nat) (vs : List V) (lv : vs.length = sz) : storeE (some (.cells vs .rw)) h i 0 P = some (h.put i (.cells P .rw)) := by
  rw [m_storeE _ _ _ _ _ (by rw [f.1, lv]; omega), w_zero, List.drop_eq_nil_of_le (by rw [f.1, lv]; omega), List.append_nil]
theorem fit_ld {sz : Nat} {P : List V} (f : Fit sz P) (m : Md) : loadE (some (.cells P m)) (some sz) 0 = some (.agg P) := by
  rw [m_loadN, readN_of _ _ _ (by rw [f.1]; omega), List.drop_zero, List.take_of_length_le (by rw [f.1]; omega)]
theorem InC.fit {S : Nat → Prop} {h : H} {o : InQ} {p : List V} (r : InC S h o p) : Fit 35 p := by
  obtain ⟨b, cb, eb, rfl, _, l⟩ := r
  refine ⟨inV_len o b cb eb l, ?_⟩
  unfold inV; rw [List.all_append, plain_ofI]; rfl
theorem OutC.fit {S : Nat → Prop} {h : H} {o : OutQ} {p : List V} (r : OutC S h o p) : Fit 2 p := by
  obtain ⟨b, cb, eb, rfl, _⟩ := r
  exact ⟨rfl, rfl⟩
instance : DecidableEq InQ := fun a b => decidable_of_iff (a.tx = b.tx ∧ a.n = b.n ∧ a.l = b.l ∧ a.q = b.q) (by cases a; cases b; simp)
instance : DecidableEq OutQ := fun a b => decidable_of_iff (a.v = b.v ∧ a.l = b.l) (by cases a; cases b; simp)
end Go.Eng
namespace Go.Eng
open Go
variable {E : Nat → Option Fn} {X : Orc}
set_option linter.unusedSimpArgs false
set_option linter.unusedVariables false
end Go.Eng
namespace Go.Eng
open Go
variable {E : Nat → Option Fn} {X : Orc}
set_option linter.unusedSimpArgs false
set_option linter.unusedVariables false
structure NoTs (X : Orc) : Prop where
  sa : ∀ a h, X (.fn k_tx_Same) a h = none
  si : ∀ a h, X (.fn k_tx_sameIn) a h = none
  so : ∀ a h, X (.fn k_tx_sameOut) a h = none
  be : ∀ a h, X (.fn k_bytes_Equal) a h = none
  ei : ∀ a h, X (.fn k_slices_EqualFunc_api_In_api_In_api_In_api_In) a h = none
  eo : ∀ a h, X (.fn k_slices_EqualFunc_api_Out_api_Out_api_Out_api_Out) a h = none
def txV (t : TxQ) (a b : Option (Nat × Nat)) (ca cb : Option Nat) (ea eb : Nat) : List V := [.int .u32 (t.ver : Int), .slice a t.ins.length ca ea, .slice b t.outs.length cb eb, .int .u32 (t.lock : Int)]
instance : DecidableEq TxQ := fun a b => decidable_of_iff (a.ver = b.ver ∧ a.lock = b.lock ∧ a.ins = b.ins ∧ a.outs = b.outs) (by cases a; cases b; simp; intro _; constructor <;> intro h <;> simp_all)
/-- a transaction's cells, and what they point to -/
def TxC (S : Nat → Prop) (h : H) (t : TxQ) (p : List V) : Prop := ∃ a b ca cb ea eb, p = txV t a b ca cb ea eb ∧ RowG S 35 InC h t.ins a ea ∧ RowG S 2 OutC h t.outs b eb
theorem TxC.mono {S S' : Nat → Prop} {h h' : H} {t : TxQ} {p : List V} (r : TxC S h t p) (hn : h.next ≤ h'.next) (k : ∀ j, S j → h'.get j = h.get j) (w : ∀ j, S j → S' j) : TxC S' h' t p := by
  obtain ⟨a, b, ca, cb, ea, eb, e, ra, rb⟩ := r
  exact ⟨a, b, ca, cb, ea, eb, e, ra.mono hn k w (fun o p r => r.mono hn k w), rb.mono hn k w (fun o p r => r.mono hn k w)⟩
theorem TxC.kp {h h' : H} {t : TxQ} {p : List V} (r : TxC (fun j => j < h.next) h t p) (k : Kp h h') : TxC (fun j => j < h'.next) h' t p :=
  r.mono k.1 k.2 (fun j hj => by have := k.1; have : j < h.next := hj; show j < h'.next; omega)
theorem TxC.fit {S : Nat → Prop} {h : H} {t : TxQ} {p : List V} (r : TxC S h t p) : Fit 4 p := by
  obtain ⟨a, b, ca, cb, ea, eb, rfl, _⟩ := r
  exact ⟨rfl, rfl⟩
end Go.Eng
namespace Go.Eng
open Go
variable {E : Nat → Option Fn} {X : Orc}
set_option linter.unusedSimpArgs false
set_option linter.unusedVariables false
/-! what an item asks of its relation -/
structure ItA {α : Type} (sz : Nat) (A : (Nat → Prop) → H → α → List V → Prop) : Prop where
  mono : ∀ {S S' : Nat → Prop} {h h' : H} {o : α} {p : List V}, A S h o p → h.next ≤ h'.next → (∀ j, S j → j < h.next → h'.get j = h.get j) → (∀ j, S j → j < h.next → S' j) → A S' h' o p
  fit : ∀ {S : Nat → Prop} {h : H} {o : α} {p : List V}, A S h o p → Fit sz p
theorem SrcS.mono2 {S S' : Nat → Prop} {h h' : H} {a : Option (Nat × Nat)} {e : Nat} {l : List Nat} (s : SrcS S h a e l) (hn : h.next ≤ h'.next) (k : ∀ j, S j → j < h.next → h'.get j = h.get j) (w : ∀ j, S j → j < h.next → S' j) : SrcS S' h' a e l := by
  rcases s with s | ⟨bi, off, vs, m, e1, e2, hk, hb, g, hl, hv⟩
  · exact .inl s
  · exact .inr ⟨bi, off, vs, m, e1, e2, w _ hk hb, by omega, by rw [k _ hk hb, g], hl, hv⟩
theorem RowG.mono2 {α : Type} {S S' : Nat → Prop} {sz : Nat} {A : (Nat → Prop) → H → α → List V → Prop} (it : ItA sz A) {h h' : H} {ops : List α} {a : Option (Nat × Nat)} {e : Nat} (r : RowG S sz A h ops a e) (hn : h.next ≤ h'.next) (k : ∀ j, S j → j < h.next → h'.get j = h.get j) (w : ∀ j, S j → j < h.next → S' j) : RowG S' sz A h' ops a e := by
  rcases r with r | ⟨q, off, vs, md, e1, e2, hs, hq, g, hl, at_⟩
  · exact .inl r
  · exact .inr ⟨q, off, vs, md, e1, e2, w _ hs hq, by omega, by rw [k _ hs hq, g], hl, fun i o ho => it.mono (at_ i o ho) hn k w⟩
theorem itIn : ItA 35 InC := ⟨fun r hn k w => by
  obtain ⟨b, cb, eb, e, s, l⟩ := r
  exact ⟨b, cb, eb, e, s.mono2 hn k w, l⟩, fun r => r.fit⟩
theorem itOut : ItA 2 OutC := ⟨fun r hn k w => by
  obtain ⟨b, cb, eb, e, s⟩ := r
  exact ⟨b, cb, eb, e, s.mono2 hn k w⟩, fun r => r.fit⟩
theorem itTx : ItA 4 TxC := ⟨fun r hn k w => by
  obtain ⟨a, b, ca, cb, ea, eb, e, ra, rb⟩ := r
  exact ⟨a, b, ca, cb, ea, eb, e, ra.mono2 itIn hn k w, rb.mono2 itOut hn k w⟩, fun r => r.fit⟩
/-! a row that grows: what its items point to lies in K, and not in the row -/
def RowF {α : Type} (K : Nat → Prop) (lo sz : Nat) (A : (Nat → Prop) → H → α → List V → Prop) (h : H) (ops : List α) (a : Option (Nat × Nat)) (c : Option Nat) (e : Nat) : Prop := (ops = [] ∧ a = none ∧ c = some 0 ∧ e = 0) ∨ (0 < ops.length ∧ ∃ q md parts, a = some (q, 0) ∧ c = none ∧ e = sz ∧ h.get q = some (.cells parts.flatten md) ∧ Al2 (A (fun j => K j ∧ j ≠ q) h) ops parts ∧ isRo md = false ∧ lo ≤ q ∧ q < h.next)
theorem RowF.nil {α : Type} (K : Nat → Prop) (lo sz : Nat) (A : (Nat → Prop) → H → α → List V → Prop) (h : H) : RowF K lo sz A h [] none (some 0) 0 := .inl ⟨rfl, rfl, rfl, rfl⟩
theorem RowF.mono {α : Type} {K : Nat → Prop} {lo sz : Nat} {A : (Nat → Prop) → H → α → List V → Prop} (it : ItA sz A) {h h' : H} {ops : List α} {a : Option (Nat × Nat)} {c : Option Nat} {e : Nat} (r : RowF K lo sz A h ops a c e) (hn : h.next ≤ h'.next) (k : ∀ i, K i → i < h.next → h'.get i = h.get i) (kl : ∀ q o, a = some (q, o) → h'.get q = h.get q) : RowF K lo sz A h' ops a c e := by
  rcases r with r | ⟨h1, q, md, ps, e1, e2, e3, g, al, hm, hl, hq⟩
  · exact .inl r
  · exact .inr ⟨h1, q, md, ps, e1, e2, e3, by rw [kl _ _ e1, g], al.imp (fun _ _ x => it.mono x hn (fun i hk hi => k i hk.1 hi) (fun _ h _ => h)), hm, hl, by omega⟩
theorem RowF.lt {α : Type} {K : Nat → Prop} {lo sz : Nat} {A : (Nat → Prop) → H → α → List V → Prop} {h : H} {ops : List α} {a : Option (Nat × Nat)} {c : Option Nat} {e : Nat} (r : RowF K lo sz A h ops a c e) {q z : Nat} (ea : a = some (q, z)) : lo ≤ q ∧ q < h.next ∧ z = 0 := by
  rcases r with ⟨_, h1, _⟩ | ⟨_, q', _, _, h1, _, _, _, _, _, hl, hq⟩
  · rw [h1] at ea; cases ea
  · rw [h1] at ea; cases ea; exact ⟨hl, hq, rfl⟩
theorem it_len {α : Type} {sz : Nat} {A : (Nat → Prop) → H → α → List V → Prop} (it : ItA sz A) {S : Nat → Prop} {h : H} {ops : List α} {parts : List (List V)} (al : Al2 (A S h) ops parts) : ∀ p ∈ parts, p.length = sz := by
  induction al with
  | nil => intro p hp; cases hp
  | cons h1 _ ih => intro p hp; rcases List.mem_cons.1 hp with rfl | hp
                    · exact (it.fit h1).1
                    · exact ih p hp
theorem RowF.row {α : Type} {K : Nat → Prop} {lo sz : Nat} {A : (Nat → Prop) → H → α → List V → Prop} (it : ItA sz A) {h : H} {ops : List α} {a : Option (Nat × Nat)} {c : Option Nat} {e : Nat} (r : RowF K lo sz A h ops a c e) : RowG (fun j => K j ∨ lo ≤ j) sz A h ops a e := by
  rcases r with r | ⟨h1, q, md, ps, e1, e2, e3, g, al, hm, hl, hq⟩
  · exact .inl r.1
  · refine .inr ⟨q, 0, _, md, e1, e3, .inr hl, hq, g, by rw [flat_len (k := sz) (it_len it al), al.len]; omega, fun i o ho => ?_⟩
    obtain ⟨p, hp, hap⟩ := al.get i o ho
    rw [Nat.zero_add, flat_get (it_len it al) i _ hp]
    exact it.mono hap (Nat.le_refl _) (fun _ _ _ => rfl) (fun j hj _ => .inl hj.1)
end Go.Eng
namespace Go.Eng
open Go
variable {E : Nat → Option Fn} {X : Orc}
set_option linter.unusedSimpArgs false
set_option linter.unusedVariables false
/-! the reader: its place, and whether it has failed -/
structure RdH (ep rp : Nat) (l : List Nat) (a : Option (Nat × Nat)) (s : Nat × Bool) (h : H) : Prop where
  y : EyeH ep l s.1 a h
  g : h.get rp = some (.cells [.ptr (some (ep, 0)), .bool s.2] .rw)
  lt : rp < h.next
  ne : rp ≠ ep
  na : ∀ o, a ≠ some (rp, o)
def Kr (ep rp : Nat) (h h' : H) : Prop := h.next ≤ h'.next ∧ ∀ j, j < h.next → j ≠ ep → j ≠ rp → h'.get j = h.get j
theorem Kr.refl (ep rp : Nat) (h : H) : Kr ep rp h h := ⟨Nat.le_refl _, fun _ _ _ _ => rfl⟩
theorem Kr.trans {ep rp : Nat} {h h' h'' : H} (a : Kr ep rp h h') (b : Kr ep rp h' h'') : Kr ep rp h h'' := ⟨Nat.le_trans a.1 b.1, fun j hj h1 h2 => by rw [b.2 j (Nat.lt_of_lt_of_le hj a.1) h1 h2, a.2 j hj h1 h2]⟩
theorem Kp.kr {ep rp : Nat} {h h' : H} (k : Kp h h') : Kr ep rp h h' := ⟨k.1, fun j hj _ _ => k.2 j hj⟩
theorem RdH.kp {ep rp : Nat} {l : List Nat} {a : Option (Nat × Nat)} {s : Nat × Bool} {h h' : H} (r : RdH ep rp l a s h) (k : Kp h h') : RdH ep rp l a s h' := ⟨r.y.kp k, by rw [k.2 _ r.lt, r.g], Nat.lt_of_lt_of_le r.lt k.1, r.ne, r.na⟩
structure NoRr (X : Orc) : Prop where
  ey : NoEye X
  lo : ∀ a h, X (.fn k_octet_Look) a h = none
  no : ∀ a h, X (.fn k_tx_reader_note) a h = none
  wo : ∀ a h, X (.fn k_tx_reader_word) a h = none
  ha : ∀ a h, X (.fn k_tx_reader_hash) a h = none
  sc : ∀ a h, X (.fn k_tx_reader_script) a h = none
  in_ : ∀ a h, X (.fn k_tx_reader_in) a h = none
  ou : ∀ a h, X (.fn k_tx_reader_out) a h = none
  li : ∀ a h, X (.fn k_tx_list_api_In) a h = none
  lt : ∀ a h, X (.fn k_tx_list_api_Out) a h = none
  rd : ∀ a h, X (.fn k_tx_read) a h = none
  fi : ∀ a h, X (.fn k_tx_First) a h = none
  de : ∀ a h, X (.fn k_tx_Decode) a h = none
theorem eyFix_lt (k : Nat) (hk : k = 4 ∨ k = 8) (l : List Nat) (bl : byt l = true) (n : Nat) : (eyFix (k : Int) l n).1 < 256 ^ k := by
  have hz : sizedI (k : Int) = true := by rcases hk with rfl | rfl <;> rfl
  unfold eyFix
  rw [if_pos hz]
  split
  · have := numV_lt ((l.drop n).take k) (byt_take (byt_drop bl n) k)
    rw [Int.toNat_natCast]
    refine Nat.lt_of_lt_of_le this (Nat.pow_le_pow_right (by omega) ?_)
    rw [List.length_take]; omega
  · exact Nat.pow_pos (by omega)
end Go.Eng
namespace Go.Eng
open Go
variable {E : Nat → Option Fn} {X : Orc}
set_option linter.unusedSimpArgs false
set_option linter.unusedVariables false
end Go.Eng
namespace Go.Eng
open Go
variable {E : Nat → Option Fn} {X : Orc}
set_option linter.unusedSimpArgs false
set_option linter.unusedVariables false
end Go.Eng
