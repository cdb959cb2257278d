/- What functions of the program come to: own work. -/
import Derived.Test.YtgjoaeefnknpfaaOsA
namespace Go.Eng
open Go
variable {E : Nat → Option Fn} {X : Orc}
set_option linter.unusedSimpArgs false
set_option linter.unusedVariables false
/-! arguments of any shape, as read-only blocks -/
structure LayB (bl : List (Nat × List V)) (lo hi : Nat) : Prop where
  le : lo ≤ hi
  rg : ∀ x ∈ bl, lo ≤ x.1 ∧ x.1 < hi
  nd : (bl.map (·.1)).Nodup
theorem LayB.nil (lo : Nat) : LayB [] lo lo := ⟨Nat.le_refl _, (fun x hx => by cases hx), List.nodup_nil⟩
theorem LayB.up {bl : List (Nat × List V)} {lo hi hi' : Nat} (b : LayB bl lo hi) (h : hi ≤ hi') : LayB bl lo hi' := ⟨Nat.le_trans b.le h, fun x hx => ⟨(b.rg x hx).1, Nat.lt_of_lt_of_le (b.rg x hx).2 h⟩, b.nd⟩
theorem LayB.app {a b : List (Nat × List V)} {x y z : Nat} (ha : LayB a x y) (hb : LayB b y z) : LayB (a ++ b) x z := by
  refine ⟨Nat.le_trans ha.le hb.le, fun q hq => ?_, ?_⟩
  · rcases List.mem_append.1 hq with h | h
    · exact ⟨(ha.rg q h).1, Nat.lt_of_lt_of_le (ha.rg q h).2 hb.le⟩
    · exact ⟨Nat.le_trans ha.le (hb.rg q h).1, (hb.rg q h).2⟩
  · rw [List.map_append, List.nodup_append]
    refine ⟨ha.nd, hb.nd, fun p hp q hq e => ?_⟩
    obtain ⟨u, hu, rfl⟩ := List.mem_map.1 hp
    obtain ⟨v, hv, rfl⟩ := List.mem_map.1 hq
    have := (ha.rg u hu).2
    have := (hb.rg v hv).1
    omega
theorem LayB.one {b : List (Nat × List V)} {lo hi : Nat} (v : List V) (hb : LayB b (lo + 1) hi) : LayB ((lo, v) :: b) lo hi := by
  have h1 : LayB [(lo, v)] lo (lo + 1) := ⟨by omega, (fun x hx => by rcases List.mem_singleton.1 hx with rfl; exact ⟨Nat.le_refl _, Nat.lt_succ_self _⟩), by simp⟩
  exact h1.app hb
/-- blocks that are there -/
def Has (h : H) (bl : List (Nat × List V)) : Prop := ∀ x ∈ bl, h.get x.1 = some (.cells x.2 .ro) ∧ x.1 < h.next
theorem Has.l {h : H} {a b : List (Nat × List V)} (x : Has h (a ++ b)) : Has h a := fun y hy => x y (List.mem_append_left _ hy)
theorem Has.r {h : H} {a b : List (Nat × List V)} (x : Has h (a ++ b)) : Has h b := fun y hy => x y (List.mem_append_right _ hy)
theorem mkB_skip' : ∀ (bl : List (Nat × List V)) (r : List (Nat × List V)) (i : Nat), (∀ x ∈ bl, x.1 ≠ i) → (mkB (bl ++ r)).get i = (mkB r).get i := by
  intro bl
  induction bl with
  | nil => intro r i _; rfl
  | cons x s ih =>
    intro r i h
    show ((mkB (s ++ r)).set x.1 _).get i = _
    rw [Tr.get_set, if_neg (h x (List.mem_cons_self ..)), ih r i (fun y hy => h y (List.mem_cons_of_mem _ hy))]
theorem has_mk {bl : List (Nat × List V)} {lo nx : Nat} (b : LayB bl lo nx) : Has (mkH bl nx) bl := by
  intro x hx
  refine ⟨?_, (b.rg x hx).2⟩
  obtain ⟨s, t, rfl⟩ := List.append_of_mem hx
  show (mkB (s ++ x :: t)).get x.1 = _
  have nd := b.nd
  rw [List.map_append, List.nodup_append] at nd
  rw [mkB_skip' _ _ _ (fun y hy e => nd.2.2 y.1 (List.mem_map.2 ⟨y, hy, rfl⟩) x.1 (by simp) e)]
  show ((mkB t).set x.1 _).get x.1 = _
  rw [Tr.get_set, if_pos rfl]
/-- a reading: cells, and what is said of them where the blocks are there -/
def Rd (r : Nat → Option Abs) (R : H → List V → Prop) : Prop := ∀ nx, ∃ vs bl n1, r nx = some (vs, bl, n1) ∧ LayB bl nx n1 ∧ ∀ h, Has h bl → R h vs
inductive Al2 {α β : Type} (p : α → β → Prop) : List α → List β → Prop where
  | nil : Al2 p [] []
  | cons {a : α} {b : β} {as : List α} {bs : List β} : p a b → Al2 p as bs → Al2 p (a :: as) (b :: bs)
theorem Al2.len {α β : Type} {p : α → β → Prop} {as : List α} {bs : List β} (h : Al2 p as bs) : as.length = bs.length := by
  induction h with
  | nil => rfl
  | cons _ _ ih => simp [ih]
theorem Al2.imp {α β : Type} {p q : α → β → Prop} {as : List α} {bs : List β} (h : Al2 p as bs) (i : ∀ a b, p a b → q a b) : Al2 q as bs := by
  induction h with
  | nil => exact .nil
  | cons h _ ih => exact .cons (i _ _ h) ih
theorem Al2.get {α β : Type} {p : α → β → Prop} {as : List α} {bs : List β} (h : Al2 p as bs) : ∀ (i : Nat) (a : α), as[i]? = some a → ∃ b, bs[i]? = some b ∧ p a b := by
  induction h with
  | nil => intro i a h; simp at h
  | cons h1 _ ih =>
    intro i a h
    cases i with
    | zero => simp at h; subst h; exact ⟨_, rfl, h1⟩
    | succ i => simp at h; simpa using ih i a h
theorem Al2.comp {α β γ : Type} {p : α → β → Prop} {q : α → γ → Prop} {r : β → γ → Prop} {as : List α} {bs : List β} {cs : List γ} (h : Al2 p as bs) (k : Al2 q as cs) (f : ∀ a b c, p a b → q a c → r b c) : Al2 r bs cs := by
  induction h generalizing cs with
  | nil => cases k; exact .nil
  | cons h1 _ ih => cases k with | cons k1 k2 => exact .cons (f _ _ _ h1 k1) (ih k2)
theorem al2_map {α β γ : Type} {p : γ → β → Prop} (f : α → γ) {as : List α} {bs : List β} : Al2 (fun a b => p (f a) b) as bs → Al2 p (as.map f) bs := by
  intro h
  induction h with
  | nil => exact .nil
  | cons h _ ih => exact .cons h ih
theorem gather {α β : Type} {p : α → β → Prop} : ∀ (as : List α), (∀ a ∈ as, ∃ b, p a b) → ∃ bs, Al2 p as bs := by
  intro as
  induction as with
  | nil => intro _; exact ⟨[], .nil⟩
  | cons a as ih =>
    intro h
    obtain ⟨b, hb⟩ := h a (List.mem_cons_self ..)
    obtain ⟨bs, hbs⟩ := ih (fun x hx => h x (List.mem_cons_of_mem _ hx))
    exact ⟨b :: bs, .cons hb hbs⟩
theorem rd_list {α : Type} {r : α → Nat → Option Abs} {ds : List α} {Rs : List (H → List V → Prop)} (a : Al2 (fun d R => Rd (r d) R) ds Rs) : Rd (absL r ds) (fun h vs => ∃ parts, vs = parts.flatten ∧ Al2 (fun R p => R h p) Rs parts) := by
  induction a with
  | nil => intro nx; exact ⟨[], [], nx, rfl, .nil _, fun h _ => ⟨[], rfl, .nil⟩⟩
  | cons h1 _ ih =>
    intro nx
    obtain ⟨vs, bl, n1, e1, l1, k1⟩ := h1 nx
    obtain ⟨vs2, bl2, n2, e2, l2, k2⟩ := ih n1
    refine ⟨vs ++ vs2, bl ++ bl2, n2, by simp only [absL, e1, e2], l1.app l2, fun h hh => ?_⟩
    obtain ⟨ps, e, al⟩ := k2 h hh.r
    exact ⟨vs :: ps, by rw [e]; rfl, .cons (k1 h hh.l) al⟩
section
variable {Hh : Type} {enc : TypeId × Value → Hh} {P : Program} {W : World} {spare : Nat → Bool} {held : Bool} {base : Nat}
theorem rd_int (n : Nat) {t : TypeId} {k : IntKind} (hu : P.underlying t = some (.int k)) (x : Int) : Rd (absD (H := Hh) P (n + 1) t (.lit (.int k x))) (fun _ vs => vs = [.int k x]) := fun nx => ⟨_, [], nx, by simp only [absD, hu], .nil _, fun _ _ => rfl⟩
theorem rd_boolD (n : Nat) {t : TypeId} (hu : P.underlying t = some .bool) (x : Bool) : Rd (absD (H := Hh) P (n + 1) t (.lit (.bool x))) (fun _ vs => vs = [.bool x]) := fun nx => ⟨_, [], nx, by simp only [absD, hu], .nil _, fun _ _ => rfl⟩
theorem rd_struct (n : Nat) {t : TypeId} {fs : Array Field} (hu : P.underlying t = some (.struct fs)) (ds : List (DataW Hh)) (hl : fs.size = ds.length) {Rs : List (H → List V → Prop)} (a : Al2 (fun (x : Field × DataW Hh) R => Rd (absD P n x.1.type x.2) R) (fs.toList.zip ds) Rs) : Rd (absD P (n + 1) t (.agg ds)) (fun h vs => ∃ parts, vs = parts.flatten ∧ Al2 (fun R p => R h p) Rs parts) := by
  intro nx
  obtain ⟨vs, bl, n1, e, l, k⟩ := rd_list a nx
  refine ⟨vs, bl, n1, ?_, l, k⟩
  unfold absD
  rw [hu]
  simp only [hl, if_true]
  exact e
theorem rd_nil (n : Nat) {t e : TypeId} (hu : P.underlying t = some (.slice e)) : Rd (absD (H := Hh) P (n + 1) t .nil) (fun _ vs => vs = [.slice none 0 none (P.cellsOf e)]) := fun nx => ⟨_, [], nx, by simp only [absD, hu], .nil _, fun _ _ => rfl⟩
theorem rd_slice (n : Nat) {t e : TypeId} (hu : P.underlying t = some (.slice e)) (A B : List (DataW Hh)) {Rs : List (H → List V → Prop)} (a : Al2 (fun d R => Rd (absD P n e d) R) A Rs) :
    Rd (absD P (n + 1) t (.slice A B)) (fun h vs => ∃ ad parts, vs = [.slice ad A.length none (P.cellsOf e)] ∧ Al2 (fun R p => R h p) Rs parts ∧ (A = [] ∨ ∃ k, ad = some (k, 0) ∧ k < h.next ∧ h.get k = some (.cells parts.flatten .ro))) := by
  intro nx
  obtain ⟨vs, bl, n1, e1, l, k⟩ := rd_list a (nx + 1)
  cases hn : A.length + B.length with
  | zero =>
    have h0 : A = [] := List.length_eq_zero_iff.1 (by omega)
    subst h0
    cases a
    refine ⟨_, [], n1, ?_, ⟨by have := l.le; omega, (fun x hx => by cases hx), List.nodup_nil⟩, fun h _ => ⟨some (nx, 0), [], rfl, .nil, .inl rfl⟩⟩
    rw [absD_slc' n hu, e1]
    simp only [hn]
    rfl
  | succ m =>
    refine ⟨[.slice (some (nx, 0)) A.length none (P.cellsOf e)], (nx, vs) :: bl, n1, ?_, l.one vs, fun h hh => ?_⟩
    · rw [absD_slc' n hu, e1]
      simp only [hn]
    · obtain ⟨ps, ev, al⟩ := k h (fun x hx => hh x (List.mem_cons_of_mem _ hx))
      obtain ⟨g, gl⟩ := hh (nx, vs) (List.mem_cons_self ..)
      exact ⟨some (nx, 0), ps, rfl, al, .inr ⟨nx, rfl, gl, by rw [← ev]; exact g⟩⟩
/-- bytes -/
def BytR (l : List Nat) (h : H) (vs : List V) : Prop := ∃ a, vs = [.slice a l.length none 1] ∧ SrcH h a 1 l
theorem trod_u8s' {t e : TypeId} (ht : P.underlying t = some (.slice e)) (he : P.underlying e = some (.int .u8)) (hc : P.cellsOf e = 1) {f : Nat} {cs : List Value} {x : DataW Hh × List MemPlace} (h : DataW.trod enc P W base spare held f t cs = some x) :
    ∃ l : List Nat, byt l = true ∧ (P.bytesOf e = 1 → ∀ B, (∀ n ∈ x.1.weights P t, n ≤ B) → l.length ≤ B) ∧ ∀ n, Rd (absD P (n + 2) t x.1) (BytR l) := by
  have go : ∀ (ys : List (DataW Hh × List MemPlace)), (∀ y ∈ ys, ∃ (g : Nat) (c : List Value), DataW.trod enc P W base spare held g e c = some y) → ∃ l : List Nat, byt l = true ∧ ys.map (·.1) = l.map (fun (z : Nat) => DataW.lit (.int .u8 (z : Int))) := by
    intro ys
    induction ys with
    | nil => intro _; exact ⟨[], rfl, rfl⟩
    | cons y r ih =>
      intro hy
      obtain ⟨l, b, e1⟩ := ih (fun z hz => hy z (List.mem_cons_of_mem _ hz))
      obtain ⟨g, c, hg⟩ := hy y (List.mem_cons_self ..)
      obtain ⟨n, _, e2, w⟩ := DataW.trod_int he hg
      simp [Lit.wf, IntKind.min, IntKind.max, IntKind.signed, IntKind.bits] at w
      obtain ⟨z, rfl⟩ := Int.eq_ofNat_of_zero_le w.1
      refine ⟨z :: l, ?_, by rw [List.map_cons, List.map_cons, e1, e2]⟩
      rw [byt_iff] at b ⊢
      intro q hq
      rcases List.mem_cons.1 hq with rfl | hq
      · have := w.2; omega
      · exact b q hq
  have lits : ∀ (l : List Nat) (n : Nat), Rd (absL (absD (H := Hh) P (n + 1) e) (l.map (fun (z : Nat) => DataW.lit (.int .u8 (z : Int))))) (fun _ vs => vs = ofI .u8 l) := by
    intro l n
    induction l with
    | nil => intro nx; exact ⟨[], [], nx, rfl, .nil _, fun _ _ => rfl⟩
    | cons y r ih =>
      intro nx
      obtain ⟨vs, bl, n1, e1, l1, k1⟩ := rd_int (Hh := Hh) n he (y : Int) nx
      obtain ⟨vs2, bl2, n2, e2, l2, k2⟩ := ih n1
      refine ⟨vs ++ vs2, bl ++ bl2, n2, by rw [List.map_cons]; simp only [absL, e1, e2], l1.app l2, fun h hh => ?_⟩
      rw [k1 h hh.l, k2 h hh.r]; rfl
  rcases DataW.trod_slice ht h with ⟨_, hx⟩ | ⟨ad, len, cap, elems, rest, n, _, _, hx, _, _, _, hl, hi, _, _⟩
  · refine ⟨[], rfl, (fun _ _ _ => Nat.zero_le _), fun n nx => ?_⟩
    rw [hx]
    obtain ⟨vs, bl, n1, e1, l1, k1⟩ := rd_nil (Hh := Hh) (n + 1) ht nx
    exact ⟨vs, bl, n1, e1, l1, fun h hh => ⟨none, by rw [k1 h hh, hc]; rfl, .inl rfl⟩⟩
  · obtain ⟨l, b, el⟩ := go elems (fun y hy => by
      obtain ⟨i, hi1, hi2⟩ := List.getElem_of_mem hy
      have hi3 : elems[i]? = some y := by rw [List.getElem?_eq_getElem hi1, hi2]
      have h4 := (hi i (by omega)).trans hi3
      simp only [Option.bind_eq_some_iff] at h4
      obtain ⟨cs, _, h5⟩ := h4
      exact ⟨_, _, h5⟩)
    refine ⟨l, b, fun hby B hB => ?_, fun n nx => ?_⟩
    · have ll : (elems.map (·.1)).length = l.length := by rw [el, List.length_map]
      have := hB (((elems.map (·.1)).length + (rest.map (·.1)).length) * P.bytesOf e) (by rw [hx]; simp [DataW.weights, ht])
      rw [hby] at this; omega
    rw [hx]
    show ∃ vs bl n1, absD P (n + 2) t (.slice (elems.map (·.1)) (rest.map (·.1))) nx = _ ∧ _
    obtain ⟨vs, bl, n1, e1, l1, k1⟩ := lits l n (nx + 1)
    have ll : (elems.map (·.1)).length = l.length := by rw [el, List.length_map]
    rw [← el] at e1
    cases hn : (elems.map (·.1)).length + (rest.map (·.1)).length with
    | zero =>
      have h0 : l = [] := List.length_eq_zero_iff.1 (by omega)
      refine ⟨[.slice (some (nx, 0)) 0 none 1], [], n1, ?_, ⟨by have := l1.le; omega, (fun x hx => by cases hx), List.nodup_nil⟩, fun h _ => ⟨some (nx, 0), by rw [h0]; rfl, .inl h0⟩⟩
      rw [absD_slc' (n + 1) ht, e1]
      simp only [hn, hc]
    | succ m =>
      refine ⟨[.slice (some (nx, 0)) (elems.map (·.1)).length none 1], (nx, vs) :: bl, n1, ?_, l1.one vs, fun h hh => ⟨some (nx, 0), by rw [← ll], ?_⟩⟩
      · rw [absD_slc' (n + 1) ht, e1]
        simp only [hn, hc]
      · obtain ⟨g, gl⟩ := hh (nx, vs) (List.mem_cons_self ..)
        have ev := k1 h (fun x hx => hh x (List.mem_cons_of_mem _ hx))
        simp only at g gl
        rw [ev] at g
        exact .inr ⟨nx, 0, _, .ro, rfl, rfl, gl, g, by rw [ofI_len]; omega, by rw [List.drop_zero]; exact List.take_of_length_le (by rw [ofI_len]; exact Nat.le_refl _)⟩
end
/-- cells in pieces of k -/
theorem flat_len {k : Nat} : ∀ {ps : List (List V)}, (∀ p ∈ ps, p.length = k) → ps.flatten.length = ps.length * k := by
  intro ps
  induction ps with
  | nil => intro _; simp
  | cons p r ih => intro h; rw [List.flatten_cons, List.length_append, ih (fun q hq => h q (List.mem_cons_of_mem _ hq)), h p (List.mem_cons_self ..), List.length_cons, Nat.succ_mul]; omega
theorem flat_get {k : Nat} : ∀ {ps : List (List V)}, (∀ p ∈ ps, p.length = k) → ∀ (i : Nat) (p : List V), ps[i]? = some p → (ps.flatten.drop (i * k)).take k = p := by
  intro ps
  induction ps with
  | nil => intro _ i p h; simp at h
  | cons q r ih =>
    intro h i p hp
    have hq := h q (List.mem_cons_self ..)
    cases i with
    | zero => simp at hp; subst hp; rw [Nat.zero_mul, List.drop_zero, List.flatten_cons, List.take_left' hq]
    | succ i =>
      rw [List.flatten_cons, Nat.succ_mul, Nat.add_comm, ← List.drop_drop, List.drop_left' hq]
      exact ih (fun x hx => h x (List.mem_cons_of_mem _ hx)) i p (by simpa using hp)
theorem flat_cell {k : Nat} {ps : List (List V)} (hk : ∀ p ∈ ps, p.length = k) (i : Nat) (p : List V) (hp : ps[i]? = some p) (j : Nat) (hj : j < k) : ps.flatten[i * k + j]? = p[j]? := by
  have := flat_get hk i p hp
  rw [← this, List.getElem?_take_of_lt hj, List.getElem?_drop]
end Go.Eng
namespace Go.Eng
open Go
set_option linter.unusedSimpArgs false
set_option linter.unusedVariables false
structure OpP where
  kind : Int
  size : Int
  n : Nat
  l : List Nat
structure OpP.ok (o : OpP) : Prop where
  s0 : -9223372036854775808 ≤ o.size
  s1 : o.size < 9223372036854775808
  nl : o.n < 18446744073709551616
  bl : byt o.l = true
def opC (o : OpP) (a : Option (Nat × Nat)) : List V := [.int .i64 o.kind, .int .i64 o.size, .int .u64 (o.n : Int), .slice a o.l.length none 1]
def OpAt (h : H) (o : OpP) (p : List V) : Prop := ∃ a, p = opC o a ∧ SrcH h a 1 o.l
/-- a row of calls -/
def OpsH (h : H) (a : Option (Nat × Nat)) (ops : List OpP) : Prop := ∃ parts, Al2 (OpAt h) ops parts ∧ (ops = [] ∨ ∃ k md, a = some (k, 0) ∧ k < h.next ∧ h.get k = some (.cells parts.flatten md))
def OpsR (ops : List OpP) (h : H) (vs : List V) : Prop := ∃ a, vs = [.slice a ops.length none 4] ∧ OpsH h a ops
theorem xs4 {α : Type} {xs : List α} (h : xs.length = 4) : ∃ a b c d, xs = [a, b, c, d] := by
  match xs, h with
  | [a, b, c, d], _ => exact ⟨a, b, c, d, rfl⟩
section
variable {Hh : Type} {enc : TypeId × Value → Hh} {P : Program} {W : World} {spare : Nat → Bool} {held : Bool} {base : Nat}
theorem trod_ops {t e eb : TypeId} {f0 f1 f2 f3 : Field} (ht : P.underlying t = some (.slice e)) (he : P.underlying e = some (.struct #[f0, f1, f2, f3])) (h0 : P.underlying f0.type = some (.int .i64)) (h1 : P.underlying f1.type = some (.int .i64)) (h2 : P.underlying f2.type = some (.int .u64)) (h3 : P.underlying f3.type = some (.slice eb)) (hb : P.underlying eb = some (.int .u8)) (hc : P.cellsOf eb = 1) (hce : P.cellsOf e = 4)
    {v : Value} {d : DataW Hh} {p : List MemPlace} (h : DataW.Trod enc P W base spare held t v d p) :
    ∃ ops : List OpP, (∀ o ∈ ops, o.ok) ∧ (P.bytesOf e = 48 → P.bytesOf eb = 1 → ∀ B, (∀ n ∈ d.weights P t, n ≤ B) → ops.length ≤ B ∧ ∀ o ∈ ops, o.l.length ≤ B) ∧ ∀ n, Rd (absD P (n + 4) t d) (OpsR ops) := by
  have one : ∀ (g : Nat) (cs : List Value) (x : DataW Hh × List MemPlace), DataW.trod enc P W base spare held g e cs = some x → ∃ o : OpP, (o.ok ∧ (P.bytesOf eb = 1 → ∀ B, (∀ n ∈ x.1.weights P e, n ≤ B) → o.l.length ≤ B)) ∧ ∀ n, Rd (absD P (n + 3) e x.1) (fun h vs => OpAt h o vs) := by
    intro g cs x hx
    obtain ⟨xs, m, _, rfl, _, hl, hf⟩ := DataW.trod_struct he hx
    obtain ⟨x0, x1, x2, x3, rfl⟩ := xs4 hl
    obtain ⟨k, _, e0, _⟩ := DataW.trod_int h0 (hf 0 f0 rfl)
    obtain ⟨s, _, e1, w1⟩ := DataW.trod_int h1 (hf 1 f1 rfl)
    obtain ⟨nn, _, e2, w2⟩ := DataW.trod_int h2 (hf 2 f2 rfl)
    obtain ⟨l, bl, wt, r3⟩ := trod_u8s' h3 hb hc (hf 3 f3 rfl)
    simp [Lit.wf, IntKind.min, IntKind.max, IntKind.signed, IntKind.bits] at w1 w2
    obtain ⟨n, rfl⟩ := Int.eq_ofNat_of_zero_le w2.1
    refine ⟨⟨k, s, n, l⟩, ⟨⟨w1.1, by have := w1.2; show s < _; omega, by have := w2.2; show n < _; omega, bl⟩, fun h1' B hB => wt h1' B (fun m hm => hB m ?_)⟩, fun j => ?_⟩
    · show m ∈ DataW.weights P e (.agg [x0.1, x1.1, x2.1, x3.1])
      simp only [DataW.weights, he, List.map_cons, List.map_nil, DataW.weightsEach, List.mem_append]
      exact .inr (.inr (.inr (.inl hm)))
    have hz := rd_struct (Hh := Hh) (j + 2) he [x0.1, x1.1, x2.1, x3.1] rfl (Rs := [_, _, _, _]) (.cons (by rw [e0]; exact rd_int (j + 1) h0 k) (.cons (by rw [e1]; exact rd_int (j + 1) h1 s) (.cons (by rw [e2]; exact rd_int (j + 1) h2 (n : Int)) (.cons (r3 j) .nil))))
    intro nx
    obtain ⟨vs, bls, n1, q1, q2, q3⟩ := hz nx
    refine ⟨vs, bls, n1, q1, q2, fun h hh => ?_⟩
    obtain ⟨parts, rfl, al⟩ := q3 h hh
    cases al with | cons a0 al => cases al with | cons a1 al => cases al with | cons a2 al => cases al with | cons a3 al =>
    cases al
    obtain ⟨a, e3, sr⟩ := a3
    exact ⟨a, by rw [a0, a1, a2, e3]; rfl, sr⟩
  obtain ⟨f, hf⟩ := h
  rcases DataW.trod_slice ht hf with ⟨_, hx⟩ | ⟨ad, len, cap, elems, rest, n, _, _, hx, _, _, _, hl, hi, _, _⟩
  · have hd : d = .nil := congrArg Prod.fst hx
    subst hd
    refine ⟨[], (fun o ho => by cases ho), (fun _ _ _ _ => ⟨Nat.zero_le _, fun o ho => by cases ho⟩), fun n nx => ?_⟩
    obtain ⟨vs, bl, n1, e1, l1, k1⟩ := rd_nil (Hh := Hh) (n + 3) ht nx
    exact ⟨vs, bl, n1, e1, l1, fun h hh => ⟨none, by rw [k1 h hh, hce]; rfl, [], .nil, .inl rfl⟩⟩
  · have hd : d = .slice (elems.map (·.1)) (rest.map (·.1)) := congrArg Prod.fst hx
    obtain ⟨ops, al⟩ := gather (p := fun (x : DataW Hh × List MemPlace) (o : OpP) => (o.ok ∧ (P.bytesOf eb = 1 → ∀ B, (∀ n ∈ x.1.weights P e, n ≤ B) → o.l.length ≤ B)) ∧ ∀ n, Rd (absD P (n + 3) e x.1) (fun h vs => OpAt h o vs)) elems (fun y hy => by
      obtain ⟨i, hi1, hi2⟩ := List.getElem_of_mem hy
      have hi3 : elems[i]? = some y := by rw [List.getElem?_eq_getElem hi1, hi2]
      have h4 := (hi i (by omega)).trans hi3
      simp only [Option.bind_eq_some_iff] at h4
      obtain ⟨cs, _, h5⟩ := h4
      exact one _ _ _ h5)
    refine ⟨ops, fun o ho => ?_, fun h48 hb1 B hB => ?_, fun n nx => ?_⟩
    · clear hl hi hx hd hf
      induction al with
      | nil => cases ho
      | cons h1 _ ih => rcases List.mem_cons.1 ho with rfl | ho
                        · exact h1.1.1
                        · exact ih ho
    · have hB' : ∀ n ∈ ((elems.map (·.1)).length + (rest.map (·.1)).length) * P.bytesOf e :: DataW.weightsAll P e (elems.map (·.1)), n ≤ B := by
        intro n hn
        apply hB n
        rw [hd]
        simp only [DataW.weights, ht, List.mem_cons, List.mem_append] at hn ⊢
        rcases hn with h | h
        · exact .inl h
        · exact .inr (.inl h)
      refine ⟨?_, fun o ho => ?_⟩
      · have := hB' _ (List.mem_cons_self ..)
        rw [h48, List.length_map, al.len] at this; omega
      · have hB2 : ∀ n ∈ DataW.weightsAll P e (elems.map (·.1)), n ≤ B := fun n hn => hB' n (List.mem_cons_of_mem _ hn)
        clear hl hi hx hd hf hB hB'
        induction al with
        | nil => cases ho
        | cons h1 _ ih =>
          simp only [List.map_cons, DataW.weightsAll, List.mem_append] at hB2
          rcases List.mem_cons.1 ho with rfl | ho
          · exact h1.1.2 hb1 B (fun n hn => hB2 n (.inl hn))
          · exact ih ho (fun n hn => hB2 n (.inr hn))
    · have al2 : Al2 (fun (dd : DataW Hh) R => Rd (absD P (n + 3) e dd) R) (elems.map (·.1)) (ops.map (fun o h vs => OpAt h o vs)) := by
        clear hl hi hx hd hf
        induction al with
        | nil => exact .nil
        | cons h1 _ ih => exact .cons (h1.2 n) ih
      obtain ⟨vs, bl, n1, e1, l1, k1⟩ := rd_slice (Hh := Hh) (n + 3) ht (elems.map (·.1)) (rest.map (·.1)) al2 nx
      rw [hd]
      refine ⟨vs, bl, n1, e1, l1, fun h hh => ?_⟩
      obtain ⟨ad2, parts, ev, al3, t⟩ := k1 h hh
      have le : (elems.map (·.1)).length = ops.length := by rw [List.length_map]; exact al.len
      refine ⟨ad2, by rw [ev, le, hce], parts, ?_, ?_⟩
      · have conv : ∀ (os : List OpP) (ps : List (List V)), Al2 (fun (R : H → List V → Prop) p => R h p) (os.map (fun o h vs => OpAt h o vs)) ps → Al2 (OpAt h) os ps := by
          intro os
          induction os with
          | nil => intro ps a; cases a; exact .nil
          | cons o os ih => intro ps a; cases a with | cons a1 a2 => exact .cons a1 (ih _ a2)
        exact conv _ _ al3
      · rcases t with t | ⟨k, t1, t2, t3⟩
        · left
          rw [t] at le
          exact List.length_eq_zero_iff.1 le.symm
        · exact .inr ⟨k, .ro, t1, t2, t3⟩
end
theorem OpAt.mono {h h' : H} {o : OpP} {p : List V} (x : OpAt h o p) (k : Kp h h') : OpAt h' o p := by
  obtain ⟨a, e, s⟩ := x
  exact ⟨a, e, s.mono k⟩
theorem OpAt.len {h : H} {o : OpP} {p : List V} (x : OpAt h o p) : p.length = 4 := by
  obtain ⟨a, rfl, s⟩ := x; rfl
theorem al_len {h : H} {ops : List OpP} {parts : List (List V)} (al : Al2 (OpAt h) ops parts) : ∀ p ∈ parts, p.length = 4 := by
  induction al with
  | nil => intro p hp; cases hp
  | cons h1 _ ih => intro p hp; rcases List.mem_cons.1 hp with rfl | hp
                    · exact h1.len
                    · exact ih p hp
theorem OpsH.mono {h h' : H} {a : Option (Nat × Nat)} {ops : List OpP} (x : OpsH h a ops) (k : Kp h h') : OpsH h' a ops := by
  obtain ⟨parts, al, t⟩ := x
  refine ⟨parts, al.imp (fun o p h => h.mono k), ?_⟩
  rcases t with t | ⟨b, md, t1, t2, t3⟩
  · exact .inl t
  · exact .inr ⟨b, md, t1, Nat.lt_of_lt_of_le t2 k.1, by rw [k.2 _ t2, t3]⟩
/-- the i-th of them: where it lies, and its cells -/
theorem OpsH.at {h : H} {a : Option (Nat × Nat)} {ops : List OpP} (x : OpsH h a ops) (i : Nat) (o : OpP) (ho : ops[i]? = some o) : ∃ k md vs b, a = some (k, 0) ∧ k < h.next ∧ h.get k = some (.cells vs md) ∧ vs.length = ops.length * 4 ∧ (vs.drop (i * 4)).take 4 = opC o b ∧ vs[i * 4 + 3]? = some (.slice b o.l.length none 1) ∧ SrcH h b 1 o.l := by
  obtain ⟨parts, al, t⟩ := x
  obtain ⟨p, hp, b, rfl, s⟩ := al.get i o ho
  rcases t with t | ⟨k, md, t1, t2, t3⟩
  · rw [t] at ho; simp at ho
  · exact ⟨k, md, _, b, t1, t2, t3, by rw [flat_len (al_len al), al.len], flat_get (al_len al) i _ hp, by rw [flat_cell (al_len al) i _ hp 3 (by omega)]; rfl, s⟩
end Go.Eng
namespace Go.Eng
open Go
variable {E : Nat → Option Fn} {X : Orc}
set_option linter.unusedSimpArgs false
set_option linter.unusedVariables false
/-! statements over rows of calls -/
def opOk (o : OpP) : Bool := if o.kind = 0 then decide (fixE o.size o.n = 0) else true
def opB (o : OpP) : List Nat := if o.kind = 0 then fixB o.size o.n else if o.kind = 1 then sizV o.n else if o.kind = 2 then sizV o.l.length ++ o.l else o.l
def gs : List OpP → Nat
  | [] => 0
  | o :: r => o.l.length + gs r
theorem gs_take (ops : List OpP) (i : Nat) (o : OpP) (h : ops[i]? = some o) : gs (ops.take (i + 1)) = gs (ops.take i) + o.l.length := by
  induction ops generalizing i with
  | nil => simp at h
  | cons a r ih =>
    cases i with
    | zero => simp at h; subst h; simp [gs]
    | succ i => simp at h; rw [List.take_succ_cons, List.take_succ_cons]; simp only [gs]; rw [ih i h]; omega
theorem gs_le (ops : List OpP) (B : Nat) (h : ∀ o ∈ ops, o.l.length ≤ B) : gs ops ≤ ops.length * B := by
  induction ops with
  | nil => simp [gs]
  | cons a r ih =>
    have h1 := ih (fun o ho => h o (List.mem_cons_of_mem _ ho))
    have h2 := h a (List.mem_cons_self ..)
    simp only [gs, List.length_cons, Nat.succ_mul]; omega
structure GrI (a : Option (Nat × Nat)) (ops : List OpP) (h0 : H) (i : Nat) (T : Tr V) (h : H) : Prop where
  il : i ≤ ops.length
  t0 : evO T (.t 0) = .slice a ops.length none 4
  t3 : ∃ s : Int, evO T (.t 3) = .int .i64 s ∧ (ops.length ≤ 100 → s = (gs (ops.take i) : Nat))
  t6 : evO T (.t 6) = .int .i64 (ops.length : Int)
  t7 : evO T (.t 7) = .int .i64 (i : Int)
  hh : h = h0
theorem gr_step (Q : Orc) (m : Nat) (a : Option (Nat × Nat)) (ops : List OpP) (B : Nat) (hB : B ≤ 140737488351232) (hl : ops.length ≤ B) (hs : ∀ o ∈ ops, o.l.length ≤ B) (h0 : H) (oh : OpsH h0 a ops) : ∀ i T h, i < ops.length → GrI a ops h0 i T h → ∃ T' h', evC Q 26 m none L_purserlaw01_great_0 ⟨T, [], h⟩ = some (.normal, ⟨T', [], h'⟩) ∧ GrI a ops h0 (i + 1) T' h' := by
  intro i T h hi ⟨_, t0, ⟨s, t3, e3⟩, t6, t7, hh⟩
  subst hh
  have c0 : decide ((i : Int) < (ops.length : Int)) = true := decide_eq_true (by omega)
  have wi : wr .i64 ((i : Int) + 1) = ((i + 1 : Nat) : Int) := by rw [wr_i64 (by omega)]; omega
  have ix : idx (i : Int) ops.length = some i := idxn hi
  obtain ⟨o, ho⟩ : ∃ o, ops[i]? = some o := ⟨_, List.getElem?_eq_getElem hi⟩
  have om := List.mem_of_getElem? ho
  obtain ⟨k, md, vs, b, rfl, k1, g, _, _, cg, _⟩ := oh.at i o ho
  have gt := gs_take ops i o ho
  have g1 : ops.length ≤ 100 → gs (ops.take (i + 1)) ≤ 100 * B := fun h => by
    have := gs_le (ops.take (i + 1)) B (fun x hx => hs x (List.mem_of_mem_take hx))
    have h2 : (ops.take (i + 1)).length ≤ 100 := by rw [List.length_take]; omega
    exact Nat.le_trans this (Nat.mul_le_mul_right _ h2)
  obtain ⟨w, ew⟩ : ∃ w, wr .i64 (s + (o.l.length : Int)) = w := ⟨_, rfl⟩
  have e4 : ops.length ≤ 100 → w = (gs (ops.take (i + 1)) : Nat) := fun h => by
    have := g1 h
    have := e3 h
    rw [← ew, this, gt]
    rw [wr_i64 (by omega)]; omega
  have i1 : i + 1 ≤ ops.length := hi
  obtain ⟨n, en⟩ : ∃ n, ops.length = n := ⟨_, rfl⟩
  rw [en] at t0 t6 c0 ix
  refine ⟨_, _, by
    simp (config := {maxSteps := 2000000}) (disch := first | omega | (simp only [List.length_cons, List.length_nil, List.length_append, List.length_drop]; omega)) only [L_purserlaw01_great_0, t0, t3, t6, t7, g, cg, c0, wi, ix, ew, ↓s_len, x_lenS, ↓b_xor32, ↓b_and32, ↓b_or32, ↓u_not32, b_xor32, b_and32, b_or32, u_not32, w32ad, ↓x_conv, x_convV, ↓x_fieldAddr, x_fieldV, ↓s_nilchk, x_nilchk, Nat.zero_add, Nat.add_zero, Nat.mul_one, ↓l_loop, ↓l_succ, ↓l_normal, l_normal, l_exit, l_ret, l_iteN, ↓h_put_get, ↓h_new_get, ↓h_del_get, h_next_put, h_next_new, h_next_del, Nat.add_assoc, Nat.add_eq_left, Nat.left_eq_add, Nat.add_left_cancel_iff, ↓s_load, m_load, ↓m_load1, m_load1, ↓m_st, m_stE, m_storeI, m_storeE, w_zero, w_succ, ↓s_alloc, ↓x_idxA, ↓x_idxS, x_idxAE, x_idxSE, x_addrE, x_idx, x_lenS, ↓s_len, ↓x_buildS, x_buildE, ↓x_P0, ↓x_P1, x_fill0, x_filli, x_fills, x_fillb, c_int, List.length_cons, List.length_nil, List.cons_append, List.drop_succ_cons, List.drop_zero, List.drop_nil, List.nil_append, Int.reduceAdd, Int.reduceToNat, Int.reduceLT, Int.reduceLE, Nat.reduceAdd, Nat.reduceMul, Nat.reduceLeDiff, Int.reduceEq, Int.reduceSub, Int.cast_ofNat_Int, s_resc, s_consR, m_load4, m_store4, s_res0, ↓s_skip, ↓s_ops, ↓s_dops, ↓s_seq, ↓s_cond, ↓s_block, ↓s_exit, ↓s_ret, ↓s_scope, ↓s_nil, ↓s_op, ↓s_opg, ↓s_wanted', ↓s_wantV, s_wantV, s_wantV0, beq_true, beq_false, ↓s_bindS, s_bindS, ↓s_bindE, s_bindE, s_bindE_ret, s_bindE_exit, s_bindE_iteN, s_norm, ↓s_condV, s_condV, s_block_ret, s_block_normal, s_block_exit, s_block_iteN, ↓s_getp, ↓s_getp0, ↓s_get, s_get0, ↓s_con, ↓s_fn, ↓s_os0, ↓s_os1, ↓s_list0, ↓s_list1, ↓s_mov, ↓s_pick, ↓s_pickE, s_pickE, ↓s_bin, ↓s_un, ↓s_minmax, ↓s_call, ↓s_callv, ↓s_callV, ↓s_ext, s_same, b_eql, b_neq, b_lss, b_leq, b_gtr, b_geq, b_add, b_sub, b_mul, b_eqlb, b_neqb, b_fnil, b_fnil', b_fnil2, b_fnil2', u_neg, u_not, m_two, s_end, s_end', s_end_iteN, s_res0, s_res1, s_tup1, s_tup2, ↓iteN_true, ↓iteN_false, iteN_true, iteN_false, Nat.zero_add, List.nil_append, List.append_nil, Nat.reduceEqDiff, reduceIte, decide_true, decide_false, Bool.not_true, Bool.not_false, List.getElem?_cons_zero, List.getElem?_cons_succ, Bool.false_eq_true, if_true, if_false, beq_self_eq_true]
    exact rfl, ⟨i1, by rw [en]; exact (by (simp only [s_getp, s_getp0, Nat.reduceEqDiff, decide_false, decide_true, iteN_false, iteN_true, t0]; try rfl)), ⟨w, (by (simp only [s_getp, s_getp0, Nat.reduceEqDiff, decide_false, decide_true, iteN_false, iteN_true, t3]; try rfl)), e4⟩, by rw [en]; exact (by (simp only [s_getp, s_getp0, Nat.reduceEqDiff, decide_false, decide_true, iteN_false, iteN_true, t6]; try rfl)), (by (simp only [s_getp, s_getp0, Nat.reduceEqDiff, decide_false, decide_true, iteN_false, iteN_true, t7]; try rfl)), rfl⟩⟩
def greatV (ops : List OpP) : Bool := decide (100 < ops.length) || decide (100000 < gs ops)
theorem great_go (e : E k_purserlaw01_great = some f_purserlaw01_great) (x : ∀ a h, X (.fn k_purserlaw01_great) a h = none) (N : Nat) (a : Option (Nat × Nat)) (ops : List OpP) (B : Nat) (hB : B ≤ 140737488351232) (hl : ops.length ≤ B) (hs : ∀ o ∈ ops, o.l.length ≤ B) (h : H) (oh : OpsH h a ops) :
    callX E X (N + ops.length + 26) (.fn k_purserlaw01_great) [.slice a ops.length none 4] h = some (.bool (greatV ops), h) := by
  rw [x_cfn e _ _ (Nat.le_of_ble_eq_true rfl) (x _ _)]
  have fin : ∀ T, GrI a ops h 0 T h → fnEnd [.tmp 2] (bindE (blockE 0 (loopN (evC (callX E X (N + ops.length + 25)) 26 (N + ops.length + 25) none L_purserlaw01_great_0) (N + ops.length + 25) ⟨T, [], h⟩)) (evC (callX E X (N + ops.length + 25)) 26 (N + ops.length + 25) none R_purserlaw01_great_0)) = some (.bool (greatV ops), h) := by
    intro T I
    obtain ⟨T', h', r, t0, ⟨s, t3, e3⟩, hh⟩ := loop_go (f := evC (callX E X (N + ops.length + 25)) 26 (N + ops.length + 25) none L_purserlaw01_great_0) (GrI a ops h) ops.length (.exit 0) (by intro h; cases h) (fun T h' => evO T (.t 0) = .slice a ops.length none 4 ∧ (∃ s : Int, evO T (.t 3) = .int .i64 s ∧ (ops.length ≤ 100 → s = (gs ops : Nat))) ∧ h' = h) (gr_step _ _ a ops B hB hl hs h oh) (fun T h' I => by
      obtain ⟨il, t0, ⟨s, t3, e3⟩, t6, t7, hh⟩ := I
      rw [List.take_length] at e3
      have c0 : decide ((ops.length : Int) < (ops.length : Int)) = false := decide_eq_false (by omega)
      refine ⟨_, _, by
        simp (config := {maxSteps := 2000000}) (disch := first | omega | (simp only [List.length_cons, List.length_nil, List.length_append, List.length_drop]; omega)) only [L_purserlaw01_great_0, t6, t7, c0, ↓b_xor32, ↓b_and32, ↓b_or32, ↓u_not32, b_xor32, b_and32, b_or32, u_not32, w32ad, ↓x_conv, x_convV, ↓x_fieldAddr, x_fieldV, ↓s_nilchk, x_nilchk, Nat.zero_add, Nat.add_zero, Nat.mul_one, ↓l_loop, ↓l_succ, ↓l_normal, l_normal, l_exit, l_ret, l_iteN, ↓h_put_get, ↓h_new_get, ↓h_del_get, h_next_put, h_next_new, h_next_del, Nat.add_assoc, Nat.add_eq_left, Nat.left_eq_add, Nat.add_left_cancel_iff, ↓s_load, m_load, ↓m_load1, m_load1, ↓m_st, m_stE, m_storeI, m_storeE, w_zero, w_succ, ↓s_alloc, ↓x_idxA, ↓x_idxS, x_idxAE, x_idxSE, x_addrE, x_idx, x_lenS, ↓s_len, ↓x_buildS, x_buildE, ↓x_P0, ↓x_P1, x_fill0, x_filli, x_fills, x_fillb, c_int, List.length_cons, List.length_nil, List.cons_append, List.drop_succ_cons, List.drop_zero, List.drop_nil, List.nil_append, Int.reduceAdd, Int.reduceToNat, Int.reduceLT, Int.reduceLE, Nat.reduceAdd, Nat.reduceMul, Nat.reduceLeDiff, Int.reduceEq, Int.reduceSub, Int.cast_ofNat_Int, s_resc, s_consR, m_load4, m_store4, s_res0, ↓s_skip, ↓s_ops, ↓s_dops, ↓s_seq, ↓s_cond, ↓s_block, ↓s_exit, ↓s_ret, ↓s_scope, ↓s_nil, ↓s_op, ↓s_opg, ↓s_wanted', ↓s_wantV, s_wantV, s_wantV0, beq_true, beq_false, ↓s_bindS, s_bindS, ↓s_bindE, s_bindE, s_bindE_ret, s_bindE_exit, s_bindE_iteN, s_norm, ↓s_condV, s_condV, s_block_ret, s_block_normal, s_block_exit, s_block_iteN, ↓s_getp, ↓s_getp0, ↓s_get, s_get0, ↓s_con, ↓s_fn, ↓s_os0, ↓s_os1, ↓s_list0, ↓s_list1, ↓s_mov, ↓s_pick, ↓s_pickE, s_pickE, ↓s_bin, ↓s_un, ↓s_minmax, ↓s_call, ↓s_callv, ↓s_callV, ↓s_ext, s_same, b_eql, b_neq, b_lss, b_leq, b_gtr, b_geq, b_add, b_sub, b_mul, b_eqlb, b_neqb, b_fnil, b_fnil', b_fnil2, b_fnil2', u_neg, u_not, m_two, s_end, s_end', s_end_iteN, s_res0, s_res1, s_tup1, s_tup2, ↓iteN_true, ↓iteN_false, iteN_true, iteN_false, Nat.zero_add, List.nil_append, List.append_nil, Nat.reduceEqDiff, reduceIte, decide_true, decide_false, Bool.not_true, Bool.not_false, List.getElem?_cons_zero, List.getElem?_cons_succ, Bool.false_eq_true, if_true, if_false, beq_self_eq_true]
        exact rfl, (by (simp only [s_getp, s_getp0, Nat.reduceEqDiff, decide_false, decide_true, iteN_false, iteN_true, t0]; try rfl)), ⟨s, (by (simp only [s_getp, s_getp0, Nat.reduceEqDiff, decide_false, decide_true, iteN_false, iteN_true, t3]; try rfl)), e3⟩, hh⟩) ops.length 0 (by omega) (N + ops.length + 25) (by omega) T h I
    rw [r, hh]
    unfold greatV
    by_cases c : 100 < ops.length
    · have c1 : decide ((100 : Int) < (ops.length : Int)) = true := decide_eq_true (by omega)
      rw [decide_eq_true c, Bool.true_or]
      simp (config := {maxSteps := 2000000}) (disch := first | omega | (simp only [List.length_cons, List.length_nil, List.length_append, List.length_drop]; omega)) only [R_purserlaw01_great_0, t0, t3, c1, ↓s_len, x_lenS, ↓b_xor32, ↓b_and32, ↓b_or32, ↓u_not32, b_xor32, b_and32, b_or32, u_not32, w32ad, ↓x_conv, x_convV, ↓x_fieldAddr, x_fieldV, ↓s_nilchk, x_nilchk, Nat.zero_add, Nat.add_zero, Nat.mul_one, ↓l_loop, ↓l_succ, ↓l_normal, l_normal, l_exit, l_ret, l_iteN, ↓h_put_get, ↓h_new_get, ↓h_del_get, h_next_put, h_next_new, h_next_del, Nat.add_assoc, Nat.add_eq_left, Nat.left_eq_add, Nat.add_left_cancel_iff, ↓s_load, m_load, ↓m_load1, m_load1, ↓m_st, m_stE, m_storeI, m_storeE, w_zero, w_succ, ↓s_alloc, ↓x_idxA, ↓x_idxS, x_idxAE, x_idxSE, x_addrE, x_idx, x_lenS, ↓s_len, ↓x_buildS, x_buildE, ↓x_P0, ↓x_P1, x_fill0, x_filli, x_fills, x_fillb, c_int, List.length_cons, List.length_nil, List.cons_append, List.drop_succ_cons, List.drop_zero, List.drop_nil, List.nil_append, Int.reduceAdd, Int.reduceToNat, Int.reduceLT, Int.reduceLE, Nat.reduceAdd, Nat.reduceMul, Nat.reduceLeDiff, Int.reduceEq, Int.reduceSub, Int.cast_ofNat_Int, s_resc, s_consR, m_load4, m_store4, s_res0, ↓s_skip, ↓s_ops, ↓s_dops, ↓s_seq, ↓s_cond, ↓s_block, ↓s_exit, ↓s_ret, ↓s_scope, ↓s_nil, ↓s_op, ↓s_opg, ↓s_wanted', ↓s_wantV, s_wantV, s_wantV0, beq_true, beq_false, ↓s_bindS, s_bindS, ↓s_bindE, s_bindE, s_bindE_ret, s_bindE_exit, s_bindE_iteN, s_norm, ↓s_condV, s_condV, s_block_ret, s_block_normal, s_block_exit, s_block_iteN, ↓s_getp, ↓s_getp0, ↓s_get, s_get0, ↓s_con, ↓s_fn, ↓s_os0, ↓s_os1, ↓s_list0, ↓s_list1, ↓s_mov, ↓s_pick, ↓s_pickE, s_pickE, ↓s_bin, ↓s_un, ↓s_minmax, ↓s_call, ↓s_callv, ↓s_callV, ↓s_ext, s_same, b_eql, b_neq, b_lss, b_leq, b_gtr, b_geq, b_add, b_sub, b_mul, b_eqlb, b_neqb, b_fnil, b_fnil', b_fnil2, b_fnil2', u_neg, u_not, m_two, s_end, s_end', s_end_iteN, s_res0, s_res1, s_tup1, s_tup2, ↓iteN_true, ↓iteN_false, iteN_true, iteN_false, Nat.zero_add, List.nil_append, List.append_nil, Nat.reduceEqDiff, reduceIte, decide_true, decide_false, Bool.not_true, Bool.not_false, List.getElem?_cons_zero, List.getElem?_cons_succ, Bool.false_eq_true, if_true, if_false, beq_self_eq_true]
    · have c1 : decide ((100 : Int) < (ops.length : Int)) = false := decide_eq_false (by omega)
      rw [decide_eq_false c, Bool.false_or]
      have e4 := e3 (by omega)
      have c2 : decide ((100000 : Int) < s) = decide (100000 < gs ops) := by rw [decide_eq_decide]; omega
      generalize decide (100000 < gs ops) = q at *
      simp (config := {maxSteps := 2000000}) (disch := first | omega | (simp only [List.length_cons, List.length_nil, List.length_append, List.length_drop]; omega)) only [R_purserlaw01_great_0, t0, t3, c1, c2, ↓s_len, x_lenS, ↓b_xor32, ↓b_and32, ↓b_or32, ↓u_not32, b_xor32, b_and32, b_or32, u_not32, w32ad, ↓x_conv, x_convV, ↓x_fieldAddr, x_fieldV, ↓s_nilchk, x_nilchk, Nat.zero_add, Nat.add_zero, Nat.mul_one, ↓l_loop, ↓l_succ, ↓l_normal, l_normal, l_exit, l_ret, l_iteN, ↓h_put_get, ↓h_new_get, ↓h_del_get, h_next_put, h_next_new, h_next_del, Nat.add_assoc, Nat.add_eq_left, Nat.left_eq_add, Nat.add_left_cancel_iff, ↓s_load, m_load, ↓m_load1, m_load1, ↓m_st, m_stE, m_storeI, m_storeE, w_zero, w_succ, ↓s_alloc, ↓x_idxA, ↓x_idxS, x_idxAE, x_idxSE, x_addrE, x_idx, x_lenS, ↓s_len, ↓x_buildS, x_buildE, ↓x_P0, ↓x_P1, x_fill0, x_filli, x_fills, x_fillb, c_int, List.length_cons, List.length_nil, List.cons_append, List.drop_succ_cons, List.drop_zero, List.drop_nil, List.nil_append, Int.reduceAdd, Int.reduceToNat, Int.reduceLT, Int.reduceLE, Nat.reduceAdd, Nat.reduceMul, Nat.reduceLeDiff, Int.reduceEq, Int.reduceSub, Int.cast_ofNat_Int, s_resc, s_consR, m_load4, m_store4, s_res0, ↓s_skip, ↓s_ops, ↓s_dops, ↓s_seq, ↓s_cond, ↓s_block, ↓s_exit, ↓s_ret, ↓s_scope, ↓s_nil, ↓s_op, ↓s_opg, ↓s_wanted', ↓s_wantV, s_wantV, s_wantV0, beq_true, beq_false, ↓s_bindS, s_bindS, ↓s_bindE, s_bindE, s_bindE_ret, s_bindE_exit, s_bindE_iteN, s_norm, ↓s_condV, s_condV, s_block_ret, s_block_normal, s_block_exit, s_block_iteN, ↓s_getp, ↓s_getp0, ↓s_get, s_get0, ↓s_con, ↓s_fn, ↓s_os0, ↓s_os1, ↓s_list0, ↓s_list1, ↓s_mov, ↓s_pick, ↓s_pickE, s_pickE, ↓s_bin, ↓s_un, ↓s_minmax, ↓s_call, ↓s_callv, ↓s_callV, ↓s_ext, s_same, b_eql, b_neq, b_lss, b_leq, b_gtr, b_geq, b_add, b_sub, b_mul, b_eqlb, b_neqb, b_fnil, b_fnil', b_fnil2, b_fnil2', u_neg, u_not, m_two, s_end, s_end', s_end_iteN, s_res0, s_res1, s_tup1, s_tup2, ↓iteN_true, ↓iteN_false, iteN_true, iteN_false, Nat.zero_add, List.nil_append, List.append_nil, Nat.reduceEqDiff, reduceIte, decide_true, decide_false, Bool.not_true, Bool.not_false, List.getElem?_cons_zero, List.getElem?_cons_succ, Bool.false_eq_true, if_true, if_false, beq_self_eq_true]
  obtain ⟨R, eR⟩ : ∃ R, R_purserlaw01_great_0 = R := ⟨_, rfl⟩
  obtain ⟨Lo, eL⟩ : ∃ R, L_purserlaw01_great_0 = R := ⟨_, rfl⟩
  rw [eR, eL] at fin ⊢
  simp (config := {maxSteps := 2000000}) (disch := first | omega | (simp only [List.length_cons, List.length_nil, List.length_append, List.length_drop]; omega)) only [↓s_len, x_lenS, ↓b_xor32, ↓b_and32, ↓b_or32, ↓u_not32, b_xor32, b_and32, b_or32, u_not32, w32ad, ↓x_conv, x_convV, ↓x_fieldAddr, x_fieldV, ↓s_nilchk, x_nilchk, Nat.zero_add, Nat.add_zero, Nat.mul_one, ↓l_loop, ↓l_succ, ↓l_normal, l_normal, l_exit, l_ret, l_iteN, ↓h_put_get, ↓h_new_get, ↓h_del_get, h_next_put, h_next_new, h_next_del, Nat.add_assoc, Nat.add_eq_left, Nat.left_eq_add, Nat.add_left_cancel_iff, ↓s_load, m_load, ↓m_load1, m_load1, ↓m_st, m_stE, m_storeI, m_storeE, w_zero, w_succ, ↓s_alloc, ↓x_idxA, ↓x_idxS, x_idxAE, x_idxSE, x_addrE, x_idx, x_lenS, ↓s_len, ↓x_buildS, x_buildE, ↓x_P0, ↓x_P1, x_fill0, x_filli, x_fills, x_fillb, c_int, List.length_cons, List.length_nil, List.cons_append, List.drop_succ_cons, List.drop_zero, List.drop_nil, List.nil_append, Int.reduceAdd, Int.reduceToNat, Int.reduceLT, Int.reduceLE, Nat.reduceAdd, Nat.reduceMul, Nat.reduceLeDiff, Int.reduceEq, Int.reduceSub, Int.cast_ofNat_Int, s_resc, s_consR, m_load4, m_store4, s_res0, ↓s_skip, ↓s_ops, ↓s_dops, ↓s_seq, ↓s_cond, ↓s_block, ↓s_exit, ↓s_ret, ↓s_scope, ↓s_nil, ↓s_op, ↓s_opg, ↓s_wanted', ↓s_wantV, s_wantV, s_wantV0, beq_true, beq_false, ↓s_bindS, s_bindS, ↓s_bindE, s_bindE, s_bindE_ret, s_bindE_exit, s_bindE_iteN, s_norm, ↓s_condV, s_condV, s_block_ret, s_block_normal, s_block_exit, s_block_iteN, ↓s_getp, ↓s_getp0, ↓s_get, s_get0, ↓s_con, ↓s_fn, ↓s_os0, ↓s_os1, ↓s_list0, ↓s_list1, ↓s_mov, ↓s_pick, ↓s_pickE, s_pickE, ↓s_bin, ↓s_un, ↓s_minmax, ↓s_call, ↓s_callv, ↓s_callV, ↓s_ext, s_same, b_eql, b_neq, b_lss, b_leq, b_gtr, b_geq, b_add, b_sub, b_mul, b_eqlb, b_neqb, b_fnil, b_fnil', b_fnil2, b_fnil2', u_neg, u_not, m_two, s_end, s_end', s_end_iteN, s_res0, s_res1, s_tup1, s_tup2, ↓iteN_true, ↓iteN_false, iteN_true, iteN_false, Nat.zero_add, List.nil_append, List.append_nil, Nat.reduceEqDiff, reduceIte, decide_true, decide_false, Bool.not_true, Bool.not_false, List.getElem?_cons_zero, List.getElem?_cons_succ, Bool.false_eq_true, if_true, if_false, beq_self_eq_true]
  exact fin _ ⟨by omega, (by (simp only [s_getp, s_getp0, Nat.reduceEqDiff, decide_false, decide_true, iteN_false, iteN_true, eL]; try rfl)), ⟨0, (by (simp only [s_getp, s_getp0, Nat.reduceEqDiff, decide_false, decide_true, iteN_false, iteN_true, eL]; try rfl)), fun _ => rfl⟩, (by (simp only [s_getp, s_getp0, Nat.reduceEqDiff, decide_false, decide_true, iteN_false, iteN_true, eL]; try rfl)), (by (simp only [s_getp, s_getp0, Nat.reduceEqDiff, decide_false, decide_true, iteN_false, iteN_true, eL]; try rfl)), rfl⟩
/-- a call of a pen -/
theorem put_go (ep : EnPen E) (el : E k_purserlaw01_put = some f_purserlaw01_put) (x : ∀ a h, X (.fn k_purserlaw01_put) a h = none) (xs : NoSize X) (xf : NoFix X) (xb : ∀ a h, X (.fn k_octet_Pen_Bytes) a h = none) (xr : ∀ a h, X (.fn k_octet_Pen_Raw) a h = none) (M pn : Nat) (hM : 10 < M) (o : OpP) (ok : o.ok) (hl : o.l.length ≤ 100000) (b : Option (Nat × Nat)) (w : List Nat) (hw : w.length ≤ 800000) (a0 : Option (Nat × Nat)) (h : H) (pe : PenH pn w a0 h) (po : PartOk pn a0 h (b, none, 1, o.l)) :
    ∃ h' a, callX E X (M + 8) (.fn k_purserlaw01_put) [.ptr (some (pn, 0)), .agg (opC o b)] h = some (.bool (opOk o), h') ∧ PenH pn (w ++ opB o) a h' ∧ Fr pn a0 h a h' := by
  rw [x_cfn el _ _ (Nat.le_of_ble_eq_true rfl) (x _ _)]
  obtain ⟨kind, size, n, l⟩ := o
  have nl := ok.nl
  simp only at nl hl po
  unfold opOk opB opC
  simp only
  obtain ⟨hA, eA⟩ : ∃ hA, h.new (.cells [.int .i64 kind, .int .i64 size, .int .u64 (n : Int), .slice b l.length none 1] .rw) = hA := ⟨_, rfl⟩
  have kA : Kp h hA := by rw [← eA]; exact Kp.new _ _
  have gA : hA.get h.next = some (.cells [.int .i64 kind, .int .i64 size, .int .u64 (n : Int), .slice b l.length none 1] .rw) := by rw [← eA]; exact h_new_same _ _
  have peA := pe.kp kA
  have poA : PartOk pn a0 hA (b, none, 1, l) := po.fr (.of_kp kA)
  have ca : ∀ l : List V, (V.agg l).cells = l := fun _ => rfl
  by_cases k0 : kind = 0
  · subst k0
    rw [if_pos rfl, if_pos rfl]
    obtain ⟨h1, a1, r1, p1, f1⟩ := fixedv_go ep.fi xf (M + 3) pn size n (by omega) nl w (by omega) a0 hA peA
    refine ⟨h1, a1, ?_, p1, (Fr.of_kp kA).trans f1⟩
    have c1 : decide (((fixE size n : Nat) : Int) = 0) = decide (fixE size n = 0) := by rw [decide_eq_decide]; omega
    have c0 : decide ((0 : Int) = 0) = true := rfl
    generalize fixE size n = fe at *
    generalize decide (fe = 0) = q at *
    replace r1 : callX E X (M + 7) (.fn k_octet_Pen_Fixed) [.ptr (some (pn, 0)), .int .i64 size, .int .u64 (n : Int)] hA = some (.int .i64 (fe : Int), h1) := r1
    simp (config := {maxSteps := 2000000}) (disch := first | omega | (simp only [List.length_cons, List.length_nil, List.length_append, List.length_drop]; omega)) only [ca, eA, gA, r1, c0, c1, ↓s_box, ↓b_xor32, ↓b_and32, ↓b_or32, ↓u_not32, b_xor32, b_and32, b_or32, u_not32, w32ad, ↓x_conv, x_convV, ↓x_fieldAddr, x_fieldV, ↓s_nilchk, x_nilchk, Nat.zero_add, Nat.add_zero, Nat.mul_one, ↓l_loop, ↓l_succ, ↓l_normal, l_normal, l_exit, l_ret, l_iteN, ↓h_put_get, ↓h_new_get, ↓h_del_get, h_next_put, h_next_new, h_next_del, Nat.add_assoc, Nat.add_eq_left, Nat.left_eq_add, Nat.add_left_cancel_iff, ↓s_load, m_load, ↓m_load1, m_load1, ↓m_st, m_stE, m_storeI, m_storeE, w_zero, w_succ, ↓s_alloc, ↓x_idxA, ↓x_idxS, x_idxAE, x_idxSE, x_addrE, x_idx, x_lenS, ↓s_len, ↓x_buildS, x_buildE, ↓x_P0, ↓x_P1, x_fill0, x_filli, x_fills, x_fillb, c_int, List.length_cons, List.length_nil, List.cons_append, List.drop_succ_cons, List.drop_zero, List.drop_nil, List.nil_append, Int.reduceAdd, Int.reduceToNat, Int.reduceLT, Int.reduceLE, Nat.reduceAdd, Nat.reduceMul, Nat.reduceLeDiff, Int.reduceEq, Int.reduceSub, Int.cast_ofNat_Int, s_resc, s_consR, m_load4, m_store4, s_res0, ↓s_skip, ↓s_ops, ↓s_dops, ↓s_seq, ↓s_cond, ↓s_block, ↓s_exit, ↓s_ret, ↓s_scope, ↓s_nil, ↓s_op, ↓s_opg, ↓s_wanted', ↓s_wantV, s_wantV, s_wantV0, beq_true, beq_false, ↓s_bindS, s_bindS, ↓s_bindE, s_bindE, s_bindE_ret, s_bindE_exit, s_bindE_iteN, s_norm, ↓s_condV, s_condV, s_block_ret, s_block_normal, s_block_exit, s_block_iteN, ↓s_getp, ↓s_getp0, ↓s_get, s_get0, ↓s_con, ↓s_fn, ↓s_os0, ↓s_os1, ↓s_list0, ↓s_list1, ↓s_mov, ↓s_pick, ↓s_pickE, s_pickE, ↓s_bin, ↓s_un, ↓s_minmax, ↓s_call, ↓s_callv, ↓s_callV, ↓s_ext, s_same, b_eql, b_neq, b_lss, b_leq, b_gtr, b_geq, b_add, b_sub, b_mul, b_eqlb, b_neqb, b_fnil, b_fnil', b_fnil2, b_fnil2', u_neg, u_not, m_two, s_end, s_end', s_end_iteN, s_res0, s_res1, s_tup1, s_tup2, ↓iteN_true, ↓iteN_false, iteN_true, iteN_false, Nat.zero_add, List.nil_append, List.append_nil, Nat.reduceEqDiff, reduceIte, decide_true, decide_false, Bool.not_true, Bool.not_false, List.getElem?_cons_zero, List.getElem?_cons_succ, Bool.false_eq_true, if_true, if_false, beq_self_eq_true]
  · have c0 : decide (kind = 0) = false := decide_eq_false k0
    rw [if_neg k0, if_neg k0]
    by_cases k1 : kind = 1
    · subst k1
      rw [if_pos rfl]
      obtain ⟨h1, a1, r1, p1, f1⟩ := sizev_go ep.si xs (M + 2) pn n (by omega) nl w (by omega) a0 hA peA
      refine ⟨h1, a1, ?_, p1, (Fr.of_kp kA).trans f1⟩
      have c1 : decide ((1 : Int) = 1) = true := rfl
      replace r1 : callX E X (M + 7) (.fn k_octet_Pen_Size) [.ptr (some (pn, 0)), .int .u64 (n : Int)] hA = some (.int .i64 0, h1) := r1
      simp (config := {maxSteps := 2000000}) (disch := first | omega | (simp only [List.length_cons, List.length_nil, List.length_append, List.length_drop]; omega)) only [ca, eA, gA, r1, c0, c1, ↓s_box, ↓b_xor32, ↓b_and32, ↓b_or32, ↓u_not32, b_xor32, b_and32, b_or32, u_not32, w32ad, ↓x_conv, x_convV, ↓x_fieldAddr, x_fieldV, ↓s_nilchk, x_nilchk, Nat.zero_add, Nat.add_zero, Nat.mul_one, ↓l_loop, ↓l_succ, ↓l_normal, l_normal, l_exit, l_ret, l_iteN, ↓h_put_get, ↓h_new_get, ↓h_del_get, h_next_put, h_next_new, h_next_del, Nat.add_assoc, Nat.add_eq_left, Nat.left_eq_add, Nat.add_left_cancel_iff, ↓s_load, m_load, ↓m_load1, m_load1, ↓m_st, m_stE, m_storeI, m_storeE, w_zero, w_succ, ↓s_alloc, ↓x_idxA, ↓x_idxS, x_idxAE, x_idxSE, x_addrE, x_idx, x_lenS, ↓s_len, ↓x_buildS, x_buildE, ↓x_P0, ↓x_P1, x_fill0, x_filli, x_fills, x_fillb, c_int, List.length_cons, List.length_nil, List.cons_append, List.drop_succ_cons, List.drop_zero, List.drop_nil, List.nil_append, Int.reduceAdd, Int.reduceToNat, Int.reduceLT, Int.reduceLE, Nat.reduceAdd, Nat.reduceMul, Nat.reduceLeDiff, Int.reduceEq, Int.reduceSub, Int.cast_ofNat_Int, s_resc, s_consR, m_load4, m_store4, s_res0, ↓s_skip, ↓s_ops, ↓s_dops, ↓s_seq, ↓s_cond, ↓s_block, ↓s_exit, ↓s_ret, ↓s_scope, ↓s_nil, ↓s_op, ↓s_opg, ↓s_wanted', ↓s_wantV, s_wantV, s_wantV0, beq_true, beq_false, ↓s_bindS, s_bindS, ↓s_bindE, s_bindE, s_bindE_ret, s_bindE_exit, s_bindE_iteN, s_norm, ↓s_condV, s_condV, s_block_ret, s_block_normal, s_block_exit, s_block_iteN, ↓s_getp, ↓s_getp0, ↓s_get, s_get0, ↓s_con, ↓s_fn, ↓s_os0, ↓s_os1, ↓s_list0, ↓s_list1, ↓s_mov, ↓s_pick, ↓s_pickE, s_pickE, ↓s_bin, ↓s_un, ↓s_minmax, ↓s_call, ↓s_callv, ↓s_callV, ↓s_ext, s_same, b_eql, b_neq, b_lss, b_leq, b_gtr, b_geq, b_add, b_sub, b_mul, b_eqlb, b_neqb, b_fnil, b_fnil', b_fnil2, b_fnil2', u_neg, u_not, m_two, s_end, s_end', s_end_iteN, s_res0, s_res1, s_tup1, s_tup2, ↓iteN_true, ↓iteN_false, iteN_true, iteN_false, Nat.zero_add, List.nil_append, List.append_nil, Nat.reduceEqDiff, reduceIte, decide_true, decide_false, Bool.not_true, Bool.not_false, List.getElem?_cons_zero, List.getElem?_cons_succ, Bool.false_eq_true, if_true, if_false, beq_self_eq_true]
    · have c1 : decide (kind = 1) = false := decide_eq_false k1
      rw [if_neg k1]
      by_cases k2 : kind = 2
      · subst k2
        rw [if_pos rfl]
        obtain ⟨h1, a1, r1, p1, f1⟩ := bytesv_go ep.si ep.by_ ep.rw_ xs xb xr (M + 1) pn (by omega) w l (by omega) (by omega) b none 1 a0 hA peA poA
        refine ⟨h1, a1, ?_, p1, (Fr.of_kp kA).trans f1⟩
        have c2 : decide ((2 : Int) = 2) = true := rfl
        replace r1 : callX E X (M + 7) (.fn k_octet_Pen_Bytes) [.ptr (some (pn, 0)), .slice b l.length none 1] hA = some (.int .i64 0, h1) := r1
        simp (config := {maxSteps := 2000000}) (disch := first | omega | (simp only [List.length_cons, List.length_nil, List.length_append, List.length_drop]; omega)) only [ca, eA, gA, r1, c0, c1, c2, ↓s_box, ↓b_xor32, ↓b_and32, ↓b_or32, ↓u_not32, b_xor32, b_and32, b_or32, u_not32, w32ad, ↓x_conv, x_convV, ↓x_fieldAddr, x_fieldV, ↓s_nilchk, x_nilchk, Nat.zero_add, Nat.add_zero, Nat.mul_one, ↓l_loop, ↓l_succ, ↓l_normal, l_normal, l_exit, l_ret, l_iteN, ↓h_put_get, ↓h_new_get, ↓h_del_get, h_next_put, h_next_new, h_next_del, Nat.add_assoc, Nat.add_eq_left, Nat.left_eq_add, Nat.add_left_cancel_iff, ↓s_load, m_load, ↓m_load1, m_load1, ↓m_st, m_stE, m_storeI, m_storeE, w_zero, w_succ, ↓s_alloc, ↓x_idxA, ↓x_idxS, x_idxAE, x_idxSE, x_addrE, x_idx, x_lenS, ↓s_len, ↓x_buildS, x_buildE, ↓x_P0, ↓x_P1, x_fill0, x_filli, x_fills, x_fillb, c_int, List.length_cons, List.length_nil, List.cons_append, List.drop_succ_cons, List.drop_zero, List.drop_nil, List.nil_append, Int.reduceAdd, Int.reduceToNat, Int.reduceLT, Int.reduceLE, Nat.reduceAdd, Nat.reduceMul, Nat.reduceLeDiff, Int.reduceEq, Int.reduceSub, Int.cast_ofNat_Int, s_resc, s_consR, m_load4, m_store4, s_res0, ↓s_skip, ↓s_ops, ↓s_dops, ↓s_seq, ↓s_cond, ↓s_block, ↓s_exit, ↓s_ret, ↓s_scope, ↓s_nil, ↓s_op, ↓s_opg, ↓s_wanted', ↓s_wantV, s_wantV, s_wantV0, beq_true, beq_false, ↓s_bindS, s_bindS, ↓s_bindE, s_bindE, s_bindE_ret, s_bindE_exit, s_bindE_iteN, s_norm, ↓s_condV, s_condV, s_block_ret, s_block_normal, s_block_exit, s_block_iteN, ↓s_getp, ↓s_getp0, ↓s_get, s_get0, ↓s_con, ↓s_fn, ↓s_os0, ↓s_os1, ↓s_list0, ↓s_list1, ↓s_mov, ↓s_pick, ↓s_pickE, s_pickE, ↓s_bin, ↓s_un, ↓s_minmax, ↓s_call, ↓s_callv, ↓s_callV, ↓s_ext, s_same, b_eql, b_neq, b_lss, b_leq, b_gtr, b_geq, b_add, b_sub, b_mul, b_eqlb, b_neqb, b_fnil, b_fnil', b_fnil2, b_fnil2', u_neg, u_not, m_two, s_end, s_end', s_end_iteN, s_res0, s_res1, s_tup1, s_tup2, ↓iteN_true, ↓iteN_false, iteN_true, iteN_false, Nat.zero_add, List.nil_append, List.append_nil, Nat.reduceEqDiff, reduceIte, decide_true, decide_false, Bool.not_true, Bool.not_false, List.getElem?_cons_zero, List.getElem?_cons_succ, Bool.false_eq_true, if_true, if_false, beq_self_eq_true]
      · have c2 : decide (kind = 2) = false := decide_eq_false k2
        rw [if_neg k2]
        obtain ⟨h1, a1, r1, p1, f1⟩ := raw1_go ep.rw_ xr (M + 6) pn (by omega) w l b none 1 a0 (by omega) hA peA poA
        refine ⟨h1, a1, ?_, p1, (Fr.of_kp kA).trans f1⟩
        obtain ⟨m, em⟩ : ∃ m, l.length = m := ⟨_, rfl⟩
        rw [em] at gA eA r1 ⊢
        replace r1 : callX E X (M + 7) (.fn k_octet_Pen_Raw) [.ptr (some (pn, 0)), .slice (some (hA.next, 0)) 1 (some 1) 1] (hA.new (.cells [.slice b m none 1] .rw)) = some (.int .i64 0, h1) := r1
        simp (config := {maxSteps := 2000000}) (disch := first | omega | (simp only [List.length_cons, List.length_nil, List.length_append, List.length_drop]; omega)) only [ca, eA, gA, r1, c0, c1, c2, ↓s_box, ↓b_xor32, ↓b_and32, ↓b_or32, ↓u_not32, b_xor32, b_and32, b_or32, u_not32, w32ad, ↓x_conv, x_convV, ↓x_fieldAddr, x_fieldV, ↓s_nilchk, x_nilchk, Nat.zero_add, Nat.add_zero, Nat.mul_one, ↓l_loop, ↓l_succ, ↓l_normal, l_normal, l_exit, l_ret, l_iteN, ↓h_put_get, ↓h_new_get, ↓h_del_get, h_next_put, h_next_new, h_next_del, Nat.add_assoc, Nat.add_eq_left, Nat.left_eq_add, Nat.add_left_cancel_iff, ↓s_load, m_load, ↓m_load1, m_load1, ↓m_st, m_stE, m_storeI, m_storeE, w_zero, w_succ, ↓s_alloc, ↓x_idxA, ↓x_idxS, x_idxAE, x_idxSE, x_addrE, x_idx, x_lenS, ↓s_len, ↓x_buildS, x_buildE, ↓x_P0, ↓x_P1, x_fill0, x_filli, x_fills, x_fillb, c_int, List.length_cons, List.length_nil, List.cons_append, List.drop_succ_cons, List.drop_zero, List.drop_nil, List.nil_append, Int.reduceAdd, Int.reduceToNat, Int.reduceLT, Int.reduceLE, Nat.reduceAdd, Nat.reduceMul, Nat.reduceLeDiff, Int.reduceEq, Int.reduceSub, Int.cast_ofNat_Int, s_resc, s_consR, m_load4, m_store4, s_res0, ↓s_skip, ↓s_ops, ↓s_dops, ↓s_seq, ↓s_cond, ↓s_block, ↓s_exit, ↓s_ret, ↓s_scope, ↓s_nil, ↓s_op, ↓s_opg, ↓s_wanted', ↓s_wantV, s_wantV, s_wantV0, beq_true, beq_false, ↓s_bindS, s_bindS, ↓s_bindE, s_bindE, s_bindE_ret, s_bindE_exit, s_bindE_iteN, s_norm, ↓s_condV, s_condV, s_block_ret, s_block_normal, s_block_exit, s_block_iteN, ↓s_getp, ↓s_getp0, ↓s_get, s_get0, ↓s_con, ↓s_fn, ↓s_os0, ↓s_os1, ↓s_list0, ↓s_list1, ↓s_mov, ↓s_pick, ↓s_pickE, s_pickE, ↓s_bin, ↓s_un, ↓s_minmax, ↓s_call, ↓s_callv, ↓s_callV, ↓s_ext, s_same, b_eql, b_neq, b_lss, b_leq, b_gtr, b_geq, b_add, b_sub, b_mul, b_eqlb, b_neqb, b_fnil, b_fnil', b_fnil2, b_fnil2', u_neg, u_not, m_two, s_end, s_end', s_end_iteN, s_res0, s_res1, s_tup1, s_tup2, ↓iteN_true, ↓iteN_false, iteN_true, iteN_false, Nat.zero_add, List.nil_append, List.append_nil, Nat.reduceEqDiff, reduceIte, decide_true, decide_false, Bool.not_true, Bool.not_false, List.getElem?_cons_zero, List.getElem?_cons_succ, Bool.false_eq_true, if_true, if_false, beq_self_eq_true]
/-- what a reading comes to: is it the same, and the place behind -/
def opG (o : OpP) (l : List Nat) (at_ : Nat) : Bool × Nat :=
  if o.kind = 0 then (decide ((eyFix o.size l at_).2.1 = 0) && decide ((eyFix o.size l at_).1 = o.n), (eyFix o.size l at_).2.2)
  else if o.kind = 1 then (decide ((eySiz l at_).2.1 = 0) && decide ((eySiz l at_).1 = o.n), (eySiz l at_).2.2)
  else if o.kind = 2 then (decide ((eyByt o.l.length l at_).2.1 = 0) && decide ((eyByt o.l.length l at_).1 = o.l), (eyByt o.l.length l at_).2.2)
  else (decide ((eyRaw o.l.length l at_).2.1 = 0) && decide ((eyRaw o.l.length l at_).1 = o.l), (eyRaw o.l.length l at_).2.2)
theorem byt_eyByt (m : Int) (l : List Nat) (bl : byt l = true) (at_ : Nat) : byt (eyByt m l at_).1 = true := by
  unfold eyByt
  split
  · split
    · rfl
    · exact byt_take (byt_drop bl _) _
  · rfl
theorem byt_eyRaw (m : Int) (l : List Nat) (bl : byt l = true) (at_ : Nat) : byt (eyRaw m l at_).1 = true := by
  unfold eyRaw
  split
  · rfl
  · split
    · exact byt_take (byt_drop bl _) _
    · rfl
theorem get_go (ey : EnEye E) (el : E k_purserlaw01_get = some f_purserlaw01_get) (x : ∀ a h, X (.fn k_purserlaw01_get) a h = none) (xe : NoEye X) (K p : Nat) (o : OpP) (ok : o.ok) (hl : o.l.length ≤ 100000) (b : Option (Nat × Nat)) (l : List Nat) (bl : byt l = true) (hl2 : l.length ≤ 1000000) (at_ : Nat) (a : Option (Nat × Nat)) (h : H) (y : EyeH p l at_ a h) (src : SrcH h b 1 o.l) (nb : o.l ≠ [] → ∀ q z, b = some (q, z) → q ≠ p) :
    ∃ h', callX E X (K + 18) (.fn k_purserlaw01_get) [.ptr (some (p, 0)), .agg (opC o b)] h = some (.bool (opG o l at_).1, h') ∧ Kq p h h' ∧ EyeH p l (opG o l at_).2 a h' := by
  rw [x_cfn el _ _ (Nat.le_of_ble_eq_true rfl) (x _ _)]
  obtain ⟨kind, size, n, w⟩ := o
  have nl := ok.nl
  have bw := ok.bl
  simp only at nl hl src bw nb
  unfold opG opC
  simp only
  obtain ⟨hA, eA⟩ : ∃ hA, h.new (.cells [.int .i64 kind, .int .i64 size, .int .u64 (n : Int), .slice b w.length none 1] .rw) = hA := ⟨_, rfl⟩
  have kA : Kp h hA := by rw [← eA]; exact Kp.new _ _
  have gA : hA.get h.next = some (.cells [.int .i64 kind, .int .i64 size, .int .u64 (n : Int), .slice b w.length none 1] .rw) := by rw [← eA]; exact h_new_same _ _
  have nA : h.next < hA.next := by rw [← eA]; exact Nat.lt_succ_self _
  have yA := y.kp kA
  have ca : ∀ l : List V, (V.agg l).cells = l := fun _ => rfl
  have hp : h.next ≠ p := fun e => absurd y.lt (by omega)
  have sq : ∀ h1, Kq p hA h1 → SrcH h1 b 1 w := fun h1 k => by
    rcases src with s | ⟨bi, off, vs, m, e1, e2, e3, e4, e5⟩
    · exact .inl s
    · by_cases hw : w = []
      · exact .inl hw
      · exact .inr ⟨bi, off, vs, m, e1, e2, by have := k.1; have := kA.1; omega, by rw [k.2 _ (by have := kA.1; omega) (nb hw _ _ e1), kA.2 _ e3, e4], e5⟩
  by_cases k0 : kind = 0
  · subst k0
    rw [if_pos rfl]
    obtain ⟨h1, r1, q1, y1⟩ := eyfix_go ey xe (K + 5) p size l bl hl2 at_ a hA yA
    refine ⟨h1, ?_, kA.q.trans q1, y1⟩
    have c0 : decide ((0 : Int) = 0) = true := rfl
    replace r1 : callX E X (K + 17) (.fn k_octet_Eye_Fixed) [.ptr (some (p, 0)), .int .i64 size] hA = some (.tup [.int .u64 ((eyFix size l at_).1 : Nat), .int .i64 ((eyFix size l at_).2.1 : Nat)], h1) := r1
    have g1 : h1.get h.next = some (.cells [.int .i64 0, .int .i64 size, .int .u64 (n : Int), .slice b w.length none 1] .rw) := by rw [q1.2 _ nA hp, gA]
    generalize (eyFix size l at_).1 = v at *
    generalize (eyFix size l at_).2.1 = er at *
    have c1 : decide ((er : Int) = 0) = decide (er = 0) := by rw [decide_eq_decide]; omega
    have c2 : decide ((v : Int) = (n : Int)) = decide (v = n) := by rw [decide_eq_decide]; omega
    generalize decide (er = 0) = d1 at *
    generalize decide (v = n) = d2 at *
    cases d1
    · simp (config := {maxSteps := 2000000}) (disch := first | omega | (simp only [List.length_cons, List.length_nil, List.length_append, List.length_drop]; omega)) only [ca, eA, gA, g1, r1, c0, c1, c2, ↓s_box, ↓b_xor32, ↓b_and32, ↓b_or32, ↓u_not32, b_xor32, b_and32, b_or32, u_not32, w32ad, ↓x_conv, x_convV, ↓x_fieldAddr, x_fieldV, ↓s_nilchk, x_nilchk, Nat.zero_add, Nat.add_zero, Nat.mul_one, ↓l_loop, ↓l_succ, ↓l_normal, l_normal, l_exit, l_ret, l_iteN, ↓h_put_get, ↓h_new_get, ↓h_del_get, h_next_put, h_next_new, h_next_del, Nat.add_assoc, Nat.add_eq_left, Nat.left_eq_add, Nat.add_left_cancel_iff, ↓s_load, m_load, ↓m_load1, m_load1, ↓m_st, m_stE, m_storeI, m_storeE, w_zero, w_succ, ↓s_alloc, ↓x_idxA, ↓x_idxS, x_idxAE, x_idxSE, x_addrE, x_idx, x_lenS, ↓s_len, ↓x_buildS, x_buildE, ↓x_P0, ↓x_P1, x_fill0, x_filli, x_fills, x_fillb, c_int, List.length_cons, List.length_nil, List.cons_append, List.drop_succ_cons, List.drop_zero, List.drop_nil, List.nil_append, Int.reduceAdd, Int.reduceToNat, Int.reduceLT, Int.reduceLE, Nat.reduceAdd, Nat.reduceMul, Nat.reduceLeDiff, Int.reduceEq, Int.reduceSub, Int.cast_ofNat_Int, s_resc, s_consR, m_load4, m_store4, s_res0, ↓s_skip, ↓s_ops, ↓s_dops, ↓s_seq, ↓s_cond, ↓s_block, ↓s_exit, ↓s_ret, ↓s_scope, ↓s_nil, ↓s_op, ↓s_opg, ↓s_wanted', ↓s_wantV, s_wantV, s_wantV0, beq_true, beq_false, ↓s_bindS, s_bindS, ↓s_bindE, s_bindE, s_bindE_ret, s_bindE_exit, s_bindE_iteN, s_norm, ↓s_condV, s_condV, s_block_ret, s_block_normal, s_block_exit, s_block_iteN, ↓s_getp, ↓s_getp0, ↓s_get, s_get0, ↓s_con, ↓s_fn, ↓s_os0, ↓s_os1, ↓s_list0, ↓s_list1, ↓s_mov, ↓s_pick, ↓s_pickE, s_pickE, ↓s_bin, ↓s_un, ↓s_minmax, ↓s_call, ↓s_callv, ↓s_callV, ↓s_ext, s_same, b_eql, b_neq, b_lss, b_leq, b_gtr, b_geq, b_add, b_sub, b_mul, b_eqlb, b_neqb, b_fnil, b_fnil', b_fnil2, b_fnil2', u_neg, u_not, m_two, s_end, s_end', s_end_iteN, s_res0, s_res1, s_tup1, s_tup2, ↓iteN_true, ↓iteN_false, iteN_true, iteN_false, Nat.zero_add, List.nil_append, List.append_nil, Nat.reduceEqDiff, reduceIte, decide_true, decide_false, Bool.not_true, Bool.not_false, List.getElem?_cons_zero, List.getElem?_cons_succ, Bool.false_eq_true, if_true, if_false, beq_self_eq_true]
      rfl
    · simp (config := {maxSteps := 2000000}) (disch := first | omega | (simp only [List.length_cons, List.length_nil, List.length_append, List.length_drop]; omega)) only [ca, eA, gA, g1, r1, c0, c1, c2, ↓s_box, ↓b_xor32, ↓b_and32, ↓b_or32, ↓u_not32, b_xor32, b_and32, b_or32, u_not32, w32ad, ↓x_conv, x_convV, ↓x_fieldAddr, x_fieldV, ↓s_nilchk, x_nilchk, Nat.zero_add, Nat.add_zero, Nat.mul_one, ↓l_loop, ↓l_succ, ↓l_normal, l_normal, l_exit, l_ret, l_iteN, ↓h_put_get, ↓h_new_get, ↓h_del_get, h_next_put, h_next_new, h_next_del, Nat.add_assoc, Nat.add_eq_left, Nat.left_eq_add, Nat.add_left_cancel_iff, ↓s_load, m_load, ↓m_load1, m_load1, ↓m_st, m_stE, m_storeI, m_storeE, w_zero, w_succ, ↓s_alloc, ↓x_idxA, ↓x_idxS, x_idxAE, x_idxSE, x_addrE, x_idx, x_lenS, ↓s_len, ↓x_buildS, x_buildE, ↓x_P0, ↓x_P1, x_fill0, x_filli, x_fills, x_fillb, c_int, List.length_cons, List.length_nil, List.cons_append, List.drop_succ_cons, List.drop_zero, List.drop_nil, List.nil_append, Int.reduceAdd, Int.reduceToNat, Int.reduceLT, Int.reduceLE, Nat.reduceAdd, Nat.reduceMul, Nat.reduceLeDiff, Int.reduceEq, Int.reduceSub, Int.cast_ofNat_Int, s_resc, s_consR, m_load4, m_store4, s_res0, ↓s_skip, ↓s_ops, ↓s_dops, ↓s_seq, ↓s_cond, ↓s_block, ↓s_exit, ↓s_ret, ↓s_scope, ↓s_nil, ↓s_op, ↓s_opg, ↓s_wanted', ↓s_wantV, s_wantV, s_wantV0, beq_true, beq_false, ↓s_bindS, s_bindS, ↓s_bindE, s_bindE, s_bindE_ret, s_bindE_exit, s_bindE_iteN, s_norm, ↓s_condV, s_condV, s_block_ret, s_block_normal, s_block_exit, s_block_iteN, ↓s_getp, ↓s_getp0, ↓s_get, s_get0, ↓s_con, ↓s_fn, ↓s_os0, ↓s_os1, ↓s_list0, ↓s_list1, ↓s_mov, ↓s_pick, ↓s_pickE, s_pickE, ↓s_bin, ↓s_un, ↓s_minmax, ↓s_call, ↓s_callv, ↓s_callV, ↓s_ext, s_same, b_eql, b_neq, b_lss, b_leq, b_gtr, b_geq, b_add, b_sub, b_mul, b_eqlb, b_neqb, b_fnil, b_fnil', b_fnil2, b_fnil2', u_neg, u_not, m_two, s_end, s_end', s_end_iteN, s_res0, s_res1, s_tup1, s_tup2, ↓iteN_true, ↓iteN_false, iteN_true, iteN_false, Nat.zero_add, List.nil_append, List.append_nil, Nat.reduceEqDiff, reduceIte, decide_true, decide_false, Bool.not_true, Bool.not_false, List.getElem?_cons_zero, List.getElem?_cons_succ, Bool.false_eq_true, if_true, if_false, beq_self_eq_true]
      rfl
  · have c0 : decide (kind = 0) = false := decide_eq_false k0
    rw [if_neg k0]
    by_cases k1 : kind = 1
    · subst k1
      rw [if_pos rfl]
      obtain ⟨h1, r1, q1, y1, _⟩ := eysiz_go ey xe K p l bl hl2 at_ a hA yA
      refine ⟨h1, ?_, kA.q.trans q1, y1⟩
      have cc : decide ((1 : Int) = 1) = true := rfl
      have g1 : h1.get h.next = some (.cells [.int .i64 1, .int .i64 size, .int .u64 (n : Int), .slice b w.length none 1] .rw) := by rw [q1.2 _ nA hp, gA]
      generalize (eySiz l at_).1 = v at *
      generalize (eySiz l at_).2.1 = er at *
      have c1 : decide ((er : Int) = 0) = decide (er = 0) := by rw [decide_eq_decide]; omega
      have c2 : decide ((v : Int) = (n : Int)) = decide (v = n) := by rw [decide_eq_decide]; omega
      generalize decide (er = 0) = d1 at *
      generalize decide (v = n) = d2 at *
      cases d1
      · simp (config := {maxSteps := 2000000}) (disch := first | omega | (simp only [List.length_cons, List.length_nil, List.length_append, List.length_drop]; omega)) only [ca, eA, gA, g1, r1, c0, cc, c1, c2, ↓s_box, ↓b_xor32, ↓b_and32, ↓b_or32, ↓u_not32, b_xor32, b_and32, b_or32, u_not32, w32ad, ↓x_conv, x_convV, ↓x_fieldAddr, x_fieldV, ↓s_nilchk, x_nilchk, Nat.zero_add, Nat.add_zero, Nat.mul_one, ↓l_loop, ↓l_succ, ↓l_normal, l_normal, l_exit, l_ret, l_iteN, ↓h_put_get, ↓h_new_get, ↓h_del_get, h_next_put, h_next_new, h_next_del, Nat.add_assoc, Nat.add_eq_left, Nat.left_eq_add, Nat.add_left_cancel_iff, ↓s_load, m_load, ↓m_load1, m_load1, ↓m_st, m_stE, m_storeI, m_storeE, w_zero, w_succ, ↓s_alloc, ↓x_idxA, ↓x_idxS, x_idxAE, x_idxSE, x_addrE, x_idx, x_lenS, ↓s_len, ↓x_buildS, x_buildE, ↓x_P0, ↓x_P1, x_fill0, x_filli, x_fills, x_fillb, c_int, List.length_cons, List.length_nil, List.cons_append, List.drop_succ_cons, List.drop_zero, List.drop_nil, List.nil_append, Int.reduceAdd, Int.reduceToNat, Int.reduceLT, Int.reduceLE, Nat.reduceAdd, Nat.reduceMul, Nat.reduceLeDiff, Int.reduceEq, Int.reduceSub, Int.cast_ofNat_Int, s_resc, s_consR, m_load4, m_store4, s_res0, ↓s_skip, ↓s_ops, ↓s_dops, ↓s_seq, ↓s_cond, ↓s_block, ↓s_exit, ↓s_ret, ↓s_scope, ↓s_nil, ↓s_op, ↓s_opg, ↓s_wanted', ↓s_wantV, s_wantV, s_wantV0, beq_true, beq_false, ↓s_bindS, s_bindS, ↓s_bindE, s_bindE, s_bindE_ret, s_bindE_exit, s_bindE_iteN, s_norm, ↓s_condV, s_condV, s_block_ret, s_block_normal, s_block_exit, s_block_iteN, ↓s_getp, ↓s_getp0, ↓s_get, s_get0, ↓s_con, ↓s_fn, ↓s_os0, ↓s_os1, ↓s_list0, ↓s_list1, ↓s_mov, ↓s_pick, ↓s_pickE, s_pickE, ↓s_bin, ↓s_un, ↓s_minmax, ↓s_call, ↓s_callv, ↓s_callV, ↓s_ext, s_same, b_eql, b_neq, b_lss, b_leq, b_gtr, b_geq, b_add, b_sub, b_mul, b_eqlb, b_neqb, b_fnil, b_fnil', b_fnil2, b_fnil2', u_neg, u_not, m_two, s_end, s_end', s_end_iteN, s_res0, s_res1, s_tup1, s_tup2, ↓iteN_true, ↓iteN_false, iteN_true, iteN_false, Nat.zero_add, List.nil_append, List.append_nil, Nat.reduceEqDiff, reduceIte, decide_true, decide_false, Bool.not_true, Bool.not_false, List.getElem?_cons_zero, List.getElem?_cons_succ, Bool.false_eq_true, if_true, if_false, beq_self_eq_true]
        rfl
      · simp (config := {maxSteps := 2000000}) (disch := first | omega | (simp only [List.length_cons, List.length_nil, List.length_append, List.length_drop]; omega)) only [ca, eA, gA, g1, r1, c0, cc, c1, c2, ↓s_box, ↓b_xor32, ↓b_and32, ↓b_or32, ↓u_not32, b_xor32, b_and32, b_or32, u_not32, w32ad, ↓x_conv, x_convV, ↓x_fieldAddr, x_fieldV, ↓s_nilchk, x_nilchk, Nat.zero_add, Nat.add_zero, Nat.mul_one, ↓l_loop, ↓l_succ, ↓l_normal, l_normal, l_exit, l_ret, l_iteN, ↓h_put_get, ↓h_new_get, ↓h_del_get, h_next_put, h_next_new, h_next_del, Nat.add_assoc, Nat.add_eq_left, Nat.left_eq_add, Nat.add_left_cancel_iff, ↓s_load, m_load, ↓m_load1, m_load1, ↓m_st, m_stE, m_storeI, m_storeE, w_zero, w_succ, ↓s_alloc, ↓x_idxA, ↓x_idxS, x_idxAE, x_idxSE, x_addrE, x_idx, x_lenS, ↓s_len, ↓x_buildS, x_buildE, ↓x_P0, ↓x_P1, x_fill0, x_filli, x_fills, x_fillb, c_int, List.length_cons, List.length_nil, List.cons_append, List.drop_succ_cons, List.drop_zero, List.drop_nil, List.nil_append, Int.reduceAdd, Int.reduceToNat, Int.reduceLT, Int.reduceLE, Nat.reduceAdd, Nat.reduceMul, Nat.reduceLeDiff, Int.reduceEq, Int.reduceSub, Int.cast_ofNat_Int, s_resc, s_consR, m_load4, m_store4, s_res0, ↓s_skip, ↓s_ops, ↓s_dops, ↓s_seq, ↓s_cond, ↓s_block, ↓s_exit, ↓s_ret, ↓s_scope, ↓s_nil, ↓s_op, ↓s_opg, ↓s_wanted', ↓s_wantV, s_wantV, s_wantV0, beq_true, beq_false, ↓s_bindS, s_bindS, ↓s_bindE, s_bindE, s_bindE_ret, s_bindE_exit, s_bindE_iteN, s_norm, ↓s_condV, s_condV, s_block_ret, s_block_normal, s_block_exit, s_block_iteN, ↓s_getp, ↓s_getp0, ↓s_get, s_get0, ↓s_con, ↓s_fn, ↓s_os0, ↓s_os1, ↓s_list0, ↓s_list1, ↓s_mov, ↓s_pick, ↓s_pickE, s_pickE, ↓s_bin, ↓s_un, ↓s_minmax, ↓s_call, ↓s_callv, ↓s_callV, ↓s_ext, s_same, b_eql, b_neq, b_lss, b_leq, b_gtr, b_geq, b_add, b_sub, b_mul, b_eqlb, b_neqb, b_fnil, b_fnil', b_fnil2, b_fnil2', u_neg, u_not, m_two, s_end, s_end', s_end_iteN, s_res0, s_res1, s_tup1, s_tup2, ↓iteN_true, ↓iteN_false, iteN_true, iteN_false, Nat.zero_add, List.nil_append, List.append_nil, Nat.reduceEqDiff, reduceIte, decide_true, decide_false, Bool.not_true, Bool.not_false, List.getElem?_cons_zero, List.getElem?_cons_succ, Bool.false_eq_true, if_true, if_false, beq_self_eq_true]
        rfl
    · have ck1 : decide (kind = 1) = false := decide_eq_false k1
      rw [if_neg k1]
      by_cases k2 : kind = 2
      · subst k2
        rw [if_pos rfl]
        obtain ⟨h1, ax, cx, ex, r1, nq, y1⟩ := eybyt_go ey xe K p (w.length : Int) (by omega) l bl hl2 at_ a hA yA
        refine ⟨h1, ?_, kA.q.trans nq.kq, y1⟩
        have cc : decide ((2 : Int) = 2) = true := rfl
        have s1 := str_src nq.wb.src (byt_eyByt _ l bl at_) cx
        have s2 := str_src (sq h1 nq.kq) bw none
        generalize (eyByt (w.length : Int) l at_).1 = v at *
        generalize (eyByt (w.length : Int) l at_).2.1 = er at *
        have g1 : h1.get h.next = some (.cells [.int .i64 2, .int .i64 size, .int .u64 (n : Int), .slice b w.length none 1] .rw) := by rw [nq.kq.2 _ nA hp, gA]
        have c1 : decide ((er : Int) = 0) = decide (er = 0) := by rw [decide_eq_decide]; omega
        generalize decide (er = 0) = d1 at *
        generalize e2 : decide (v = w) = d2 at *
        obtain ⟨m, em⟩ : ∃ m, w.length = m := ⟨_, rfl⟩
        rw [em] at eA gA g1 r1 s2 ⊢
        cases d1
        · simp (config := {maxSteps := 2000000}) (disch := first | omega | (simp only [List.length_cons, List.length_nil, List.length_append, List.length_drop]; omega)) only [ca, eA, gA, g1, r1, c0, cc, ck1, c1, s1, s2, e2, b_seq, ↓ns_b2s, ↓s_box, ↓s_len, x_lenS, ↓b_xor32, ↓b_and32, ↓b_or32, ↓u_not32, b_xor32, b_and32, b_or32, u_not32, w32ad, ↓x_conv, x_convV, ↓x_fieldAddr, x_fieldV, ↓s_nilchk, x_nilchk, Nat.zero_add, Nat.add_zero, Nat.mul_one, ↓l_loop, ↓l_succ, ↓l_normal, l_normal, l_exit, l_ret, l_iteN, ↓h_put_get, ↓h_new_get, ↓h_del_get, h_next_put, h_next_new, h_next_del, Nat.add_assoc, Nat.add_eq_left, Nat.left_eq_add, Nat.add_left_cancel_iff, ↓s_load, m_load, ↓m_load1, m_load1, ↓m_st, m_stE, m_storeI, m_storeE, w_zero, w_succ, ↓s_alloc, ↓x_idxA, ↓x_idxS, x_idxAE, x_idxSE, x_addrE, x_idx, x_lenS, ↓s_len, ↓x_buildS, x_buildE, ↓x_P0, ↓x_P1, x_fill0, x_filli, x_fills, x_fillb, c_int, List.length_cons, List.length_nil, List.cons_append, List.drop_succ_cons, List.drop_zero, List.drop_nil, List.nil_append, Int.reduceAdd, Int.reduceToNat, Int.reduceLT, Int.reduceLE, Nat.reduceAdd, Nat.reduceMul, Nat.reduceLeDiff, Int.reduceEq, Int.reduceSub, Int.cast_ofNat_Int, s_resc, s_consR, m_load4, m_store4, s_res0, ↓s_skip, ↓s_ops, ↓s_dops, ↓s_seq, ↓s_cond, ↓s_block, ↓s_exit, ↓s_ret, ↓s_scope, ↓s_nil, ↓s_op, ↓s_opg, ↓s_wanted', ↓s_wantV, s_wantV, s_wantV0, beq_true, beq_false, ↓s_bindS, s_bindS, ↓s_bindE, s_bindE, s_bindE_ret, s_bindE_exit, s_bindE_iteN, s_norm, ↓s_condV, s_condV, s_block_ret, s_block_normal, s_block_exit, s_block_iteN, ↓s_getp, ↓s_getp0, ↓s_get, s_get0, ↓s_con, ↓s_fn, ↓s_os0, ↓s_os1, ↓s_list0, ↓s_list1, ↓s_mov, ↓s_pick, ↓s_pickE, s_pickE, ↓s_bin, ↓s_un, ↓s_minmax, ↓s_call, ↓s_callv, ↓s_callV, ↓s_ext, s_same, b_eql, b_neq, b_lss, b_leq, b_gtr, b_geq, b_add, b_sub, b_mul, b_eqlb, b_neqb, b_fnil, b_fnil', b_fnil2, b_fnil2', u_neg, u_not, m_two, s_end, s_end', s_end_iteN, s_res0, s_res1, s_tup1, s_tup2, ↓iteN_true, ↓iteN_false, iteN_true, iteN_false, Nat.zero_add, List.nil_append, List.append_nil, Nat.reduceEqDiff, reduceIte, decide_true, decide_false, Bool.not_true, Bool.not_false, List.getElem?_cons_zero, List.getElem?_cons_succ, Bool.false_eq_true, if_true, if_false, beq_self_eq_true]
          rfl
        · simp (config := {maxSteps := 2000000}) (disch := first | omega | (simp only [List.length_cons, List.length_nil, List.length_append, List.length_drop]; omega)) only [ca, eA, gA, g1, r1, c0, cc, ck1, c1, s1, s2, e2, b_seq, ↓ns_b2s, ↓s_box, ↓s_len, x_lenS, ↓b_xor32, ↓b_and32, ↓b_or32, ↓u_not32, b_xor32, b_and32, b_or32, u_not32, w32ad, ↓x_conv, x_convV, ↓x_fieldAddr, x_fieldV, ↓s_nilchk, x_nilchk, Nat.zero_add, Nat.add_zero, Nat.mul_one, ↓l_loop, ↓l_succ, ↓l_normal, l_normal, l_exit, l_ret, l_iteN, ↓h_put_get, ↓h_new_get, ↓h_del_get, h_next_put, h_next_new, h_next_del, Nat.add_assoc, Nat.add_eq_left, Nat.left_eq_add, Nat.add_left_cancel_iff, ↓s_load, m_load, ↓m_load1, m_load1, ↓m_st, m_stE, m_storeI, m_storeE, w_zero, w_succ, ↓s_alloc, ↓x_idxA, ↓x_idxS, x_idxAE, x_idxSE, x_addrE, x_idx, x_lenS, ↓s_len, ↓x_buildS, x_buildE, ↓x_P0, ↓x_P1, x_fill0, x_filli, x_fills, x_fillb, c_int, List.length_cons, List.length_nil, List.cons_append, List.drop_succ_cons, List.drop_zero, List.drop_nil, List.nil_append, Int.reduceAdd, Int.reduceToNat, Int.reduceLT, Int.reduceLE, Nat.reduceAdd, Nat.reduceMul, Nat.reduceLeDiff, Int.reduceEq, Int.reduceSub, Int.cast_ofNat_Int, s_resc, s_consR, m_load4, m_store4, s_res0, ↓s_skip, ↓s_ops, ↓s_dops, ↓s_seq, ↓s_cond, ↓s_block, ↓s_exit, ↓s_ret, ↓s_scope, ↓s_nil, ↓s_op, ↓s_opg, ↓s_wanted', ↓s_wantV, s_wantV, s_wantV0, beq_true, beq_false, ↓s_bindS, s_bindS, ↓s_bindE, s_bindE, s_bindE_ret, s_bindE_exit, s_bindE_iteN, s_norm, ↓s_condV, s_condV, s_block_ret, s_block_normal, s_block_exit, s_block_iteN, ↓s_getp, ↓s_getp0, ↓s_get, s_get0, ↓s_con, ↓s_fn, ↓s_os0, ↓s_os1, ↓s_list0, ↓s_list1, ↓s_mov, ↓s_pick, ↓s_pickE, s_pickE, ↓s_bin, ↓s_un, ↓s_minmax, ↓s_call, ↓s_callv, ↓s_callV, ↓s_ext, s_same, b_eql, b_neq, b_lss, b_leq, b_gtr, b_geq, b_add, b_sub, b_mul, b_eqlb, b_neqb, b_fnil, b_fnil', b_fnil2, b_fnil2', u_neg, u_not, m_two, s_end, s_end', s_end_iteN, s_res0, s_res1, s_tup1, s_tup2, ↓iteN_true, ↓iteN_false, iteN_true, iteN_false, Nat.zero_add, List.nil_append, List.append_nil, Nat.reduceEqDiff, reduceIte, decide_true, decide_false, Bool.not_true, Bool.not_false, List.getElem?_cons_zero, List.getElem?_cons_succ, Bool.false_eq_true, if_true, if_false, beq_self_eq_true]
          rfl
      · have ck2 : decide (kind = 2) = false := decide_eq_false k2
        rw [if_neg k2]
        obtain ⟨h1, ax, cx, ex, r1, nq, y1⟩ := eyraw_go ey xe (K + 14) p (w.length : Int) l hl2 at_ a hA yA
        refine ⟨h1, ?_, kA.q.trans nq.kq, y1⟩
        have s1 := str_src nq.wb.src (byt_eyRaw _ l bl at_) cx
        have s2 := str_src (sq h1 nq.kq) bw none
        generalize (eyRaw (w.length : Int) l at_).1 = v at *
        generalize (eyRaw (w.length : Int) l at_).2.1 = er at *
        have g1 : h1.get h.next = some (.cells [.int .i64 kind, .int .i64 size, .int .u64 (n : Int), .slice b w.length none 1] .rw) := by rw [nq.kq.2 _ nA hp, gA]
        have c1 : decide ((er : Int) = 0) = decide (er = 0) := by rw [decide_eq_decide]; omega
        generalize decide (er = 0) = d1 at *
        generalize e2 : decide (v = w) = d2 at *
        obtain ⟨m, em⟩ : ∃ m, w.length = m := ⟨_, rfl⟩
        rw [em] at eA gA g1 r1 s2 ⊢
        replace r1 : callX E X (K + 17) (.fn k_octet_Eye_Raw) [.ptr (some (p, 0)), .int .i64 (m : Int)] hA = some (.tup [.slice ax v.length cx ex, .int .i64 (er : Int)], h1) := r1
        cases d1
        · simp (config := {maxSteps := 2000000}) (disch := first | omega | (simp only [List.length_cons, List.length_nil, List.length_append, List.length_drop]; omega)) only [ca, eA, gA, g1, r1, c0, ck1, ck2, c1, s1, s2, e2, b_seq, ↓ns_b2s, ↓s_box, ↓s_len, x_lenS, ↓b_xor32, ↓b_and32, ↓b_or32, ↓u_not32, b_xor32, b_and32, b_or32, u_not32, w32ad, ↓x_conv, x_convV, ↓x_fieldAddr, x_fieldV, ↓s_nilchk, x_nilchk, Nat.zero_add, Nat.add_zero, Nat.mul_one, ↓l_loop, ↓l_succ, ↓l_normal, l_normal, l_exit, l_ret, l_iteN, ↓h_put_get, ↓h_new_get, ↓h_del_get, h_next_put, h_next_new, h_next_del, Nat.add_assoc, Nat.add_eq_left, Nat.left_eq_add, Nat.add_left_cancel_iff, ↓s_load, m_load, ↓m_load1, m_load1, ↓m_st, m_stE, m_storeI, m_storeE, w_zero, w_succ, ↓s_alloc, ↓x_idxA, ↓x_idxS, x_idxAE, x_idxSE, x_addrE, x_idx, x_lenS, ↓s_len, ↓x_buildS, x_buildE, ↓x_P0, ↓x_P1, x_fill0, x_filli, x_fills, x_fillb, c_int, List.length_cons, List.length_nil, List.cons_append, List.drop_succ_cons, List.drop_zero, List.drop_nil, List.nil_append, Int.reduceAdd, Int.reduceToNat, Int.reduceLT, Int.reduceLE, Nat.reduceAdd, Nat.reduceMul, Nat.reduceLeDiff, Int.reduceEq, Int.reduceSub, Int.cast_ofNat_Int, s_resc, s_consR, m_load4, m_store4, s_res0, ↓s_skip, ↓s_ops, ↓s_dops, ↓s_seq, ↓s_cond, ↓s_block, ↓s_exit, ↓s_ret, ↓s_scope, ↓s_nil, ↓s_op, ↓s_opg, ↓s_wanted', ↓s_wantV, s_wantV, s_wantV0, beq_true, beq_false, ↓s_bindS, s_bindS, ↓s_bindE, s_bindE, s_bindE_ret, s_bindE_exit, s_bindE_iteN, s_norm, ↓s_condV, s_condV, s_block_ret, s_block_normal, s_block_exit, s_block_iteN, ↓s_getp, ↓s_getp0, ↓s_get, s_get0, ↓s_con, ↓s_fn, ↓s_os0, ↓s_os1, ↓s_list0, ↓s_list1, ↓s_mov, ↓s_pick, ↓s_pickE, s_pickE, ↓s_bin, ↓s_un, ↓s_minmax, ↓s_call, ↓s_callv, ↓s_callV, ↓s_ext, s_same, b_eql, b_neq, b_lss, b_leq, b_gtr, b_geq, b_add, b_sub, b_mul, b_eqlb, b_neqb, b_fnil, b_fnil', b_fnil2, b_fnil2', u_neg, u_not, m_two, s_end, s_end', s_end_iteN, s_res0, s_res1, s_tup1, s_tup2, ↓iteN_true, ↓iteN_false, iteN_true, iteN_false, Nat.zero_add, List.nil_append, List.append_nil, Nat.reduceEqDiff, reduceIte, decide_true, decide_false, Bool.not_true, Bool.not_false, List.getElem?_cons_zero, List.getElem?_cons_succ, Bool.false_eq_true, if_true, if_false, beq_self_eq_true]
          rfl
        · simp (config := {maxSteps := 2000000}) (disch := first | omega | (simp only [List.length_cons, List.length_nil, List.length_append, List.length_drop]; omega)) only [ca, eA, gA, g1, r1, c0, ck1, ck2, c1, s1, s2, e2, b_seq, ↓ns_b2s, ↓s_box, ↓s_len, x_lenS, ↓b_xor32, ↓b_and32, ↓b_or32, ↓u_not32, b_xor32, b_and32, b_or32, u_not32, w32ad, ↓x_conv, x_convV, ↓x_fieldAddr, x_fieldV, ↓s_nilchk, x_nilchk, Nat.zero_add, Nat.add_zero, Nat.mul_one, ↓l_loop, ↓l_succ, ↓l_normal, l_normal, l_exit, l_ret, l_iteN, ↓h_put_get, ↓h_new_get, ↓h_del_get, h_next_put, h_next_new, h_next_del, Nat.add_assoc, Nat.add_eq_left, Nat.left_eq_add, Nat.add_left_cancel_iff, ↓s_load, m_load, ↓m_load1, m_load1, ↓m_st, m_stE, m_storeI, m_storeE, w_zero, w_succ, ↓s_alloc, ↓x_idxA, ↓x_idxS, x_idxAE, x_idxSE, x_addrE, x_idx, x_lenS, ↓s_len, ↓x_buildS, x_buildE, ↓x_P0, ↓x_P1, x_fill0, x_filli, x_fills, x_fillb, c_int, List.length_cons, List.length_nil, List.cons_append, List.drop_succ_cons, List.drop_zero, List.drop_nil, List.nil_append, Int.reduceAdd, Int.reduceToNat, Int.reduceLT, Int.reduceLE, Nat.reduceAdd, Nat.reduceMul, Nat.reduceLeDiff, Int.reduceEq, Int.reduceSub, Int.cast_ofNat_Int, s_resc, s_consR, m_load4, m_store4, s_res0, ↓s_skip, ↓s_ops, ↓s_dops, ↓s_seq, ↓s_cond, ↓s_block, ↓s_exit, ↓s_ret, ↓s_scope, ↓s_nil, ↓s_op, ↓s_opg, ↓s_wanted', ↓s_wantV, s_wantV, s_wantV0, beq_true, beq_false, ↓s_bindS, s_bindS, ↓s_bindE, s_bindE, s_bindE_ret, s_bindE_exit, s_bindE_iteN, s_norm, ↓s_condV, s_condV, s_block_ret, s_block_normal, s_block_exit, s_block_iteN, ↓s_getp, ↓s_getp0, ↓s_get, s_get0, ↓s_con, ↓s_fn, ↓s_os0, ↓s_os1, ↓s_list0, ↓s_list1, ↓s_mov, ↓s_pick, ↓s_pickE, s_pickE, ↓s_bin, ↓s_un, ↓s_minmax, ↓s_call, ↓s_callv, ↓s_callV, ↓s_ext, s_same, b_eql, b_neq, b_lss, b_leq, b_gtr, b_geq, b_add, b_sub, b_mul, b_eqlb, b_neqb, b_fnil, b_fnil', b_fnil2, b_fnil2', u_neg, u_not, m_two, s_end, s_end', s_end_iteN, s_res0, s_res1, s_tup1, s_tup2, ↓iteN_true, ↓iteN_false, iteN_true, iteN_false, Nat.zero_add, List.nil_append, List.append_nil, Nat.reduceEqDiff, reduceIte, decide_true, decide_false, Bool.not_true, Bool.not_false, List.getElem?_cons_zero, List.getElem?_cons_succ, Bool.false_eq_true, if_true, if_false, beq_self_eq_true]
          rfl
end Go.Eng
namespace Go.Eng
open Go
variable {E : Nat → Option Fn} {X : Orc}
set_option linter.unusedSimpArgs false
set_option linter.unusedVariables false
theorem wid_pow (n k : Nat) (hn : n < 18446744073709551616) (hk : k = 1 ∨ k = 2 ∨ k = 4 ∨ k = 8) : widV n ≤ k ↔ n < 256 ^ k := by
  unfold widV
  rcases hk with rfl | rfl | rfl | rfl
  · show _ ↔ n < 256
    (repeat' split) <;> omega
  · show _ ↔ n < 65536
    (repeat' split) <;> omega
  · show _ ↔ n < 4294967296
    (repeat' split) <;> omega
  · show _ ↔ n < 18446744073709551616
    (repeat' split) <;> omega
theorem fix_ok (s : Int) (n : Nat) (hn : n < 18446744073709551616) (h : fixE s n = 0) : ∃ k : Nat, s = (k : Int) ∧ sizedI s = true ∧ n < 256 ^ k ∧ fixB s n = leN k n ∧ k ≤ 8 := by
  have h0 := h
  unfold fixE at h
  cases hs : sizedI s with
  | false => rw [hs, if_neg (by simp)] at h; cases h
  | true =>
    rw [hs, if_pos rfl] at h
    obtain ⟨k, rfl, k0, k8, kk⟩ := sizedI_nat hs
    by_cases hw : (widV n : Int) ≤ (k : Int)
    · refine ⟨k, rfl, rfl, (wid_pow n k hn kk).1 (by omega), ?_, k8⟩
      unfold fixB
      rw [if_pos h0, Int.toNat_natCast]
    · rw [if_neg hw] at h; cases h
theorem take_at (l : List Nat) (at_ : Nat) (w r : List Nat) (h : l.drop at_ = w ++ r) : (l.drop at_).take w.length = w ∧ at_ + w.length ≤ l.length ∨ w = [] := by
  by_cases hw : w = []
  · exact .inr hw
  · left
    refine ⟨by rw [h, List.take_left' rfl], ?_⟩
    have := congrArg List.length h
    rw [List.length_drop, List.length_append] at this
    have : 0 < w.length := List.length_pos_iff.2 hw
    omega
theorem drop_len (l : List Nat) (at_ : Nat) (hat : at_ ≤ l.length) (w r : List Nat) (h : l.drop at_ = w ++ r) : at_ + w.length ≤ l.length := by
  have := congrArg List.length h
  rw [List.length_drop, List.length_append] at this
  omega
/-- what was written is read as it was -/
theorem opG_ok (o : OpP) (ok : o.ok) (hl : o.l.length ≤ 100000) (ho : opOk o = true) (l : List Nat) (at_ : Nat) (hat : at_ ≤ l.length) (r : List Nat) (h : l.drop at_ = opB o ++ r) : opG o l at_ = (true, at_ + (opB o).length) := by
  have dl := drop_len l at_ hat _ _ h
  unfold opG
  unfold opOk at ho
  unfold opB at h dl ⊢
  by_cases k0 : o.kind = 0
  · rw [if_pos k0] at ho h dl ⊢
    rw [if_pos k0]
    obtain ⟨k, e1, e2, e3, e4, e5⟩ := fix_ok _ _ ok.nl (of_decide_eq_true ho)
    rw [e4] at h dl ⊢
    rw [leN_len] at dl ⊢
    have : eyFix o.size l at_ = (o.n, 0, at_ + k) := by
      unfold eyFix
      rw [if_pos e2, e1, Int.toNat_natCast, if_pos dl, h, List.take_left' (leN_len _ _), numV_leN _ _ e3]
    rw [this]; simp
  · rw [if_neg k0] at h dl ⊢
    rw [if_neg k0]
    by_cases k1 : o.kind = 1
    · rw [if_pos k1] at h dl ⊢
      rw [if_pos k1]
      have : eySiz l at_ = (o.n, 0, at_ + cplV o.n) := by
        unfold eySiz; rw [h, siz_com _ ok.nl]
      rw [this, sizV_len]; simp
    · rw [if_neg k1] at h dl ⊢
      rw [if_neg k1]
      by_cases k2 : o.kind = 2
      · rw [if_pos k2] at h dl ⊢
        rw [if_pos k2]
        have : eyByt (o.l.length : Int) l at_ = (o.l, 0, at_ + cplV o.l.length + o.l.length) := by
          unfold eyByt
          rw [h, List.append_assoc, siz_com _ (by omega)]
          rw [List.length_append, sizV_len] at dl
          simp only
          rw [if_neg (by omega)]
          have e1 : l.drop (at_ + cplV o.l.length) = o.l ++ r := by
            rw [← List.drop_drop, h, List.append_assoc, List.drop_left' (sizV_len _)]
          rw [e1, List.take_left' rfl]
        rw [this, List.length_append, sizV_len]
        simp [Nat.add_assoc]
      · rw [if_neg k2] at h dl ⊢
        rw [if_neg k2]
        have : eyRaw (o.l.length : Int) l at_ = (o.l, 0, at_ + o.l.length) := by
          unfold eyRaw
          rw [if_neg (by omega), Int.toNat_natCast, if_pos dl, h, List.take_left' rfl]
        rw [this]; simp
/-- what is read right has the bytes that were written -/
theorem opG_len (o : OpP) (ok : o.ok) (ho : opOk o = true) (l : List Nat) (bl : byt l = true) (at_ : Nat) (h : (opG o l at_).1 = true) : (opG o l at_).2 = at_ + (opB o).length := by
  unfold opG at h ⊢
  unfold opOk at ho
  unfold opB
  by_cases k0 : o.kind = 0
  · rw [if_pos k0] at ho h ⊢
    rw [if_pos k0]
    obtain ⟨k, e1, e2, e3, e4, e5⟩ := fix_ok _ _ ok.nl (of_decide_eq_true ho)
    simp only [Bool.and_eq_true, decide_eq_true_eq] at h
    rw [e4, leN_len]
    unfold eyFix at h ⊢
    rw [if_pos e2, e1, Int.toNat_natCast] at h ⊢
    by_cases hh : at_ + k ≤ l.length
    · rw [if_pos hh]
    · rw [if_neg hh] at h; cases h.1
  · rw [if_neg k0] at h ⊢
    rw [if_neg k0]
    by_cases k1 : o.kind = 1
    · rw [if_pos k1] at h ⊢
      rw [if_pos k1]
      simp only [Bool.and_eq_true, decide_eq_true_eq] at h
      unfold eySiz at h ⊢
      cases hc : comV (l.drop at_) with
      | none => rw [hc] at h; cases h.1
      | some z =>
        obtain ⟨n, u⟩ := z
        rw [hc] at h
        obtain ⟨_, e, _, _⟩ := com_siz _ (byt_drop bl _) n u hc
        show at_ + u = _
        have : n = o.n := h.2
        rw [sizV_len, e, this]
    · rw [if_neg k1] at h ⊢
      rw [if_neg k1]
      by_cases k2 : o.kind = 2
      · rw [if_pos k2] at h ⊢
        rw [if_pos k2]
        simp only [Bool.and_eq_true, decide_eq_true_eq] at h
        unfold eyByt at h ⊢
        cases hc : comV (l.drop at_) with
        | none => rw [hc] at h; cases h.1
        | some z =>
          obtain ⟨n, u⟩ := z
          rw [hc] at h
          obtain ⟨_, e, hu, _⟩ := com_siz _ (byt_drop bl _) n u hc
          simp only at h ⊢
          by_cases c : (o.l.length : Int) < 0 ∨ (o.l.length : Int) < (n : Int) ∨ l.length - at_ - u < n
          · rw [if_pos c] at h; cases h.1
          · rw [if_neg c] at h ⊢
            have e2 : ((l.drop (at_ + u)).take n).length = o.l.length := congrArg List.length h.2
            have ln : ((l.drop (at_ + u)).take n).length = n := by rw [List.length_take, List.length_drop]; rw [List.length_drop] at hu; omega
            have : n = o.l.length := by rw [← ln, e2]
            rw [List.length_append, sizV_len, ← this, ← e]
            show at_ + u + n = at_ + (u + n)
            omega
      · rw [if_neg k2] at h ⊢
        rw [if_neg k2]
        simp only [Bool.and_eq_true, decide_eq_true_eq] at h
        unfold eyRaw at h ⊢
        rw [if_neg (by omega), Int.toNat_natCast] at h ⊢
        by_cases hh : at_ + o.l.length ≤ l.length
        · rw [if_pos hh]
        · rw [if_neg hh] at h; cases h.1
theorem opB_le (o : OpP) : (opB o).length ≤ 9 + o.l.length := by
  unfold opB
  split
  · unfold fixB
    split
    · rw [leN_len]
      rename_i h
      unfold fixE at h
      cases hs : sizedI o.size with
      | false => rw [hs, if_neg (by simp)] at h; cases h
      | true => obtain ⟨k, e, _, _, _⟩ := sizedI_nat hs; rw [e, Int.toNat_natCast]; omega
    · simp
  · split
    · have := sizV_le o.n; omega
    · split
      · rw [List.length_append]; have := sizV_le o.l.length; omega
      · omega
theorem opB_byt (o : OpP) (ok : o.ok) : byt (opB o) = true := by
  unfold opB
  split
  · unfold fixB
    split
    · exact leN_byt _ _
    · rfl
  · split
    · exact sizV_byt _
    · split
      · exact byt_app (sizV_byt _) ok.bl
      · exact ok.bl
/-- all that calls write -/
def wA (ops : List OpP) : List Nat := (ops.map opB).flatten
theorem wA_app (a b : List OpP) : wA (a ++ b) = wA a ++ wA b := by unfold wA; rw [List.map_append, List.flatten_append]
theorem wA_one (o : OpP) : wA [o] = opB o := by unfold wA; simp
theorem wA_le (ops : List OpP) : (wA ops).length ≤ 9 * ops.length + gs ops := by
  induction ops with
  | nil => simp [wA, gs]
  | cons o r ih =>
    have : wA (o :: r) = opB o ++ wA r := rfl
    rw [this, List.length_append]
    have := opB_le o
    simp only [gs, List.length_cons]; omega
theorem wA_byt (ops : List OpP) (h : ∀ o ∈ ops, o.ok) : byt (wA ops) = true := by
  induction ops with
  | nil => rfl
  | cons o r ih => exact byt_app (opB_byt o (h o (List.mem_cons_self ..))) (ih (fun x hx => h x (List.mem_cons_of_mem _ hx)))
theorem gs_filter (p : OpP → Bool) (ops : List OpP) : gs (ops.filter p) ≤ gs ops := by
  induction ops with
  | nil => simp [gs]
  | cons o r ih =>
    rw [List.filter_cons]
    split
    · simp only [gs]; omega
    · simp only [gs]; omega
theorem gs_take_le (ops : List OpP) (i : Nat) : gs (ops.take i) ≤ gs ops := by
  induction ops generalizing i with
  | nil => simp [gs]
  | cons o r ih =>
    cases i with
    | zero => simp [gs]
    | succ i => rw [List.take_succ_cons]; simp only [gs]; have := ih i; omega
/-- the row of calls that were done -/
def DoneH (hin h : H) (lo : Nat) (dn : List OpP) (ad : Option (Nat × Nat)) (c : Option Nat) (e : Nat) : Prop := (dn = [] ∧ ad = none ∧ c = some 0 ∧ e = 0) ∨ (0 < dn.length ∧ ∃ q md parts, ad = some (q, 0) ∧ c = none ∧ e = 4 ∧ h.get q = some (.cells parts.flatten md) ∧ Al2 (OpAt hin) dn parts ∧ isRo md = false ∧ q < h.next ∧ lo < q)
theorem DoneH.mono {hin h h' : H} {lo : Nat} {dn : List OpP} {ad : Option (Nat × Nat)} {c : Option Nat} {e : Nat} (d : DoneH hin h lo dn ad c e) (hn : h.next ≤ h'.next) (k : ∀ q, q < h.next → lo < q → ad = some (q, 0) → h'.get q = h.get q) : DoneH hin h' lo dn ad c e := by
  rcases d with d | ⟨h1, q, md, ps, e1, e2, e3, g, al, hm, hq, hl⟩
  · exact .inl d
  · exact .inr ⟨h1, q, md, ps, e1, e2, e3, by rw [k _ hq hl e1, g], al, hm, Nat.lt_of_lt_of_le hq hn, hl⟩
theorem ap_done (hin h : H) (lo : Nat) (hlo : lo < h.next) (dn : List OpP) (hd : dn.length ≤ 100) (ad : Option (Nat × Nat)) (c : Option Nat) (e : Nat) (d : DoneH hin h lo dn ad c e) (o : OpP) (b : Option (Nat × Nat)) (ob : OpAt hin o (opC o b)) :
    ∃ h', appendC h 4 48 (.slice ad dn.length c e) (some (1, opC o b)) = some (.slice (some (h.next, 0)) (dn.length + 1) none 4, h') ∧ DoneH hin h' lo (dn ++ [o]) (some (h.next, 0)) none 4 ∧ h'.next = h.next + 1 ∧ ∀ i, i < h.next → ad ≠ some (i, 0) → h'.get i = h.get i := by
  have pl : (opC o b).all plainV = true := rfl
  rcases d with ⟨rfl, rfl, rfl, rfl⟩ | ⟨h1, q, md, ps, rfl, rfl, rfl, g, al, hm, hq, hl⟩
  · refine ⟨h.new (.cells (opC o b) .rw), ?_, .inr ⟨by simp, h.next, .rw, [opC o b], rfl, rfl, rfl, by rw [h_new_same]; simp, .cons ob .nil, rfl, Nat.lt_succ_self _, hlo⟩, rfl, fun i hi _ => h_new_ne _ _ (by omega)⟩
    unfold appendC
    simp only [List.length_nil]
    rw [pl]; rfl
  · have lp : ps.flatten.length = dn.length * 4 := by rw [flat_len (al_len al), al.len]
    have al2 : Al2 (OpAt hin) (dn ++ [o]) (ps ++ [opC o b]) := by
      clear g lp h1 hd
      induction al with
      | nil => exact .cons ob .nil
      | cons h1 _ ih => exact .cons h1 ih
    refine ⟨(h.del q).new (.cells (ps.flatten ++ opC o b) .sh), ?_, .inr ⟨by simp, h.next, .sh, ps ++ [opC o b], rfl, rfl, rfl, by rw [h_new_same' _ _ (by rw [h_next_del])]; simp, al2, rfl, by simp only [h_next_new, h_next_del]; omega, hlo⟩, by simp only [h_next_new, h_next_del], fun i hi hne => ?_⟩
    · unfold appendC
      simp only
      have r : (roomy (dn.length + 1) 48 && (Nat.beq 4 4 || (some (q, 0) : Option (Nat × Nat)).isNone) && (opC o b).all plainV) = true := by
        rw [pl]; have : roomy (dn.length + 1) 48 = true := by simp [roomy]; omega
        rw [this]; rfl
      have f : fullC none (dn.length + 1) = false := rfl
      have rd := readN_of ps.flatten 0 (dn.length * 4) (by omega)
      rw [List.drop_zero, List.take_of_length_le (by omega)] at rd
      rw [r]
      simp only [_root_.cond_true, g, f]
      cases md with
      | ro => cases hm
      | rw => simp only [rd]
      | sh => simp only [rd]
    · rw [h_new_ne _ _ (by rw [h_next_del]; omega), h_del_ne _ (fun e => hne (by rw [e]))]
/-- a call of those that were done -/
theorem DoneH.at {hin h : H} {lo : Nat} {dn : List OpP} {ad : Option (Nat × Nat)} {c : Option Nat} {e : Nat} (d : DoneH hin h lo dn ad c e) (i : Nat) (o : OpP) (ho : dn[i]? = some o) : ∃ k md vs b, ad = some (k, 0) ∧ c = none ∧ e = 4 ∧ k < h.next ∧ lo < k ∧ h.get k = some (.cells vs md) ∧ vs.length = dn.length * 4 ∧ (vs.drop (i * 4)).take 4 = opC o b ∧ SrcH hin b 1 o.l := by
  rcases d with ⟨rfl, _⟩ | ⟨h1, q, md, ps, e1, e2, e3, g, al, hm, hq, hl⟩
  · simp at ho
  · obtain ⟨p, hp, b, rfl, s⟩ := al.get i o ho
    exact ⟨q, md, _, b, e1, e2, e3, hq, hl, g, by rw [flat_len (al_len al), al.len], flat_get (al_len al) i _ hp, s⟩
end Go.Eng
namespace Go.Eng
open Go
variable {E : Nat → Option Fn} {X : Orc}
set_option linter.unusedSimpArgs false
set_option linter.unusedVariables false
theorem gs_mem (ops : List OpP) (o : OpP) (h : o ∈ ops) : o.l.length ≤ gs ops := by
  induction ops with
  | nil => cases h
  | cons a r ih =>
    simp only [gs]
    rcases List.mem_cons.1 h with rfl | h
    · omega
    · have := ih h; omega
def dnI (ops : List OpP) (i : Nat) : List OpP := (ops.take i).filter opOk
theorem dn_succ (ops : List OpP) (i : Nat) (o : OpP) (h : ops[i]? = some o) : dnI ops (i + 1) = dnI ops i ++ (if opOk o = true then [o] else []) := by
  unfold dnI
  rw [List.take_add_one, h, List.filter_append]
  show _ ++ List.filter opOk [o] = _
  rw [List.filter_cons]; rfl
theorem opB_no (o : OpP) (h : opOk o = false) : opB o = [] := by
  unfold opOk at h
  unfold opB
  by_cases k0 : o.kind = 0
  · rw [if_pos k0] at h ⊢
    unfold fixB
    rw [if_neg (of_decide_eq_false h)]
  · rw [if_neg k0] at h; cases h
theorem dn_len (ops : List OpP) (i : Nat) (h : ops.length ≤ 100) : (dnI ops i).length ≤ 100 := by
  unfold dnI
  exact Nat.le_trans (List.length_filter_le _ _) (by rw [List.length_take]; omega)
theorem dn_w (ops : List OpP) (i : Nat) (h : ops.length ≤ 100) (hg : gs ops ≤ 100000) : (wA (dnI ops i)).length ≤ 100900 := by
  have h1 := wA_le (dnI ops i)
  have h2 := dn_len ops i h
  have h3 := gs_filter opOk (ops.take i)
  have h4 := gs_take_le ops i
  unfold dnI at h1 h2 ⊢
  omega
theorem dn_mem {ops : List OpP} {i : Nat} {o : OpP} (h : o ∈ dnI ops i) : o ∈ ops ∧ opOk o = true := by
  unfold dnI at h
  obtain ⟨h1, h2⟩ := List.mem_filter.1 h
  exact ⟨List.mem_of_mem_take h1, h2⟩
structure OB0 (hin : H) (pn : Nat) (a : Option (Nat × Nat)) (ops : List OpP) (i : Nat) (T : Tr V) (h : H) : Prop where
  il : i ≤ ops.length
  t0 : evO T (.t 0) = .slice a ops.length none 4
  t3 : evO T (.t 3) = .bool true
  t4 : evO T (.t 4) = .ptr (some (pn, 0))
  t22 : evO T (.t 22) = .int .i64 (ops.length : Int)
  t23 : evO T (.t 23) = .int .i64 (i : Int)
  st : ∃ ap ad c e, evO T (.t 5) = .slice ad (dnI ops i).length c e ∧ PenH pn (wA (dnI ops i)) ap h ∧ DoneH hin h pn (dnI ops i) ad c e ∧ (∀ q o, ap = some (q, o) → pn < q) ∧ ∀ q, ad = some (q, 0) → ap ≠ some (q, 0)
  kp : Kp hin h
structure EnOb (E : Nat → Option Fn) : Prop where
  ep : EnPen E
  ey : EnEye E
  lk : E k_octet_Look = some f_octet_Look
  pu : E k_purserlaw01_put = some f_purserlaw01_put
  ge : E k_purserlaw01_get = some f_purserlaw01_get
  gr : E k_purserlaw01_great = some f_purserlaw01_great
structure NoOb (X : Orc) : Prop where
  fi : NoFix X
  si : NoSize X
  ey : NoEye X
  by_ : ∀ a h, X (.fn k_octet_Pen_Bytes) a h = none
  rw_ : ∀ a h, X (.fn k_octet_Pen_Raw) a h = none
  al : ∀ a h, X (.fn k_octet_Pen_All) a h = none
  lk : ∀ a h, X (.fn k_octet_Look) a h = none
  pu : ∀ a h, X (.fn k_purserlaw01_put) a h = none
  ge : ∀ a h, X (.fn k_purserlaw01_get) a h = none
  gr : ∀ a h, X (.fn k_purserlaw01_great) a h = none
theorem ob0_step (e : EnOb E) (x : NoOb X) (M m pn : Nat) (hM : 10 < M) (ops : List OpP) (ok : ∀ o ∈ ops, o.ok) (hl : ops.length ≤ 100) (hg : gs ops ≤ 100000) (a : Option (Nat × Nat)) (hin : H) (oh : OpsH hin a ops) (hpn : pn = hin.next) :
    ∀ i T h, i < ops.length → OB0 hin pn a ops i T h → ∃ T' h', evC (callX E X (M + 8)) 95 m none L_purserlaw01_OctetBack_0 ⟨T, [], h⟩ = some (.normal, ⟨T', [], h'⟩) ∧ OB0 hin pn a ops (i + 1) T' h' := by
  intro i T h hi ⟨_, t0, t3, t4, t22, t23, ⟨ap, ad, c, ez, t5, pe, dn, hap, had⟩, kp⟩
  have c0 : decide ((i : Int) < (ops.length : Int)) = true := decide_eq_true (by omega)
  have wi : wr .i64 ((i : Int) + 1) = ((i + 1 : Nat) : Int) := by rw [wr_i64 (by omega)]; omega
  have ix : idx (i : Int) ops.length = some i := idxn hi
  obtain ⟨o, ho⟩ : ∃ o, ops[i]? = some o := ⟨_, List.getElem?_eq_getElem hi⟩
  have om := List.mem_of_getElem? ho
  obtain ⟨k, md, vs, b, rfl, k1, g, lv, cs, _, sb⟩ := oh.at i o ho
  have g' : h.get k = some (.cells vs md) := by rw [kp.2 _ k1, g]
  have ld : loadE (some (.cells vs md)) (some 4) (i * 4) = some (.agg (opC o b)) := by rw [m_loadN, readN_of _ _ _ (by omega), cs]
  have hw := dn_w ops i hl hg
  have po : PartOk pn ap h (b, none, 1, o.l) := ⟨sb.mono kp, fun hne q z eb => by
    rcases sb with s | ⟨bi, off, vs, m, e1, e2, e3, _⟩
    · exact absurd s hne
    · rw [e1] at eb; cases eb
      exact ⟨by omega, fun e => by have := hap _ _ e; omega⟩⟩
  obtain ⟨h1, a1, r1, p1, f1⟩ := put_go e.ep e.pu x.pu x.si x.fi x.by_ x.rw_ M pn hM o (ok o om) (Nat.le_trans (gs_mem ops o om) hg) b (wA (dnI ops i)) (by omega) ap h pe po
  have hpl := pe.lt
  have d1 : DoneH hin h1 pn (dnI ops i) ad c ez := dn.mono f1.nx (fun q hq hlo eq => f1.fr q hq (by omega) (had q eq))
  have k01 : Kp hin h1 := ⟨Nat.le_trans kp.1 f1.nx, fun j hj => by rw [f1.fr j (Nat.lt_of_lt_of_le hj kp.1) (by omega) (fun e => by have := hap _ _ e; omega), kp.2 _ hj]⟩
  have ha1 : ∀ q z, a1 = some (q, z) → pn < q := fun q z ea => by
    rcases f1.ow with e' | ⟨q', e', hq⟩
    · rw [e'] at ea; exact hap q z ea
    · rw [e'] at ea; cases ea; omega
  have had1 : ∀ q, ad = some (q, 0) → a1 ≠ some (q, 0) := fun q eq => by
    rcases dn with ⟨_, d2, _⟩ | ⟨_, q', _, _, d2, _, _, _, _, _, hq, _⟩
    · rw [d2] at eq; cases eq
    · have : q = q' := by rw [d2] at eq; cases eq; rfl
      subst this
      exact f1.ne hq (had q eq)
  have ds := dn_succ ops i o ho
  have i1 : i + 1 ≤ ops.length := hi
  cases hok : opOk o with
  | false =>
    rw [hok, if_neg (by simp), List.append_nil] at ds
    rw [hok] at r1
    rw [opB_no o hok, List.append_nil] at p1
    rw [← ds] at p1 d1
    have t5' := t5
    rw [← ds] at t5'
    obtain ⟨L, eL⟩ : ∃ L, ops.length = L := ⟨_, rfl⟩
    rw [eL] at t0 t22 c0 ix
    refine ⟨_, _, by
      simp (config := {maxSteps := 2000000}) (disch := first | omega | (simp only [List.length_cons, List.length_nil, List.length_append, List.length_drop]; omega)) only [L_purserlaw01_OctetBack_0, t0, t4, t22, t23, g', ld, r1, c0, wi, ix, ↓b_xor32, ↓b_and32, ↓b_or32, ↓u_not32, b_xor32, b_and32, b_or32, u_not32, w32ad, ↓x_conv, x_convV, ↓x_fieldAddr, x_fieldV, ↓s_nilchk, x_nilchk, Nat.zero_add, Nat.add_zero, Nat.mul_one, ↓l_loop, ↓l_succ, ↓l_normal, l_normal, l_exit, l_ret, l_iteN, ↓h_put_get, ↓h_new_get, ↓h_del_get, h_next_put, h_next_new, h_next_del, Nat.add_assoc, Nat.add_eq_left, Nat.left_eq_add, Nat.add_left_cancel_iff, ↓s_load, m_load, ↓m_load1, m_load1, ↓m_st, m_stE, m_storeI, m_storeE, w_zero, w_succ, ↓s_alloc, ↓x_idxA, ↓x_idxS, x_idxAE, x_idxSE, x_addrE, x_idx, x_lenS, ↓s_len, ↓x_buildS, x_buildE, ↓x_P0, ↓x_P1, x_fill0, x_filli, x_fills, x_fillb, c_int, List.length_cons, List.length_nil, List.cons_append, List.drop_succ_cons, List.drop_zero, List.drop_nil, List.nil_append, Int.reduceAdd, Int.reduceToNat, Int.reduceLT, Int.reduceLE, Nat.reduceAdd, Nat.reduceMul, Nat.reduceLeDiff, Int.reduceEq, Int.reduceSub, Int.cast_ofNat_Int, s_resc, s_consR, m_load4, m_store4, s_res0, ↓s_skip, ↓s_ops, ↓s_dops, ↓s_seq, ↓s_cond, ↓s_block, ↓s_exit, ↓s_ret, ↓s_scope, ↓s_nil, ↓s_op, ↓s_opg, ↓s_wanted', ↓s_wantV, s_wantV, s_wantV0, beq_true, beq_false, ↓s_bindS, s_bindS, ↓s_bindE, s_bindE, s_bindE_ret, s_bindE_exit, s_bindE_iteN, s_norm, ↓s_condV, s_condV, s_block_ret, s_block_normal, s_block_exit, s_block_iteN, ↓s_getp, ↓s_getp0, ↓s_get, s_get0, ↓s_con, ↓s_fn, ↓s_os0, ↓s_os1, ↓s_list0, ↓s_list1, ↓s_mov, ↓s_pick, ↓s_pickE, s_pickE, ↓s_bin, ↓s_un, ↓s_minmax, ↓s_call, ↓s_callv, ↓s_callV, ↓s_ext, s_same, b_eql, b_neq, b_lss, b_leq, b_gtr, b_geq, b_add, b_sub, b_mul, b_eqlb, b_neqb, b_fnil, b_fnil', b_fnil2, b_fnil2', u_neg, u_not, m_two, s_end, s_end', s_end_iteN, s_res0, s_res1, s_tup1, s_tup2, ↓iteN_true, ↓iteN_false, iteN_true, iteN_false, Nat.zero_add, List.nil_append, List.append_nil, Nat.reduceEqDiff, reduceIte, decide_true, decide_false, Bool.not_true, Bool.not_false, List.getElem?_cons_zero, List.getElem?_cons_succ, Bool.false_eq_true, if_true, if_false, beq_self_eq_true]
      exact rfl, ⟨i1, by rw [eL]; exact (by (simp only [s_getp, s_getp0, Nat.reduceEqDiff, decide_false, decide_true, iteN_false, iteN_true, t0]; try rfl)), (by (simp only [s_getp, s_getp0, Nat.reduceEqDiff, decide_false, decide_true, iteN_false, iteN_true, t3]; try rfl)), (by (simp only [s_getp, s_getp0, Nat.reduceEqDiff, decide_false, decide_true, iteN_false, iteN_true, t4]; try rfl)), by rw [eL]; exact (by (simp only [s_getp, s_getp0, Nat.reduceEqDiff, decide_false, decide_true, iteN_false, iteN_true, t22]; try rfl)), (by (simp only [s_getp, s_getp0, Nat.reduceEqDiff, decide_false, decide_true, iteN_false, iteN_true, t23]; try rfl)), ⟨a1, ad, c, ez, (by (simp only [s_getp, s_getp0, Nat.reduceEqDiff, decide_false, decide_true, iteN_false, iteN_true, t5']; try rfl)), p1, d1, ha1, had1⟩, k01⟩⟩
  | true =>
    rw [hok, if_pos rfl] at ds
    rw [hok] at r1
    have g1 : h1.get k = some (.cells vs md) := by rw [k01.2 _ k1, g]
    obtain ⟨h2, e2⟩ : ∃ h2, h1.new (.cells (opC o b) .rw) = h2 := ⟨_, rfl⟩
    have k12 : Kp h1 h2 := by rw [← e2]; exact Kp.new _ _
    have n2 : h2.next = h1.next + 1 := by rw [← e2]; rfl
    have d2 := d1.mono k12.1 (fun q hq _ _ => k12.2 q hq)
    have sc : srcCells h2 4 (.slice (some (h1.next, 0)) 1 (some 1) 4) = some (1, opC o b) := by rw [← e2, m_src, h_new_same]; rfl
    have fl : fillV [.int .i64 0, .int .i64 0, .int .u64 0, .slice none 0 (some 0) 0] [(0, 4, .agg (opC o b))] = some (opC o b) := rfl
    have pl2 := p1.lt
    obtain ⟨h3, apd, d3, n3, f3⟩ := ap_done hin h2 pn (by omega) (dnI ops i) (dn_len ops i hl) ad c ez d2 o b ⟨b, rfl, sb⟩
    have hadp : ad ≠ some (pn, 0) := fun e => by
      rcases dn with ⟨_, d2, _⟩ | ⟨_, q', _, _, d2, _, _, _, _, _, hq, hlo⟩
      · rw [d2] at e; cases e
      · rw [d2] at e; cases e; omega
    have p3 : PenH pn (wA (dnI ops (i + 1))) a1 h3 := by
      rw [ds, wA_app, wA_one]
      exact (p1.kp k12).mono (by omega) (f3 _ (by omega) hadp) (fun q hq ea => f3 q hq (fun e => had1 q e ea))
    have k03 : Kp hin h3 := ⟨by have := k01.1; omega, fun j hj => by
      have := k01.1
      rw [f3 j (by omega) (fun e => by
        rcases dn with ⟨_, d2, _⟩ | ⟨_, q', _, _, d2, _, _, _, _, _, hq, hlo⟩
        · rw [d2] at e; cases e
        · rw [d2] at e; cases e; omega), k12.2 _ (by omega), k01.2 _ hj]⟩
    have hadn : ∀ q, some (h2.next, 0) = some (q, 0) → a1 ≠ some (q, 0) := fun q e ea => by
      cases e
      have := p1.alt ea
      omega
    have dl : (dnI ops (i + 1)).length = (dnI ops i).length + 1 := by rw [ds, List.length_append]; rfl
    rw [← ds] at d3
    obtain ⟨L, eL⟩ : ∃ L, ops.length = L := ⟨_, rfl⟩
    rw [eL] at t0 t22 c0 ix
    generalize opC o b = C at *
    refine ⟨_, h3, by
      simp (config := {maxSteps := 2000000}) (disch := first | omega | (simp only [List.length_cons, List.length_nil, List.length_append, List.length_drop]; omega)) only [L_purserlaw01_OctetBack_0, t0, t4, t5, t22, t23, g', g1, ld, r1, fl, e2, sc, apd, c0, wi, ix, ↓s_append, ↓b_xor32, ↓b_and32, ↓b_or32, ↓u_not32, b_xor32, b_and32, b_or32, u_not32, w32ad, ↓x_conv, x_convV, ↓x_fieldAddr, x_fieldV, ↓s_nilchk, x_nilchk, Nat.zero_add, Nat.add_zero, Nat.mul_one, ↓l_loop, ↓l_succ, ↓l_normal, l_normal, l_exit, l_ret, l_iteN, ↓h_put_get, ↓h_new_get, ↓h_del_get, h_next_put, h_next_new, h_next_del, Nat.add_assoc, Nat.add_eq_left, Nat.left_eq_add, Nat.add_left_cancel_iff, ↓s_load, m_load, ↓m_load1, m_load1, ↓m_st, m_stE, m_storeI, m_storeE, w_zero, w_succ, ↓s_alloc, ↓x_idxA, ↓x_idxS, x_idxAE, x_idxSE, x_addrE, x_idx, x_lenS, ↓s_len, ↓x_buildS, x_buildE, ↓x_P0, ↓x_P1, x_fill0, x_filli, x_fills, x_fillb, c_int, List.length_cons, List.length_nil, List.cons_append, List.drop_succ_cons, List.drop_zero, List.drop_nil, List.nil_append, Int.reduceAdd, Int.reduceToNat, Int.reduceLT, Int.reduceLE, Nat.reduceAdd, Nat.reduceMul, Nat.reduceLeDiff, Int.reduceEq, Int.reduceSub, Int.cast_ofNat_Int, s_resc, s_consR, m_load4, m_store4, s_res0, ↓s_skip, ↓s_ops, ↓s_dops, ↓s_seq, ↓s_cond, ↓s_block, ↓s_exit, ↓s_ret, ↓s_scope, ↓s_nil, ↓s_op, ↓s_opg, ↓s_wanted', ↓s_wantV, s_wantV, s_wantV0, beq_true, beq_false, ↓s_bindS, s_bindS, ↓s_bindE, s_bindE, s_bindE_ret, s_bindE_exit, s_bindE_iteN, s_norm, ↓s_condV, s_condV, s_block_ret, s_block_normal, s_block_exit, s_block_iteN, ↓s_getp, ↓s_getp0, ↓s_get, s_get0, ↓s_con, ↓s_fn, ↓s_os0, ↓s_os1, ↓s_list0, ↓s_list1, ↓s_mov, ↓s_pick, ↓s_pickE, s_pickE, ↓s_bin, ↓s_un, ↓s_minmax, ↓s_call, ↓s_callv, ↓s_callV, ↓s_ext, s_same, b_eql, b_neq, b_lss, b_leq, b_gtr, b_geq, b_add, b_sub, b_mul, b_eqlb, b_neqb, b_fnil, b_fnil', b_fnil2, b_fnil2', u_neg, u_not, m_two, s_end, s_end', s_end_iteN, s_res0, s_res1, s_tup1, s_tup2, ↓iteN_true, ↓iteN_false, iteN_true, iteN_false, Nat.zero_add, List.nil_append, List.append_nil, Nat.reduceEqDiff, reduceIte, decide_true, decide_false, Bool.not_true, Bool.not_false, List.getElem?_cons_zero, List.getElem?_cons_succ, Bool.false_eq_true, if_true, if_false, beq_self_eq_true]
      exact rfl, ⟨i1, by rw [eL]; exact (by (simp only [s_getp, s_getp0, Nat.reduceEqDiff, decide_false, decide_true, iteN_false, iteN_true, t0]; try rfl)), (by (simp only [s_getp, s_getp0, Nat.reduceEqDiff, decide_false, decide_true, iteN_false, iteN_true, t3]; try rfl)), (by (simp only [s_getp, s_getp0, Nat.reduceEqDiff, decide_false, decide_true, iteN_false, iteN_true, t4]; try rfl)), by rw [eL]; exact (by (simp only [s_getp, s_getp0, Nat.reduceEqDiff, decide_false, decide_true, iteN_false, iteN_true, t22]; try rfl)), (by (simp only [s_getp, s_getp0, Nat.reduceEqDiff, decide_false, decide_true, iteN_false, iteN_true, t23]; try rfl)), ⟨a1, some (h2.next, 0), none, 4, by rw [dl]; exact (by (simp only [s_getp, s_getp0, Nat.reduceEqDiff, decide_false, decide_true, iteN_false, iteN_true, t5]; try rfl)), p3, d3, ha1, hadn⟩, k03⟩⟩
/-- reading the calls that were done -/
structure OB1 (hz : H) (p : Nat) (l : List Nat) (dn : List OpP) (v5 v7 : V) (ae : Option (Nat × Nat)) (i : Nat) (T : Tr V) (h : H) : Prop where
  il : i ≤ dn.length
  t3 : evO T (.t 3) = .bool true
  t5 : evO T (.t 5) = v5
  t7 : evO T (.t 7) = v7
  t8 : evO T (.t 8) = .ptr (some (p, 0))
  t43 : evO T (.t 43) = .int .i64 (dn.length : Int)
  t44 : evO T (.t 44) = .int .i64 (i : Int)
  ey : EyeH p l (wA (dn.take i)).length ae h
  kq : Kq p hz h
theorem SrcH.kq {p : Nat} {h h' : H} {a : Option (Nat × Nat)} {e : Nat} {l : List Nat} (s : SrcH h a e l) (k : Kq p h h') (nb : l ≠ [] → ∀ q z, a = some (q, z) → q ≠ p) : SrcH h' a e l := by
  rcases s with s | ⟨bi, off, vs, m, e1, e2, e3, e4, e5⟩
  · exact .inl s
  · by_cases hw : l = []
    · exact .inl hw
    · exact .inr ⟨bi, off, vs, m, e1, e2, Nat.lt_of_lt_of_le e3 k.1, by rw [k.2 _ e3 (nb hw _ _ e1), e4], e5⟩
theorem wA_take (dn : List OpP) (i : Nat) (o : OpP) (ho : dn[i]? = some o) : wA (dn.take (i + 1)) = wA (dn.take i) ++ opB o := by
  rw [List.take_add_one, ho]
  show wA (_ ++ [o]) = _
  rw [wA_app, wA_one]
theorem wA_drop (dn : List OpP) (i : Nat) (o : OpP) (ho : dn[i]? = some o) : (wA dn).drop (wA (dn.take i)).length = opB o ++ wA (dn.drop (i + 1)) := by
  have e : wA dn = wA (dn.take i) ++ (opB o ++ wA (dn.drop (i + 1))) := by
    rw [← List.append_assoc, ← wA_take dn i o ho, ← wA_app, List.take_append_drop]
  rw [e, List.drop_left' rfl]
theorem ob1_step (e : EnOb E) (x : NoOb X) (K m p : Nat) (dn : List OpP) (ok : ∀ o ∈ dn, o.ok ∧ opOk o = true ∧ o.l.length ≤ 100000) (hl : dn.length ≤ 100) (hw : (wA dn).length ≤ 100900) (hin hz : H) (kz : Kp hin hz) (hp : hin.next ≤ p) (lo : Nat) (ad : Option (Nat × Nat)) (c : Option Nat) (ez : Nat) (dh : DoneH hin hz lo dn ad c ez) (hpd : ∀ q z, ad = some (q, z) → q ≠ p) (v7 : V) (ae : Option (Nat × Nat)) :
    ∀ i T h, i < dn.length → OB1 hz p (wA dn) dn (.slice ad dn.length c ez) v7 ae i T h → ∃ T' h', evC (callX E X (K + 18)) 95 m none L_purserlaw01_OctetBack_1 ⟨T, [], h⟩ = some (.normal, ⟨T', [], h'⟩) ∧ OB1 hz p (wA dn) dn (.slice ad dn.length c ez) v7 ae (i + 1) T' h' := by
  intro i T h hi ⟨_, t3, t5, t7, t8, t43, t44, ey, kq⟩
  have c0 : decide ((i : Int) < (dn.length : Int)) = true := decide_eq_true (by omega)
  have wi : wr .i64 ((i : Int) + 1) = ((i + 1 : Nat) : Int) := by rw [wr_i64 (by omega)]; omega
  have ix : idx (i : Int) dn.length = some i := idxn hi
  obtain ⟨o, ho⟩ : ∃ o, dn[i]? = some o := ⟨_, List.getElem?_eq_getElem hi⟩
  obtain ⟨ok1, ok2, ok3⟩ := ok o (List.mem_of_getElem? ho)
  obtain ⟨k, md, vs, b, rfl, rfl, rfl, k1, _, g, lv, cs, sb⟩ := dh.at i o ho
  have g' : h.get k = some (.cells vs md) := by rw [kq.2 _ k1 (hpd _ _ rfl), g]
  have ld : loadE (some (.cells vs md)) (some 4) (i * 4) = some (.agg (opC o b)) := by rw [m_loadN, readN_of _ _ _ (by omega), cs]
  have nb : o.l ≠ [] → ∀ q z, b = some (q, z) → q ≠ p := fun hne q z eb => by
    rcases sb with s | ⟨bi, off, vs, m, e1, e2, e3, _⟩
    · exact absurd s hne
    · rw [e1] at eb; cases eb; omega
  have sh := (sb.mono kz).kq kq nb
  have bw := wA_byt dn (fun o ho => (ok o ho).1)
  obtain ⟨h1, r1, q1, y1⟩ := get_go e.ey e.ge x.ge x.ey K p o ok1 ok3 b (wA dn) bw (by omega) _ ae h ey sh nb
  have og := opG_ok o ok1 ok3 ok2 (wA dn) (wA (dn.take i)).length ey.le _ (wA_drop dn i o ho)
  rw [og] at r1 y1
  have ea : (wA (dn.take i)).length + (opB o).length = (wA (dn.take (i + 1))).length := by rw [wA_take dn i o ho, List.length_append]
  rw [show ((true, (wA (dn.take i)).length + (opB o).length) : Bool × Nat).2 = (wA (dn.take (i + 1))).length from ea] at y1
  have i1 : i + 1 ≤ dn.length := hi
  obtain ⟨L, eL⟩ : ∃ L, dn.length = L := ⟨_, rfl⟩
  rw [eL] at t5 t43 c0 ix
  generalize opC o b = C at *
  refine ⟨_, h1, by
    simp (config := {maxSteps := 2000000}) (disch := first | omega | (simp only [List.length_cons, List.length_nil, List.length_append, List.length_drop]; omega)) only [L_purserlaw01_OctetBack_1, t5, t8, t43, t44, g', ld, r1, c0, wi, ix, ↓b_xor32, ↓b_and32, ↓b_or32, ↓u_not32, b_xor32, b_and32, b_or32, u_not32, w32ad, ↓x_conv, x_convV, ↓x_fieldAddr, x_fieldV, ↓s_nilchk, x_nilchk, Nat.zero_add, Nat.add_zero, Nat.mul_one, ↓l_loop, ↓l_succ, ↓l_normal, l_normal, l_exit, l_ret, l_iteN, ↓h_put_get, ↓h_new_get, ↓h_del_get, h_next_put, h_next_new, h_next_del, Nat.add_assoc, Nat.add_eq_left, Nat.left_eq_add, Nat.add_left_cancel_iff, ↓s_load, m_load, ↓m_load1, m_load1, ↓m_st, m_stE, m_storeI, m_storeE, w_zero, w_succ, ↓s_alloc, ↓x_idxA, ↓x_idxS, x_idxAE, x_idxSE, x_addrE, x_idx, x_lenS, ↓s_len, ↓x_buildS, x_buildE, ↓x_P0, ↓x_P1, x_fill0, x_filli, x_fills, x_fillb, c_int, List.length_cons, List.length_nil, List.cons_append, List.drop_succ_cons, List.drop_zero, List.drop_nil, List.nil_append, Int.reduceAdd, Int.reduceToNat, Int.reduceLT, Int.reduceLE, Nat.reduceAdd, Nat.reduceMul, Nat.reduceLeDiff, Int.reduceEq, Int.reduceSub, Int.cast_ofNat_Int, s_resc, s_consR, m_load4, m_store4, s_res0, ↓s_skip, ↓s_ops, ↓s_dops, ↓s_seq, ↓s_cond, ↓s_block, ↓s_exit, ↓s_ret, ↓s_scope, ↓s_nil, ↓s_op, ↓s_opg, ↓s_wanted', ↓s_wantV, s_wantV, s_wantV0, beq_true, beq_false, ↓s_bindS, s_bindS, ↓s_bindE, s_bindE, s_bindE_ret, s_bindE_exit, s_bindE_iteN, s_norm, ↓s_condV, s_condV, s_block_ret, s_block_normal, s_block_exit, s_block_iteN, ↓s_getp, ↓s_getp0, ↓s_get, s_get0, ↓s_con, ↓s_fn, ↓s_os0, ↓s_os1, ↓s_list0, ↓s_list1, ↓s_mov, ↓s_pick, ↓s_pickE, s_pickE, ↓s_bin, ↓s_un, ↓s_minmax, ↓s_call, ↓s_callv, ↓s_callV, ↓s_ext, s_same, b_eql, b_neq, b_lss, b_leq, b_gtr, b_geq, b_add, b_sub, b_mul, b_eqlb, b_neqb, b_fnil, b_fnil', b_fnil2, b_fnil2', u_neg, u_not, m_two, s_end, s_end', s_end_iteN, s_res0, s_res1, s_tup1, s_tup2, ↓iteN_true, ↓iteN_false, iteN_true, iteN_false, Nat.zero_add, List.nil_append, List.append_nil, Nat.reduceEqDiff, reduceIte, decide_true, decide_false, Bool.not_true, Bool.not_false, List.getElem?_cons_zero, List.getElem?_cons_succ, Bool.false_eq_true, if_true, if_false, beq_self_eq_true]
    exact rfl, ⟨i1, (by (simp only [s_getp, s_getp0, Nat.reduceEqDiff, decide_false, decide_true, iteN_false, iteN_true, t3]; try rfl)), by rw [eL]; exact (by (simp only [s_getp, s_getp0, Nat.reduceEqDiff, decide_false, decide_true, iteN_false, iteN_true, t5]; try rfl)), (by (simp only [s_getp, s_getp0, Nat.reduceEqDiff, decide_false, decide_true, iteN_false, iteN_true, t7]; try rfl)), (by (simp only [s_getp, s_getp0, Nat.reduceEqDiff, decide_false, decide_true, iteN_false, iteN_true, t8]; try rfl)), by rw [eL]; exact (by (simp only [s_getp, s_getp0, Nat.reduceEqDiff, decide_false, decide_true, iteN_false, iteN_true, t43]; try rfl)), (by (simp only [s_getp, s_getp0, Nat.reduceEqDiff, decide_false, decide_true, iteN_false, iteN_true, t44]; try rfl)), y1, kq.trans q1⟩⟩
structure OB2 (hz : H) (p : Nat) (l : List Nat) (dn : List OpP) (v5 : V) (ae : Option (Nat × Nat)) (i : Nat) (T : Tr V) (h : H) : Prop where
  il : i ≤ dn.length
  t3 : evO T (.t 3) = .bool true
  t5 : evO T (.t 5) = v5
  t10 : evO T (.t 10) = .ptr (some (p, 0))
  t76 : evO T (.t 76) = .int .i64 (dn.length : Int)
  t77 : evO T (.t 77) = .int .i64 (i : Int)
  ey : ∃ w at_, evO T (.t 11) = .bool w ∧ EyeH p l at_ ae h ∧ (w = true → at_ = (wA (dn.take i)).length)
  kq : Kq p hz h
theorem ob2_step (e : EnOb E) (x : NoOb X) (K m p : Nat) (l : List Nat) (bl : byt l = true) (hl2 : l.length ≤ 1000000) (dn : List OpP) (ok : ∀ o ∈ dn, o.ok ∧ opOk o = true ∧ o.l.length ≤ 100000) (hl : dn.length ≤ 100) (hin hz : H) (kz : Kp hin hz) (hp : hin.next ≤ p) (lo : Nat) (ad : Option (Nat × Nat)) (c : Option Nat) (ez : Nat) (dh : DoneH hin hz lo dn ad c ez) (hpd : ∀ q z, ad = some (q, z) → q ≠ p) (ae : Option (Nat × Nat)) :
    ∀ i T h, i < dn.length → OB2 hz p l dn (.slice ad dn.length c ez) ae i T h → ∃ T' h', evC (callX E X (K + 18)) 95 m none L_purserlaw01_OctetBack_2 ⟨T, [], h⟩ = some (.normal, ⟨T', [], h'⟩) ∧ OB2 hz p l dn (.slice ad dn.length c ez) ae (i + 1) T' h' := by
  intro i T h hi ⟨_, t3, t5, t10, t76, t77, ⟨w, at_, t11, ey, ew⟩, kq⟩
  have c0 : decide ((i : Int) < (dn.length : Int)) = true := decide_eq_true (by omega)
  have wi : wr .i64 ((i : Int) + 1) = ((i + 1 : Nat) : Int) := by rw [wr_i64 (by omega)]; omega
  have ix : idx (i : Int) dn.length = some i := idxn hi
  have i1 : i + 1 ≤ dn.length := hi
  cases w with
  | false =>
    obtain ⟨L, eL⟩ : ∃ L, dn.length = L := ⟨_, rfl⟩
    rw [eL] at t5 t76 c0 ix
    refine ⟨_, h, by
      simp (config := {maxSteps := 2000000}) (disch := first | omega | (simp only [List.length_cons, List.length_nil, List.length_append, List.length_drop]; omega)) only [L_purserlaw01_OctetBack_2, t11, t76, t77, c0, wi, ↓b_xor32, ↓b_and32, ↓b_or32, ↓u_not32, b_xor32, b_and32, b_or32, u_not32, w32ad, ↓x_conv, x_convV, ↓x_fieldAddr, x_fieldV, ↓s_nilchk, x_nilchk, Nat.zero_add, Nat.add_zero, Nat.mul_one, ↓l_loop, ↓l_succ, ↓l_normal, l_normal, l_exit, l_ret, l_iteN, ↓h_put_get, ↓h_new_get, ↓h_del_get, h_next_put, h_next_new, h_next_del, Nat.add_assoc, Nat.add_eq_left, Nat.left_eq_add, Nat.add_left_cancel_iff, ↓s_load, m_load, ↓m_load1, m_load1, ↓m_st, m_stE, m_storeI, m_storeE, w_zero, w_succ, ↓s_alloc, ↓x_idxA, ↓x_idxS, x_idxAE, x_idxSE, x_addrE, x_idx, x_lenS, ↓s_len, ↓x_buildS, x_buildE, ↓x_P0, ↓x_P1, x_fill0, x_filli, x_fills, x_fillb, c_int, List.length_cons, List.length_nil, List.cons_append, List.drop_succ_cons, List.drop_zero, List.drop_nil, List.nil_append, Int.reduceAdd, Int.reduceToNat, Int.reduceLT, Int.reduceLE, Nat.reduceAdd, Nat.reduceMul, Nat.reduceLeDiff, Int.reduceEq, Int.reduceSub, Int.cast_ofNat_Int, s_resc, s_consR, m_load4, m_store4, s_res0, ↓s_skip, ↓s_ops, ↓s_dops, ↓s_seq, ↓s_cond, ↓s_block, ↓s_exit, ↓s_ret, ↓s_scope, ↓s_nil, ↓s_op, ↓s_opg, ↓s_wanted', ↓s_wantV, s_wantV, s_wantV0, beq_true, beq_false, ↓s_bindS, s_bindS, ↓s_bindE, s_bindE, s_bindE_ret, s_bindE_exit, s_bindE_iteN, s_norm, ↓s_condV, s_condV, s_block_ret, s_block_normal, s_block_exit, s_block_iteN, ↓s_getp, ↓s_getp0, ↓s_get, s_get0, ↓s_con, ↓s_fn, ↓s_os0, ↓s_os1, ↓s_list0, ↓s_list1, ↓s_mov, ↓s_pick, ↓s_pickE, s_pickE, ↓s_bin, ↓s_un, ↓s_minmax, ↓s_call, ↓s_callv, ↓s_callV, ↓s_ext, s_same, b_eql, b_neq, b_lss, b_leq, b_gtr, b_geq, b_add, b_sub, b_mul, b_eqlb, b_neqb, b_fnil, b_fnil', b_fnil2, b_fnil2', u_neg, u_not, m_two, s_end, s_end', s_end_iteN, s_res0, s_res1, s_tup1, s_tup2, ↓iteN_true, ↓iteN_false, iteN_true, iteN_false, Nat.zero_add, List.nil_append, List.append_nil, Nat.reduceEqDiff, reduceIte, decide_true, decide_false, Bool.not_true, Bool.not_false, List.getElem?_cons_zero, List.getElem?_cons_succ, Bool.false_eq_true, if_true, if_false, beq_self_eq_true]
      exact rfl, ⟨i1, (by (simp only [s_getp, s_getp0, Nat.reduceEqDiff, decide_false, decide_true, iteN_false, iteN_true, t3]; try rfl)), by rw [eL]; exact (by (simp only [s_getp, s_getp0, Nat.reduceEqDiff, decide_false, decide_true, iteN_false, iteN_true, t5]; try rfl)), (by (simp only [s_getp, s_getp0, Nat.reduceEqDiff, decide_false, decide_true, iteN_false, iteN_true, t10]; try rfl)), by rw [eL]; exact (by (simp only [s_getp, s_getp0, Nat.reduceEqDiff, decide_false, decide_true, iteN_false, iteN_true, t76]; try rfl)), (by (simp only [s_getp, s_getp0, Nat.reduceEqDiff, decide_false, decide_true, iteN_false, iteN_true, t77]; try rfl)), ⟨false, at_, (by (simp only [s_getp, s_getp0, Nat.reduceEqDiff, decide_false, decide_true, iteN_false, iteN_true, t11]; try rfl)), ey, (fun h => by cases h)⟩, kq⟩⟩
  | true =>
    obtain ⟨o, ho⟩ : ∃ o, dn[i]? = some o := ⟨_, List.getElem?_eq_getElem hi⟩
    obtain ⟨ok1, ok2, ok3⟩ := ok o (List.mem_of_getElem? ho)
    obtain ⟨k, md, vs, b, rfl, rfl, rfl, k1, _, g, lv, cs, sb⟩ := dh.at i o ho
    have g' : h.get k = some (.cells vs md) := by rw [kq.2 _ k1 (hpd _ _ rfl), g]
    have ld : loadE (some (.cells vs md)) (some 4) (i * 4) = some (.agg (opC o b)) := by rw [m_loadN, readN_of _ _ _ (by omega), cs]
    have nb : o.l ≠ [] → ∀ q z, b = some (q, z) → q ≠ p := fun hne q z eb => by
      rcases sb with s | ⟨bi, off, vs, m, e1, e2, e3, _⟩
      · exact absurd s hne
      · rw [e1] at eb; cases eb; omega
    have sh := (sb.mono kz).kq kq nb
    obtain ⟨h1, r1, q1, y1⟩ := get_go e.ey e.ge x.ge x.ey K p o ok1 ok3 b l bl hl2 at_ ae h ey sh nb
    have og := opG_len o ok1 ok2 l bl at_
    obtain ⟨gv, eg⟩ : ∃ g, opG o l at_ = g := ⟨_, rfl⟩
    rw [eg] at r1 y1 og
    obtain ⟨w', at'⟩ := gv
    simp only at r1 y1 og
    have ea : w' = true → at' = (wA (dn.take (i + 1))).length := fun h => by rw [og h, ew rfl, wA_take dn i o ho, List.length_append]
    obtain ⟨L, eL⟩ : ∃ L, dn.length = L := ⟨_, rfl⟩
    rw [eL] at t5 t76 c0 ix
    generalize opC o b = C at *
    refine ⟨_, h1, by
      simp (config := {maxSteps := 2000000}) (disch := first | omega | (simp only [List.length_cons, List.length_nil, List.length_append, List.length_drop]; omega)) only [L_purserlaw01_OctetBack_2, t5, t10, t11, t76, t77, g', ld, r1, c0, wi, ix, ↓b_xor32, ↓b_and32, ↓b_or32, ↓u_not32, b_xor32, b_and32, b_or32, u_not32, w32ad, ↓x_conv, x_convV, ↓x_fieldAddr, x_fieldV, ↓s_nilchk, x_nilchk, Nat.zero_add, Nat.add_zero, Nat.mul_one, ↓l_loop, ↓l_succ, ↓l_normal, l_normal, l_exit, l_ret, l_iteN, ↓h_put_get, ↓h_new_get, ↓h_del_get, h_next_put, h_next_new, h_next_del, Nat.add_assoc, Nat.add_eq_left, Nat.left_eq_add, Nat.add_left_cancel_iff, ↓s_load, m_load, ↓m_load1, m_load1, ↓m_st, m_stE, m_storeI, m_storeE, w_zero, w_succ, ↓s_alloc, ↓x_idxA, ↓x_idxS, x_idxAE, x_idxSE, x_addrE, x_idx, x_lenS, ↓s_len, ↓x_buildS, x_buildE, ↓x_P0, ↓x_P1, x_fill0, x_filli, x_fills, x_fillb, c_int, List.length_cons, List.length_nil, List.cons_append, List.drop_succ_cons, List.drop_zero, List.drop_nil, List.nil_append, Int.reduceAdd, Int.reduceToNat, Int.reduceLT, Int.reduceLE, Nat.reduceAdd, Nat.reduceMul, Nat.reduceLeDiff, Int.reduceEq, Int.reduceSub, Int.cast_ofNat_Int, s_resc, s_consR, m_load4, m_store4, s_res0, ↓s_skip, ↓s_ops, ↓s_dops, ↓s_seq, ↓s_cond, ↓s_block, ↓s_exit, ↓s_ret, ↓s_scope, ↓s_nil, ↓s_op, ↓s_opg, ↓s_wanted', ↓s_wantV, s_wantV, s_wantV0, beq_true, beq_false, ↓s_bindS, s_bindS, ↓s_bindE, s_bindE, s_bindE_ret, s_bindE_exit, s_bindE_iteN, s_norm, ↓s_condV, s_condV, s_block_ret, s_block_normal, s_block_exit, s_block_iteN, ↓s_getp, ↓s_getp0, ↓s_get, s_get0, ↓s_con, ↓s_fn, ↓s_os0, ↓s_os1, ↓s_list0, ↓s_list1, ↓s_mov, ↓s_pick, ↓s_pickE, s_pickE, ↓s_bin, ↓s_un, ↓s_minmax, ↓s_call, ↓s_callv, ↓s_callV, ↓s_ext, s_same, b_eql, b_neq, b_lss, b_leq, b_gtr, b_geq, b_add, b_sub, b_mul, b_eqlb, b_neqb, b_fnil, b_fnil', b_fnil2, b_fnil2', u_neg, u_not, m_two, s_end, s_end', s_end_iteN, s_res0, s_res1, s_tup1, s_tup2, ↓iteN_true, ↓iteN_false, iteN_true, iteN_false, Nat.zero_add, List.nil_append, List.append_nil, Nat.reduceEqDiff, reduceIte, decide_true, decide_false, Bool.not_true, Bool.not_false, List.getElem?_cons_zero, List.getElem?_cons_succ, Bool.false_eq_true, if_true, if_false, beq_self_eq_true]
      exact rfl, ⟨i1, (by (simp only [s_getp, s_getp0, Nat.reduceEqDiff, decide_false, decide_true, iteN_false, iteN_true, t3]; try rfl)), by rw [eL]; exact (by (simp only [s_getp, s_getp0, Nat.reduceEqDiff, decide_false, decide_true, iteN_false, iteN_true, t5]; try rfl)), (by (simp only [s_getp, s_getp0, Nat.reduceEqDiff, decide_false, decide_true, iteN_false, iteN_true, t10]; try rfl)), by rw [eL]; exact (by (simp only [s_getp, s_getp0, Nat.reduceEqDiff, decide_false, decide_true, iteN_false, iteN_true, t76]; try rfl)), (by (simp only [s_getp, s_getp0, Nat.reduceEqDiff, decide_false, decide_true, iteN_false, iteN_true, t77]; try rfl)), ⟨w', at', (by (simp only [s_getp, s_getp0, Nat.reduceEqDiff, decide_false, decide_true, iteN_false, iteN_true, t11]; try rfl)), y1, ea⟩, kq.trans q1⟩⟩
end Go.Eng
namespace Go.Eng
open Go
variable {E : Nat → Option Fn} {X : Orc}
set_option linter.unusedSimpArgs false
set_option linter.unusedVariables false
theorem Wb.hi {h : H} {w : List Nat} {a : Option (Nat × Nat)} {c : Option Nat} {e : Nat} (s : Wb h w a c e) (hi : Nat) (k : IntKind) (h1 : hi ≤ w.length) : ∃ c', slcV 1 none (some (.int k (hi : Int))) none (.slice a w.length c e) = some (.slice a hi c' 1) := by
  rcases s with ⟨rfl, rfl, rfl, rfl⟩ | ⟨_, q, md, rfl, rfl, rfl, _⟩
  · rw [List.length_nil] at h1
    obtain rfl : hi = 0 := by omega
    exact ⟨some 0, rfl⟩
  · exact ⟨none, slcV_hiA _ _ _ _ h1⟩
theorem al_ob : NoOb (alX k_purserlaw01_alive) := ⟨al_fix, al_size, al_eye, fun _ _ => rfl, fun _ _ => rfl, fun _ _ => rfl, fun _ _ => rfl, fun _ _ => rfl, fun _ _ => rfl, fun _ _ => rfl⟩
set_option maxRecDepth 100000 in
set_option maxHeartbeats 4000000 in
theorem law_OctetBack (e : EnOb E) (el : E k_purserlaw01_OctetBack = some f_purserlaw01_OctetBack) (N : Nat) (ops : List OpP) (ok : ∀ o ∈ ops, o.ok) (B : Nat) (hB : B ≤ 140737488351232) (hlB : ops.length ≤ B) (hsB : ∀ o ∈ ops, o.l.length ≤ B) (a : Option (Nat × Nat)) (h : H) (oh : OpsH h a ops) :
    ∃ h2, callX E (alX k_purserlaw01_alive) (N + ops.length + 201) (.fn k_purserlaw01_OctetBack) [.slice a ops.length none 4] h = some (.bool true, h2) := by
  rw [x_cfn el _ _ (Nat.le_of_ble_eq_true rfl) rfl]
  have x : NoOb (alX k_purserlaw01_alive) := al_ob
  have al : ∀ h, callX E (alX k_purserlaw01_alive) (N + ops.length + 200) (.fn k_purserlaw01_alive) [] h = some (.bool true, h) := fun h => x_known (pureX_yes h rfl)
  have gr := great_go (X := alX k_purserlaw01_alive) e.gr x.gr (N + 174) a ops B hB hlB hsB h oh
  rw [show N + 174 + ops.length + 26 = N + ops.length + 200 by omega] at gr
  generalize hF : N + ops.length = F at *
  cases hgr : greatV ops with
  | true =>
    rw [hgr] at gr
    obtain ⟨L, eL⟩ : ∃ L, ops.length = L := ⟨_, rfl⟩
    rw [eL] at gr ⊢
    simp (config := {maxSteps := 2000000}) (disch := first | omega | rfl | (simp only [ofI_len, List.length_append, List.length_take, List.length_drop, List.length_cons, List.length_nil, List.length_replicate, List.length_set]; done) | (simp only [ofI_len, List.length_append, List.length_take, List.length_drop, List.length_cons, List.length_nil, List.length_replicate, List.length_set]; omega)) only [al, gr, ↓b_xor32, ↓b_and32, ↓b_or32, ↓u_not32, b_xor32, b_and32, b_or32, u_not32, w32ad, ↓x_conv, x_convV, ↓x_fieldAddr, x_fieldV, ↓s_nilchk, x_nilchk, Nat.zero_add, Nat.add_zero, Nat.mul_one, ↓l_loop, ↓l_succ, ↓l_normal, l_normal, l_exit, l_ret, l_iteN, ↓h_put_get, ↓h_new_get, ↓h_del_get, h_next_put, h_next_new, h_next_del, Nat.add_assoc, Nat.add_eq_left, Nat.left_eq_add, Nat.add_left_cancel_iff, ↓s_load, m_load, ↓m_load1, m_load1, ↓m_st, m_stE, m_storeI, m_storeE, ↓s_alloc, ↓x_idxA, ↓x_idxS, x_idxAE, x_idxSE, x_addrE, x_idx, x_lenS, ↓s_len, ↓x_buildS, x_buildE, ↓x_P0, ↓x_P1, x_fill0, x_filli, x_fills, x_fillb, c_int, List.length_cons, List.length_nil, List.cons_append, List.drop_succ_cons, List.drop_zero, List.drop_nil, List.nil_append, Int.reduceAdd, Int.reduceToNat, Int.reduceLT, Int.reduceLE, Nat.reduceAdd, Nat.reduceMul, Nat.reduceLeDiff, Int.reduceEq, Int.reduceSub, Int.cast_ofNat_Int, s_resc, s_consR, m_load4, m_store4, s_res0, ↓s_skip, ↓s_ops, ↓s_dops, ↓s_seq, ↓s_cond, ↓s_block, ↓s_exit, ↓s_ret, ↓s_scope, ↓s_nil, ↓s_op, ↓s_opg, ↓s_wanted', ↓s_wantV, s_wantV, s_wantV0, beq_true, beq_false, ↓s_bindS, s_bindS, ↓s_bindE, s_bindE, s_bindE_ret, s_bindE_exit, s_bindE_iteN, s_norm, ↓s_condV, s_condV, s_block_ret, s_block_normal, s_block_exit, s_block_iteN, ↓s_getp, ↓s_getp0, ↓s_get, s_get0, ↓s_con, ↓s_fn, ↓s_os0, ↓s_os1, ↓s_list0, ↓s_list1, ↓s_mov, ↓s_pick, ↓s_pickE, s_pickE, ↓s_bin, ↓s_un, ↓s_minmax, ↓s_call, ↓s_callv, ↓s_callV, ↓s_ext, s_same, b_eql, b_neq, b_lss, b_leq, b_gtr, b_geq, b_add, b_sub, b_mul, b_eqlb, b_neqb, b_fnil, b_fnil', b_fnil2, b_fnil2', u_neg, u_not, m_two, s_end, s_end', s_end_iteN, s_res0, s_res1, s_tup1, s_tup2, ↓iteN_true, ↓iteN_false, iteN_true, iteN_false, Nat.zero_add, List.nil_append, List.append_nil, Nat.reduceEqDiff, reduceIte, decide_true, decide_false, Bool.not_true, Bool.not_false, List.getElem?_cons_zero, List.getElem?_cons_succ, Bool.false_eq_true, if_true, if_false, beq_self_eq_true]
    exact ⟨_, rfl⟩
  | false =>
  rw [hgr] at gr
  unfold greatV at hgr
  rw [Bool.or_eq_false_iff] at hgr
  have hl : ops.length ≤ 100 := by have := of_decide_eq_false hgr.1; omega
  have hg : gs ops ≤ 100000 := by have := of_decide_eq_false hgr.2; omega
  clear hgr
  obtain ⟨hQ, eQ⟩ : ∃ hQ, h.new (.cells [.slice none 0 (some 0) 0] .rw) = hQ := ⟨_, rfl⟩
  have kQ : Kp h hQ := by rw [← eQ]; exact Kp.new _ _
  have gQ : hQ.get h.next = some (.cells [.slice none 0 (some 0) 0] .rw) := by rw [← eQ]; exact h_new_same _ _
  have nQ : hQ.next = h.next + 1 := by rw [← eQ]; rfl
  have fin0 : ∀ T, OB0 h h.next a ops 0 T hQ → ∃ h2, fnEnd [.tmp 2] (bindE (blockE 0 (loopN (evC (callX E (alX k_purserlaw01_alive) (F + 200)) 95 (F + 200) none L_purserlaw01_OctetBack_0) (F + 200) ⟨T, [], hQ⟩)) (evC (callX E (alX k_purserlaw01_alive) (F + 200)) 95 (F + 200) none R_purserlaw01_OctetBack_2)) = some (.bool true, h2) := by
    intro T I
    obtain ⟨T1, h1, rr, J⟩ := loop_go (f := evC (callX E (alX k_purserlaw01_alive) (F + 200)) 95 (F + 200) none L_purserlaw01_OctetBack_0) (OB0 h h.next a ops) ops.length (.exit 0) (by intro h; cases h) (OB0 h h.next a ops ops.length) (ob0_step e x (F + 192) (F + 200) h.next (by omega) ops ok hl hg a h oh rfl) (fun T h' I => by
      obtain ⟨il, t0, t3, t4, t22, t23, ⟨ap, ad, c, ez, t5, st⟩, kp⟩ := I
      have c0 : decide ((ops.length : Int) < (ops.length : Int)) = false := decide_eq_false (by omega)
      refine ⟨_, _, by
        simp (config := {maxSteps := 2000000}) (disch := first | omega | (simp only [List.length_cons, List.length_nil, List.length_append, List.length_drop]; omega)) only [L_purserlaw01_OctetBack_0, t22, t23, c0, ↓b_xor32, ↓b_and32, ↓b_or32, ↓u_not32, b_xor32, b_and32, b_or32, u_not32, w32ad, ↓x_conv, x_convV, ↓x_fieldAddr, x_fieldV, ↓s_nilchk, x_nilchk, Nat.zero_add, Nat.add_zero, Nat.mul_one, ↓l_loop, ↓l_succ, ↓l_normal, l_normal, l_exit, l_ret, l_iteN, ↓h_put_get, ↓h_new_get, ↓h_del_get, h_next_put, h_next_new, h_next_del, Nat.add_assoc, Nat.add_eq_left, Nat.left_eq_add, Nat.add_left_cancel_iff, ↓s_load, m_load, ↓m_load1, m_load1, ↓m_st, m_stE, m_storeI, m_storeE, w_zero, w_succ, ↓s_alloc, ↓x_idxA, ↓x_idxS, x_idxAE, x_idxSE, x_addrE, x_idx, x_lenS, ↓s_len, ↓x_buildS, x_buildE, ↓x_P0, ↓x_P1, x_fill0, x_filli, x_fills, x_fillb, c_int, List.length_cons, List.length_nil, List.cons_append, List.drop_succ_cons, List.drop_zero, List.drop_nil, List.nil_append, Int.reduceAdd, Int.reduceToNat, Int.reduceLT, Int.reduceLE, Nat.reduceAdd, Nat.reduceMul, Nat.reduceLeDiff, Int.reduceEq, Int.reduceSub, Int.cast_ofNat_Int, s_resc, s_consR, m_load4, m_store4, s_res0, ↓s_skip, ↓s_ops, ↓s_dops, ↓s_seq, ↓s_cond, ↓s_block, ↓s_exit, ↓s_ret, ↓s_scope, ↓s_nil, ↓s_op, ↓s_opg, ↓s_wanted', ↓s_wantV, s_wantV, s_wantV0, beq_true, beq_false, ↓s_bindS, s_bindS, ↓s_bindE, s_bindE, s_bindE_ret, s_bindE_exit, s_bindE_iteN, s_norm, ↓s_condV, s_condV, s_block_ret, s_block_normal, s_block_exit, s_block_iteN, ↓s_getp, ↓s_getp0, ↓s_get, s_get0, ↓s_con, ↓s_fn, ↓s_os0, ↓s_os1, ↓s_list0, ↓s_list1, ↓s_mov, ↓s_pick, ↓s_pickE, s_pickE, ↓s_bin, ↓s_un, ↓s_minmax, ↓s_call, ↓s_callv, ↓s_callV, ↓s_ext, s_same, b_eql, b_neq, b_lss, b_leq, b_gtr, b_geq, b_add, b_sub, b_mul, b_eqlb, b_neqb, b_fnil, b_fnil', b_fnil2, b_fnil2', u_neg, u_not, m_two, s_end, s_end', s_end_iteN, s_res0, s_res1, s_tup1, s_tup2, ↓iteN_true, ↓iteN_false, iteN_true, iteN_false, Nat.zero_add, List.nil_append, List.append_nil, Nat.reduceEqDiff, reduceIte, decide_true, decide_false, Bool.not_true, Bool.not_false, List.getElem?_cons_zero, List.getElem?_cons_succ, Bool.false_eq_true, if_true, if_false, beq_self_eq_true]
        exact rfl, ⟨il, (by (simp only [s_getp, s_getp0, Nat.reduceEqDiff, decide_false, decide_true, iteN_false, iteN_true, t0]; try rfl)), (by (simp only [s_getp, s_getp0, Nat.reduceEqDiff, decide_false, decide_true, iteN_false, iteN_true, t3]; try rfl)), (by (simp only [s_getp, s_getp0, Nat.reduceEqDiff, decide_false, decide_true, iteN_false, iteN_true, t4]; try rfl)), (by (simp only [s_getp, s_getp0, Nat.reduceEqDiff, decide_false, decide_true, iteN_false, iteN_true, t22]; try rfl)), (by (simp only [s_getp, s_getp0, Nat.reduceEqDiff, decide_false, decide_true, iteN_false, iteN_true, t23]; try rfl)), ⟨ap, ad, c, ez, (by (simp only [s_getp, s_getp0, Nat.reduceEqDiff, decide_false, decide_true, iteN_false, iteN_true, t5]; try rfl)), st⟩, kp⟩⟩) ops.length 0 (by omega) (F + 200) (by omega) T hQ I
    rw [rr]
    obtain ⟨il, t0, t3, t4, t22, t23, ⟨ap, ad, c, ez, t5, pe, dh, hap, had⟩, kp⟩ := J
    have okd : ∀ o ∈ dnI ops ops.length, o.ok ∧ opOk o = true ∧ o.l.length ≤ 100000 := fun o ho => by
      obtain ⟨m1, m2⟩ := dn_mem ho
      exact ⟨ok o m1, m2, Nat.le_trans (gs_mem ops o m1) hg⟩
    have hld := dn_len ops ops.length hl
    have hwd := dn_w ops ops.length hl hg
    generalize dnI ops ops.length = dn at *
    have bw := wA_byt dn (fun o ho => (okd o ho).1)
    obtain ⟨a2, c2, e2, h2, r2, nw⟩ := allv_go (X := alX k_purserlaw01_alive) e.ep.al x.al (F + 199) h.next (wA dn) (by omega) ap h1 pe
    obtain ⟨h3, p1, ae, r3, k3, q3, y3, g3⟩ := look_go (X := alX k_purserlaw01_alive) e.lk x.lk (F + 199) (wA dn) (by omega) a2 c2 e2 h2 nw.wb.src
    have k13 := nw.kp.trans k3
    have kz := kp.trans k13
    have n1 := kp.1
    have n2 := nw.kp.1
    have dh3 := dh.mono k13.1 (fun q hq _ _ => k13.2 q hq)
    have hlt : ∀ q z, ad = some (q, z) → q < h1.next := fun q z eq => by
      rcases dh with ⟨_, d2, _⟩ | ⟨_, q', _, _, d2, _, _, _, _, _, hq, _⟩
      · rw [d2] at eq; cases eq
      · rw [d2] at eq; cases eq; exact hq
    have fin1 : ∀ T, OB1 h3 p1 (wA dn) dn (.slice ad dn.length c ez) (.slice a2 (wA dn).length c2 e2) ae 0 T h3 → ∃ h2, fnEnd [.tmp 2] (bindE (blockE 2 (loopN (evC (callX E (alX k_purserlaw01_alive) (F + 200)) 95 (F + 200) none L_purserlaw01_OctetBack_1) (F + 200) ⟨T, [], h3⟩)) (evC (callX E (alX k_purserlaw01_alive) (F + 200)) 95 (F + 200) none R_purserlaw01_OctetBack_1)) = some (.bool true, h2) := by
      intro T I
      obtain ⟨T2, h4, rr, J⟩ := loop_go (f := evC (callX E (alX k_purserlaw01_alive) (F + 200)) 95 (F + 200) none L_purserlaw01_OctetBack_1) (OB1 h3 p1 (wA dn) dn (.slice ad dn.length c ez) (.slice a2 (wA dn).length c2 e2) ae) dn.length (.exit 2) (by intro h; cases h) (OB1 h3 p1 (wA dn) dn (.slice ad dn.length c ez) (.slice a2 (wA dn).length c2 e2) ae dn.length) (ob1_step e x (F + 182) (F + 200) p1 dn okd hld hwd h h3 kz (by omega) h.next ad c ez dh3 (fun q z eq => by have := hlt q z eq; omega) _ ae) (fun T h' I => by
        obtain ⟨il, t3, t5, t7, t8, t43, t44, ey, kq⟩ := I
        have c0 : decide ((dn.length : Int) < (dn.length : Int)) = false := decide_eq_false (by omega)
        refine ⟨_, _, by
          simp (config := {maxSteps := 2000000}) (disch := first | omega | (simp only [List.length_cons, List.length_nil, List.length_append, List.length_drop]; omega)) only [L_purserlaw01_OctetBack_1, t43, t44, c0, ↓b_xor32, ↓b_and32, ↓b_or32, ↓u_not32, b_xor32, b_and32, b_or32, u_not32, w32ad, ↓x_conv, x_convV, ↓x_fieldAddr, x_fieldV, ↓s_nilchk, x_nilchk, Nat.zero_add, Nat.add_zero, Nat.mul_one, ↓l_loop, ↓l_succ, ↓l_normal, l_normal, l_exit, l_ret, l_iteN, ↓h_put_get, ↓h_new_get, ↓h_del_get, h_next_put, h_next_new, h_next_del, Nat.add_assoc, Nat.add_eq_left, Nat.left_eq_add, Nat.add_left_cancel_iff, ↓s_load, m_load, ↓m_load1, m_load1, ↓m_st, m_stE, m_storeI, m_storeE, w_zero, w_succ, ↓s_alloc, ↓x_idxA, ↓x_idxS, x_idxAE, x_idxSE, x_addrE, x_idx, x_lenS, ↓s_len, ↓x_buildS, x_buildE, ↓x_P0, ↓x_P1, x_fill0, x_filli, x_fills, x_fillb, c_int, List.length_cons, List.length_nil, List.cons_append, List.drop_succ_cons, List.drop_zero, List.drop_nil, List.nil_append, Int.reduceAdd, Int.reduceToNat, Int.reduceLT, Int.reduceLE, Nat.reduceAdd, Nat.reduceMul, Nat.reduceLeDiff, Int.reduceEq, Int.reduceSub, Int.cast_ofNat_Int, s_resc, s_consR, m_load4, m_store4, s_res0, ↓s_skip, ↓s_ops, ↓s_dops, ↓s_seq, ↓s_cond, ↓s_block, ↓s_exit, ↓s_ret, ↓s_scope, ↓s_nil, ↓s_op, ↓s_opg, ↓s_wanted', ↓s_wantV, s_wantV, s_wantV0, beq_true, beq_false, ↓s_bindS, s_bindS, ↓s_bindE, s_bindE, s_bindE_ret, s_bindE_exit, s_bindE_iteN, s_norm, ↓s_condV, s_condV, s_block_ret, s_block_normal, s_block_exit, s_block_iteN, ↓s_getp, ↓s_getp0, ↓s_get, s_get0, ↓s_con, ↓s_fn, ↓s_os0, ↓s_os1, ↓s_list0, ↓s_list1, ↓s_mov, ↓s_pick, ↓s_pickE, s_pickE, ↓s_bin, ↓s_un, ↓s_minmax, ↓s_call, ↓s_callv, ↓s_callV, ↓s_ext, s_same, b_eql, b_neq, b_lss, b_leq, b_gtr, b_geq, b_add, b_sub, b_mul, b_eqlb, b_neqb, b_fnil, b_fnil', b_fnil2, b_fnil2', u_neg, u_not, m_two, s_end, s_end', s_end_iteN, s_res0, s_res1, s_tup1, s_tup2, ↓iteN_true, ↓iteN_false, iteN_true, iteN_false, Nat.zero_add, List.nil_append, List.append_nil, Nat.reduceEqDiff, reduceIte, decide_true, decide_false, Bool.not_true, Bool.not_false, List.getElem?_cons_zero, List.getElem?_cons_succ, Bool.false_eq_true, if_true, if_false, beq_self_eq_true]
          exact rfl, ⟨il, (by (simp only [s_getp, s_getp0, Nat.reduceEqDiff, decide_false, decide_true, iteN_false, iteN_true, t3]; try rfl)), (by (simp only [s_getp, s_getp0, Nat.reduceEqDiff, decide_false, decide_true, iteN_false, iteN_true, t5]; try rfl)), (by (simp only [s_getp, s_getp0, Nat.reduceEqDiff, decide_false, decide_true, iteN_false, iteN_true, t7]; try rfl)), (by (simp only [s_getp, s_getp0, Nat.reduceEqDiff, decide_false, decide_true, iteN_false, iteN_true, t8]; try rfl)), (by (simp only [s_getp, s_getp0, Nat.reduceEqDiff, decide_false, decide_true, iteN_false, iteN_true, t43]; try rfl)), (by (simp only [s_getp, s_getp0, Nat.reduceEqDiff, decide_false, decide_true, iteN_false, iteN_true, t44]; try rfl)), ey, kq⟩⟩) dn.length 0 (by omega) (F + 200) (by omega) T h3 I
      rw [rr]
      obtain ⟨_, t3, t5, t7, t8, t43, t44, ey, kq⟩ := J
      rw [List.take_length] at ey
      have r4 := end_go e.ey x.ey (F + 197) p1 (wA dn) (by omega) _ ae h4 ey
      rw [if_pos rfl] at r4
      replace r4 : callX E (alX k_purserlaw01_alive) (F + 200) (.fn k_octet_Eye_End) [.ptr (some (p1, 0))] h4 = some (.int .i64 0, h4) := r4
      have kq' := kq.1
      have lp1 := y3.lt
      have wb4 : Wb h4 (wA dn) a2 c2 e2 := (nw.wb.kp k3).mono kq.1 (fun q hq ea => kq.2 q hq (fun e => by have := nw.wb.lt ea; omega))
      cases hwl : (wA dn).length with
      | zero =>
        rw [hwl] at t7
        have c1 : decide (((0 : Nat) : Int) = 0) = true := rfl
        simp (config := {maxSteps := 2000000}) (disch := first | omega | rfl | (simp only [ofI_len, List.length_append, List.length_take, List.length_drop, List.length_cons, List.length_nil, List.length_replicate, List.length_set]; done) | (simp only [ofI_len, List.length_append, List.length_take, List.length_drop, List.length_cons, List.length_nil, List.length_replicate, List.length_set]; omega)) only [R_purserlaw01_OctetBack_1, t3, t7, t8, r4, c1, ↓s_len, x_lenS, ↓b_xor32, ↓b_and32, ↓b_or32, ↓u_not32, b_xor32, b_and32, b_or32, u_not32, w32ad, ↓x_conv, x_convV, ↓x_fieldAddr, x_fieldV, ↓s_nilchk, x_nilchk, Nat.zero_add, Nat.add_zero, Nat.mul_one, ↓l_loop, ↓l_succ, ↓l_normal, l_normal, l_exit, l_ret, l_iteN, ↓h_put_get, ↓h_new_get, ↓h_del_get, h_next_put, h_next_new, h_next_del, Nat.add_assoc, Nat.add_eq_left, Nat.left_eq_add, Nat.add_left_cancel_iff, ↓s_load, m_load, ↓m_load1, m_load1, ↓m_st, m_stE, m_storeI, m_storeE, w_zero, w_succ, ↓s_alloc, ↓x_idxA, ↓x_idxS, x_idxAE, x_idxSE, x_addrE, x_idx, x_lenS, ↓s_len, ↓x_buildS, x_buildE, ↓x_P0, ↓x_P1, x_fill0, x_filli, x_fills, x_fillb, c_int, List.length_cons, List.length_nil, List.cons_append, List.drop_succ_cons, List.drop_zero, List.drop_nil, List.nil_append, Int.reduceAdd, Int.reduceToNat, Int.reduceLT, Int.reduceLE, Nat.reduceAdd, Nat.reduceMul, Nat.reduceLeDiff, Int.reduceEq, Int.reduceSub, Int.cast_ofNat_Int, s_resc, s_consR, m_load4, m_store4, s_res0, ↓s_skip, ↓s_ops, ↓s_dops, ↓s_seq, ↓s_cond, ↓s_block, ↓s_exit, ↓s_ret, ↓s_scope, ↓s_nil, ↓s_op, ↓s_opg, ↓s_wanted', ↓s_wantV, s_wantV, s_wantV0, beq_true, beq_false, ↓s_bindS, s_bindS, ↓s_bindE, s_bindE, s_bindE_ret, s_bindE_exit, s_bindE_iteN, s_norm, ↓s_condV, s_condV, s_block_ret, s_block_normal, s_block_exit, s_block_iteN, ↓s_getp, ↓s_getp0, ↓s_get, s_get0, ↓s_con, ↓s_fn, ↓s_os0, ↓s_os1, ↓s_list0, ↓s_list1, ↓s_mov, ↓s_pick, ↓s_pickE, s_pickE, ↓s_bin, ↓s_un, ↓s_minmax, ↓s_call, ↓s_callv, ↓s_callV, ↓s_ext, s_same, b_eql, b_neq, b_lss, b_leq, b_gtr, b_geq, b_add, b_sub, b_mul, b_eqlb, b_neqb, b_fnil, b_fnil', b_fnil2, b_fnil2', u_neg, u_not, m_two, s_end, s_end', s_end_iteN, s_res0, s_res1, s_tup1, s_tup2, ↓iteN_true, ↓iteN_false, iteN_true, iteN_false, Nat.zero_add, List.nil_append, List.append_nil, Nat.reduceEqDiff, reduceIte, decide_true, decide_false, Bool.not_true, Bool.not_false, List.getElem?_cons_zero, List.getElem?_cons_succ, Bool.false_eq_true, if_true, if_false, beq_self_eq_true]
        exact ⟨_, rfl⟩
      | succ w =>
        have c1 : decide (((w + 1 : Nat) : Int) = 0) = false := decide_eq_false (by omega)
        have w1 : wr .i64 (((w + 1 : Nat) : Int) - 1) = (w : Int) := by rw [wr_i64 (by omega)]; omega
        obtain ⟨c', sv⟩ := wb4.hi w .i64 (by omega)
        rw [hwl] at sv t7
        have lt : ((wA dn).take w).length = w := by rw [List.length_take]; omega
        obtain ⟨h5, p2, ae2, r5, k5, q5, y5, g5⟩ := look_go (X := alX k_purserlaw01_alive) e.lk x.lk (F + 199) ((wA dn).take w) (by omega) a2 c' 1 h4 ((wb4.src.take w).e1)
        rw [lt] at r5
        have dh5 : DoneH h h5 h.next dn ad c ez := (dh3.mono kq.1 (fun q hq _ ea => kq.2 q hq (fun e => by have := hlt q 0 ea; omega))).mono k5.1 (fun q hq _ _ => k5.2 q hq)
        have kz5 : Kp h h5 := ⟨by have := kz.1; have := k5.1; omega, fun j hj => by rw [k5.2 _ (by have := kz.1; omega), kq.2 _ (by have := kz.1; omega) (by omega), kz.2 _ hj]⟩
        have fin2 : ∀ T, OB2 h5 p2 ((wA dn).take w) dn (.slice ad dn.length c ez) ae2 0 T h5 → ∃ h2, fnEnd [.tmp 2] (bindE (blockE 4 (loopN (evC (callX E (alX k_purserlaw01_alive) (F + 200)) 95 (F + 200) none L_purserlaw01_OctetBack_2) (F + 200) ⟨T, [], h5⟩)) (evC (callX E (alX k_purserlaw01_alive) (F + 200)) 95 (F + 200) none R_purserlaw01_OctetBack_0)) = some (.bool true, h2) := by
          intro T I
          obtain ⟨T3, h6, rr, J⟩ := loop_go (f := evC (callX E (alX k_purserlaw01_alive) (F + 200)) 95 (F + 200) none L_purserlaw01_OctetBack_2) (OB2 h5 p2 ((wA dn).take w) dn (.slice ad dn.length c ez) ae2) dn.length (.exit 4) (by intro h; cases h) (OB2 h5 p2 ((wA dn).take w) dn (.slice ad dn.length c ez) ae2 dn.length) (ob2_step e x (F + 182) (F + 200) p2 ((wA dn).take w) (byt_take bw _) (by omega) dn okd hld h h5 kz5 (by omega) h.next ad c ez dh5 (fun q z eq => by have := hlt q z eq; omega) ae2) (fun T h' I => by
            obtain ⟨il, t3, t5, t10, t76, t77, ⟨wh, at_, t11, ey⟩, kq⟩ := I
            have c0 : decide ((dn.length : Int) < (dn.length : Int)) = false := decide_eq_false (by omega)
            refine ⟨_, _, by
              simp (config := {maxSteps := 2000000}) (disch := first | omega | (simp only [List.length_cons, List.length_nil, List.length_append, List.length_drop]; omega)) only [L_purserlaw01_OctetBack_2, t76, t77, c0, ↓b_xor32, ↓b_and32, ↓b_or32, ↓u_not32, b_xor32, b_and32, b_or32, u_not32, w32ad, ↓x_conv, x_convV, ↓x_fieldAddr, x_fieldV, ↓s_nilchk, x_nilchk, Nat.zero_add, Nat.add_zero, Nat.mul_one, ↓l_loop, ↓l_succ, ↓l_normal, l_normal, l_exit, l_ret, l_iteN, ↓h_put_get, ↓h_new_get, ↓h_del_get, h_next_put, h_next_new, h_next_del, Nat.add_assoc, Nat.add_eq_left, Nat.left_eq_add, Nat.add_left_cancel_iff, ↓s_load, m_load, ↓m_load1, m_load1, ↓m_st, m_stE, m_storeI, m_storeE, w_zero, w_succ, ↓s_alloc, ↓x_idxA, ↓x_idxS, x_idxAE, x_idxSE, x_addrE, x_idx, x_lenS, ↓s_len, ↓x_buildS, x_buildE, ↓x_P0, ↓x_P1, x_fill0, x_filli, x_fills, x_fillb, c_int, List.length_cons, List.length_nil, List.cons_append, List.drop_succ_cons, List.drop_zero, List.drop_nil, List.nil_append, Int.reduceAdd, Int.reduceToNat, Int.reduceLT, Int.reduceLE, Nat.reduceAdd, Nat.reduceMul, Nat.reduceLeDiff, Int.reduceEq, Int.reduceSub, Int.cast_ofNat_Int, s_resc, s_consR, m_load4, m_store4, s_res0, ↓s_skip, ↓s_ops, ↓s_dops, ↓s_seq, ↓s_cond, ↓s_block, ↓s_exit, ↓s_ret, ↓s_scope, ↓s_nil, ↓s_op, ↓s_opg, ↓s_wanted', ↓s_wantV, s_wantV, s_wantV0, beq_true, beq_false, ↓s_bindS, s_bindS, ↓s_bindE, s_bindE, s_bindE_ret, s_bindE_exit, s_bindE_iteN, s_norm, ↓s_condV, s_condV, s_block_ret, s_block_normal, s_block_exit, s_block_iteN, ↓s_getp, ↓s_getp0, ↓s_get, s_get0, ↓s_con, ↓s_fn, ↓s_os0, ↓s_os1, ↓s_list0, ↓s_list1, ↓s_mov, ↓s_pick, ↓s_pickE, s_pickE, ↓s_bin, ↓s_un, ↓s_minmax, ↓s_call, ↓s_callv, ↓s_callV, ↓s_ext, s_same, b_eql, b_neq, b_lss, b_leq, b_gtr, b_geq, b_add, b_sub, b_mul, b_eqlb, b_neqb, b_fnil, b_fnil', b_fnil2, b_fnil2', u_neg, u_not, m_two, s_end, s_end', s_end_iteN, s_res0, s_res1, s_tup1, s_tup2, ↓iteN_true, ↓iteN_false, iteN_true, iteN_false, Nat.zero_add, List.nil_append, List.append_nil, Nat.reduceEqDiff, reduceIte, decide_true, decide_false, Bool.not_true, Bool.not_false, List.getElem?_cons_zero, List.getElem?_cons_succ, Bool.false_eq_true, if_true, if_false, beq_self_eq_true]
              exact rfl, ⟨il, (by (simp only [s_getp, s_getp0, Nat.reduceEqDiff, decide_false, decide_true, iteN_false, iteN_true, t3]; try rfl)), (by (simp only [s_getp, s_getp0, Nat.reduceEqDiff, decide_false, decide_true, iteN_false, iteN_true, t5]; try rfl)), (by (simp only [s_getp, s_getp0, Nat.reduceEqDiff, decide_false, decide_true, iteN_false, iteN_true, t10]; try rfl)), (by (simp only [s_getp, s_getp0, Nat.reduceEqDiff, decide_false, decide_true, iteN_false, iteN_true, t76]; try rfl)), (by (simp only [s_getp, s_getp0, Nat.reduceEqDiff, decide_false, decide_true, iteN_false, iteN_true, t77]; try rfl)), ⟨wh, at_, (by (simp only [s_getp, s_getp0, Nat.reduceEqDiff, decide_false, decide_true, iteN_false, iteN_true, t11]; try rfl)), ey⟩, kq⟩⟩) dn.length 0 (by omega) (F + 200) (by omega) T h5 I
          rw [rr]
          obtain ⟨_, t3, t5, t10, t76, t77, ⟨wh, at_, t11, ey, ew⟩, kq6⟩ := J
          have hwh : wh = false := by
            cases wh with
            | false => rfl
            | true =>
              have e1 := ew rfl
              have e2 := ey.le
              rw [List.take_length] at e1
              omega
          subst hwh
          simp (config := {maxSteps := 2000000}) (disch := first | omega | rfl | (simp only [ofI_len, List.length_append, List.length_take, List.length_drop, List.length_cons, List.length_nil, List.length_replicate, List.length_set]; done) | (simp only [ofI_len, List.length_append, List.length_take, List.length_drop, List.length_cons, List.length_nil, List.length_replicate, List.length_set]; omega)) only [R_purserlaw01_OctetBack_0, t3, t11, ↓b_xor32, ↓b_and32, ↓b_or32, ↓u_not32, b_xor32, b_and32, b_or32, u_not32, w32ad, ↓x_conv, x_convV, ↓x_fieldAddr, x_fieldV, ↓s_nilchk, x_nilchk, Nat.zero_add, Nat.add_zero, Nat.mul_one, ↓l_loop, ↓l_succ, ↓l_normal, l_normal, l_exit, l_ret, l_iteN, ↓h_put_get, ↓h_new_get, ↓h_del_get, h_next_put, h_next_new, h_next_del, Nat.add_assoc, Nat.add_eq_left, Nat.left_eq_add, Nat.add_left_cancel_iff, ↓s_load, m_load, ↓m_load1, m_load1, ↓m_st, m_stE, m_storeI, m_storeE, w_zero, w_succ, ↓s_alloc, ↓x_idxA, ↓x_idxS, x_idxAE, x_idxSE, x_addrE, x_idx, x_lenS, ↓s_len, ↓x_buildS, x_buildE, ↓x_P0, ↓x_P1, x_fill0, x_filli, x_fills, x_fillb, c_int, List.length_cons, List.length_nil, List.cons_append, List.drop_succ_cons, List.drop_zero, List.drop_nil, List.nil_append, Int.reduceAdd, Int.reduceToNat, Int.reduceLT, Int.reduceLE, Nat.reduceAdd, Nat.reduceMul, Nat.reduceLeDiff, Int.reduceEq, Int.reduceSub, Int.cast_ofNat_Int, s_resc, s_consR, m_load4, m_store4, s_res0, ↓s_skip, ↓s_ops, ↓s_dops, ↓s_seq, ↓s_cond, ↓s_block, ↓s_exit, ↓s_ret, ↓s_scope, ↓s_nil, ↓s_op, ↓s_opg, ↓s_wanted', ↓s_wantV, s_wantV, s_wantV0, beq_true, beq_false, ↓s_bindS, s_bindS, ↓s_bindE, s_bindE, s_bindE_ret, s_bindE_exit, s_bindE_iteN, s_norm, ↓s_condV, s_condV, s_block_ret, s_block_normal, s_block_exit, s_block_iteN, ↓s_getp, ↓s_getp0, ↓s_get, s_get0, ↓s_con, ↓s_fn, ↓s_os0, ↓s_os1, ↓s_list0, ↓s_list1, ↓s_mov, ↓s_pick, ↓s_pickE, s_pickE, ↓s_bin, ↓s_un, ↓s_minmax, ↓s_call, ↓s_callv, ↓s_callV, ↓s_ext, s_same, b_eql, b_neq, b_lss, b_leq, b_gtr, b_geq, b_add, b_sub, b_mul, b_eqlb, b_neqb, b_fnil, b_fnil', b_fnil2, b_fnil2', u_neg, u_not, m_two, s_end, s_end', s_end_iteN, s_res0, s_res1, s_tup1, s_tup2, ↓iteN_true, ↓iteN_false, iteN_true, iteN_false, Nat.zero_add, List.nil_append, List.append_nil, Nat.reduceEqDiff, reduceIte, decide_true, decide_false, Bool.not_true, Bool.not_false, List.getElem?_cons_zero, List.getElem?_cons_succ, Bool.false_eq_true, if_true, if_false, beq_self_eq_true]
          exact ⟨_, rfl⟩
        obtain ⟨R, eR⟩ : ∃ R, R_purserlaw01_OctetBack_0 = R := ⟨_, rfl⟩
        obtain ⟨Lo, eL⟩ : ∃ R, L_purserlaw01_OctetBack_2 = R := ⟨_, rfl⟩
        rw [eR, eL] at fin2
        unfold R_purserlaw01_OctetBack_1
        rw [eR, eL]
        obtain ⟨dl, edl⟩ : ∃ d, dn.length = d := ⟨_, rfl⟩
        rw [edl] at t5
        simp (config := {maxSteps := 2000000}) (disch := first | omega | rfl | (simp only [ofI_len, List.length_append, List.length_take, List.length_drop, List.length_cons, List.length_nil, List.length_replicate, List.length_set]; done) | (simp only [ofI_len, List.length_append, List.length_take, List.length_drop, List.length_cons, List.length_nil, List.length_replicate, List.length_set]; omega)) only [t3, t5, t7, t8, r4, r5, c1, w1, sv, ↓x_slcS, x_M0, x_M1, ↓s_len, x_lenS, ↓b_xor32, ↓b_and32, ↓b_or32, ↓u_not32, b_xor32, b_and32, b_or32, u_not32, w32ad, ↓x_conv, x_convV, ↓x_fieldAddr, x_fieldV, ↓s_nilchk, x_nilchk, Nat.zero_add, Nat.add_zero, Nat.mul_one, ↓l_loop, ↓l_succ, ↓l_normal, l_normal, l_exit, l_ret, l_iteN, ↓h_put_get, ↓h_new_get, ↓h_del_get, h_next_put, h_next_new, h_next_del, Nat.add_assoc, Nat.add_eq_left, Nat.left_eq_add, Nat.add_left_cancel_iff, ↓s_load, m_load, ↓m_load1, m_load1, ↓m_st, m_stE, m_storeI, m_storeE, w_zero, w_succ, ↓s_alloc, ↓x_idxA, ↓x_idxS, x_idxAE, x_idxSE, x_addrE, x_idx, x_lenS, ↓s_len, ↓x_buildS, x_buildE, ↓x_P0, ↓x_P1, x_fill0, x_filli, x_fills, x_fillb, c_int, List.length_cons, List.length_nil, List.cons_append, List.drop_succ_cons, List.drop_zero, List.drop_nil, List.nil_append, Int.reduceAdd, Int.reduceToNat, Int.reduceLT, Int.reduceLE, Nat.reduceAdd, Nat.reduceMul, Nat.reduceLeDiff, Int.reduceEq, Int.reduceSub, Int.cast_ofNat_Int, s_resc, s_consR, m_load4, m_store4, s_res0, ↓s_skip, ↓s_ops, ↓s_dops, ↓s_seq, ↓s_cond, ↓s_block, ↓s_exit, ↓s_ret, ↓s_scope, ↓s_nil, ↓s_op, ↓s_opg, ↓s_wanted', ↓s_wantV, s_wantV, s_wantV0, beq_true, beq_false, ↓s_bindS, s_bindS, ↓s_bindE, s_bindE, s_bindE_ret, s_bindE_exit, s_bindE_iteN, s_norm, ↓s_condV, s_condV, s_block_ret, s_block_normal, s_block_exit, s_block_iteN, ↓s_getp, ↓s_getp0, ↓s_get, s_get0, ↓s_con, ↓s_fn, ↓s_os0, ↓s_os1, ↓s_list0, ↓s_list1, ↓s_mov, ↓s_pick, ↓s_pickE, s_pickE, ↓s_bin, ↓s_un, ↓s_minmax, ↓s_call, ↓s_callv, ↓s_callV, ↓s_ext, s_same, b_eql, b_neq, b_lss, b_leq, b_gtr, b_geq, b_add, b_sub, b_mul, b_eqlb, b_neqb, b_fnil, b_fnil', b_fnil2, b_fnil2', u_neg, u_not, m_two, s_end, s_end', s_end_iteN, s_res0, s_res1, s_tup1, s_tup2, ↓iteN_true, ↓iteN_false, iteN_true, iteN_false, Nat.zero_add, List.nil_append, List.append_nil, Nat.reduceEqDiff, reduceIte, decide_true, decide_false, Bool.not_true, Bool.not_false, List.getElem?_cons_zero, List.getElem?_cons_succ, Bool.false_eq_true, if_true, if_false, beq_self_eq_true]
        exact fin2 _ ⟨by omega, (by (simp only [s_getp, s_getp0, Nat.reduceEqDiff, decide_false, decide_true, iteN_false, iteN_true, t3]; try rfl)), by rw [edl]; exact (by (simp only [s_getp, s_getp0, Nat.reduceEqDiff, decide_false, decide_true, iteN_false, iteN_true, t5]; try rfl)), (by (simp only [s_getp, s_getp0, Nat.reduceEqDiff, decide_false, decide_true, iteN_false, iteN_true, t3]; try rfl)), by rw [edl]; exact (by (simp only [s_getp, s_getp0, Nat.reduceEqDiff, decide_false, decide_true, iteN_false, iteN_true, t5]; try rfl)), (by (simp only [s_getp, s_getp0, Nat.reduceEqDiff, decide_false, decide_true, iteN_false, iteN_true, t3]; try rfl)), ⟨true, 0, (by (simp only [s_getp, s_getp0, Nat.reduceEqDiff, decide_false, decide_true, iteN_false, iteN_true, t3]; try rfl)), y5, fun _ => rfl⟩, Kq.refl _ _⟩
    obtain ⟨R, eR⟩ : ∃ R, R_purserlaw01_OctetBack_1 = R := ⟨_, rfl⟩
    obtain ⟨Lo, eL⟩ : ∃ R, L_purserlaw01_OctetBack_1 = R := ⟨_, rfl⟩
    rw [eR, eL] at fin1
    unfold R_purserlaw01_OctetBack_2
    rw [eR, eL]
    obtain ⟨dl, edl⟩ : ∃ d, dn.length = d := ⟨_, rfl⟩
    obtain ⟨wl, ewl⟩ : ∃ d, (wA dn).length = d := ⟨_, rfl⟩
    rw [edl] at t5
    rw [ewl] at r2 r3
    simp (config := {maxSteps := 2000000}) (disch := first | omega | rfl | (simp only [ofI_len, List.length_append, List.length_take, List.length_drop, List.length_cons, List.length_nil, List.length_replicate, List.length_set]; done) | (simp only [ofI_len, List.length_append, List.length_take, List.length_drop, List.length_cons, List.length_nil, List.length_replicate, List.length_set]; omega)) only [t3, t4, t5, r2, r3, ↓s_len, x_lenS, ↓b_xor32, ↓b_and32, ↓b_or32, ↓u_not32, b_xor32, b_and32, b_or32, u_not32, w32ad, ↓x_conv, x_convV, ↓x_fieldAddr, x_fieldV, ↓s_nilchk, x_nilchk, Nat.zero_add, Nat.add_zero, Nat.mul_one, ↓l_loop, ↓l_succ, ↓l_normal, l_normal, l_exit, l_ret, l_iteN, ↓h_put_get, ↓h_new_get, ↓h_del_get, h_next_put, h_next_new, h_next_del, Nat.add_assoc, Nat.add_eq_left, Nat.left_eq_add, Nat.add_left_cancel_iff, ↓s_load, m_load, ↓m_load1, m_load1, ↓m_st, m_stE, m_storeI, m_storeE, w_zero, w_succ, ↓s_alloc, ↓x_idxA, ↓x_idxS, x_idxAE, x_idxSE, x_addrE, x_idx, x_lenS, ↓s_len, ↓x_buildS, x_buildE, ↓x_P0, ↓x_P1, x_fill0, x_filli, x_fills, x_fillb, c_int, List.length_cons, List.length_nil, List.cons_append, List.drop_succ_cons, List.drop_zero, List.drop_nil, List.nil_append, Int.reduceAdd, Int.reduceToNat, Int.reduceLT, Int.reduceLE, Nat.reduceAdd, Nat.reduceMul, Nat.reduceLeDiff, Int.reduceEq, Int.reduceSub, Int.cast_ofNat_Int, s_resc, s_consR, m_load4, m_store4, s_res0, ↓s_skip, ↓s_ops, ↓s_dops, ↓s_seq, ↓s_cond, ↓s_block, ↓s_exit, ↓s_ret, ↓s_scope, ↓s_nil, ↓s_op, ↓s_opg, ↓s_wanted', ↓s_wantV, s_wantV, s_wantV0, beq_true, beq_false, ↓s_bindS, s_bindS, ↓s_bindE, s_bindE, s_bindE_ret, s_bindE_exit, s_bindE_iteN, s_norm, ↓s_condV, s_condV, s_block_ret, s_block_normal, s_block_exit, s_block_iteN, ↓s_getp, ↓s_getp0, ↓s_get, s_get0, ↓s_con, ↓s_fn, ↓s_os0, ↓s_os1, ↓s_list0, ↓s_list1, ↓s_mov, ↓s_pick, ↓s_pickE, s_pickE, ↓s_bin, ↓s_un, ↓s_minmax, ↓s_call, ↓s_callv, ↓s_callV, ↓s_ext, s_same, b_eql, b_neq, b_lss, b_leq, b_gtr, b_geq, b_add, b_sub, b_mul, b_eqlb, b_neqb, b_fnil, b_fnil', b_fnil2, b_fnil2', u_neg, u_not, m_two, s_end, s_end', s_end_iteN, s_res0, s_res1, s_tup1, s_tup2, ↓iteN_true, ↓iteN_false, iteN_true, iteN_false, Nat.zero_add, List.nil_append, List.append_nil, Nat.reduceEqDiff, reduceIte, decide_true, decide_false, Bool.not_true, Bool.not_false, List.getElem?_cons_zero, List.getElem?_cons_succ, Bool.false_eq_true, if_true, if_false, beq_self_eq_true]
    exact fin1 _ ⟨by omega, (by (simp only [s_getp, s_getp0, Nat.reduceEqDiff, decide_false, decide_true, iteN_false, iteN_true, t3]; try rfl)), by rw [edl]; exact (by (simp only [s_getp, s_getp0, Nat.reduceEqDiff, decide_false, decide_true, iteN_false, iteN_true, t5]; try rfl)), by rw [ewl]; exact (by (simp only [s_getp, s_getp0, Nat.reduceEqDiff, decide_false, decide_true, iteN_false, iteN_true, t3]; try rfl)), (by (simp only [s_getp, s_getp0, Nat.reduceEqDiff, decide_false, decide_true, iteN_false, iteN_true, t3]; try rfl)), by rw [edl]; exact (by (simp only [s_getp, s_getp0, Nat.reduceEqDiff, decide_false, decide_true, iteN_false, iteN_true, t5]; try rfl)), (by (simp only [s_getp, s_getp0, Nat.reduceEqDiff, decide_false, decide_true, iteN_false, iteN_true, t3]; try rfl)), by rw [List.take_zero]; exact y3, Kq.refl _ _⟩
  obtain ⟨R, eR⟩ : ∃ R, R_purserlaw01_OctetBack_2 = R := ⟨_, rfl⟩
  obtain ⟨Lo, eL⟩ : ∃ R, L_purserlaw01_OctetBack_0 = R := ⟨_, rfl⟩
  rw [eR, eL] at fin0
  rw [eR, eL]
  obtain ⟨L, eOL⟩ : ∃ L, ops.length = L := ⟨_, rfl⟩
  rw [eOL] at gr ⊢
  simp (config := {maxSteps := 2000000}) (disch := first | omega | rfl | (simp only [ofI_len, List.length_append, List.length_take, List.length_drop, List.length_cons, List.length_nil, List.length_replicate, List.length_set]; done) | (simp only [ofI_len, List.length_append, List.length_take, List.length_drop, List.length_cons, List.length_nil, List.length_replicate, List.length_set]; omega)) only [al, gr, eQ, ↓s_len, x_lenS, ↓b_xor32, ↓b_and32, ↓b_or32, ↓u_not32, b_xor32, b_and32, b_or32, u_not32, w32ad, ↓x_conv, x_convV, ↓x_fieldAddr, x_fieldV, ↓s_nilchk, x_nilchk, Nat.zero_add, Nat.add_zero, Nat.mul_one, ↓l_loop, ↓l_succ, ↓l_normal, l_normal, l_exit, l_ret, l_iteN, ↓h_put_get, ↓h_new_get, ↓h_del_get, h_next_put, h_next_new, h_next_del, Nat.add_assoc, Nat.add_eq_left, Nat.left_eq_add, Nat.add_left_cancel_iff, ↓s_load, m_load, ↓m_load1, m_load1, ↓m_st, m_stE, m_storeI, m_storeE, w_zero, w_succ, ↓s_alloc, ↓x_idxA, ↓x_idxS, x_idxAE, x_idxSE, x_addrE, x_idx, x_lenS, ↓s_len, ↓x_buildS, x_buildE, ↓x_P0, ↓x_P1, x_fill0, x_filli, x_fills, x_fillb, c_int, List.length_cons, List.length_nil, List.cons_append, List.drop_succ_cons, List.drop_zero, List.drop_nil, List.nil_append, Int.reduceAdd, Int.reduceToNat, Int.reduceLT, Int.reduceLE, Nat.reduceAdd, Nat.reduceMul, Nat.reduceLeDiff, Int.reduceEq, Int.reduceSub, Int.cast_ofNat_Int, s_resc, s_consR, m_load4, m_store4, s_res0, ↓s_skip, ↓s_ops, ↓s_dops, ↓s_seq, ↓s_cond, ↓s_block, ↓s_exit, ↓s_ret, ↓s_scope, ↓s_nil, ↓s_op, ↓s_opg, ↓s_wanted', ↓s_wantV, s_wantV, s_wantV0, beq_true, beq_false, ↓s_bindS, s_bindS, ↓s_bindE, s_bindE, s_bindE_ret, s_bindE_exit, s_bindE_iteN, s_norm, ↓s_condV, s_condV, s_block_ret, s_block_normal, s_block_exit, s_block_iteN, ↓s_getp, ↓s_getp0, ↓s_get, s_get0, ↓s_con, ↓s_fn, ↓s_os0, ↓s_os1, ↓s_list0, ↓s_list1, ↓s_mov, ↓s_pick, ↓s_pickE, s_pickE, ↓s_bin, ↓s_un, ↓s_minmax, ↓s_call, ↓s_callv, ↓s_callV, ↓s_ext, s_same, b_eql, b_neq, b_lss, b_leq, b_gtr, b_geq, b_add, b_sub, b_mul, b_eqlb, b_neqb, b_fnil, b_fnil', b_fnil2, b_fnil2', u_neg, u_not, m_two, s_end, s_end', s_end_iteN, s_res0, s_res1, s_tup1, s_tup2, ↓iteN_true, ↓iteN_false, iteN_true, iteN_false, Nat.zero_add, List.nil_append, List.append_nil, Nat.reduceEqDiff, reduceIte, decide_true, decide_false, Bool.not_true, Bool.not_false, List.getElem?_cons_zero, List.getElem?_cons_succ, Bool.false_eq_true, if_true, if_false, beq_self_eq_true]
  exact fin0 _ ⟨by omega, by rw [eOL]; exact (by (simp only [s_getp, s_getp0, Nat.reduceEqDiff, decide_false, decide_true, iteN_false, iteN_true, eL]; try rfl)), (by (simp only [s_getp, s_getp0, Nat.reduceEqDiff, decide_false, decide_true, iteN_false, iteN_true, eL]; try rfl)), (by (simp only [s_getp, s_getp0, Nat.reduceEqDiff, decide_false, decide_true, iteN_false, iteN_true, eL]; try rfl)), by rw [eOL]; exact (by (simp only [s_getp, s_getp0, Nat.reduceEqDiff, decide_false, decide_true, iteN_false, iteN_true, eL]; try rfl)), (by (simp only [s_getp, s_getp0, Nat.reduceEqDiff, decide_false, decide_true, iteN_false, iteN_true, eL]; try rfl)), ⟨none, none, some 0, 0, (by (simp only [s_getp, s_getp0, Nat.reduceEqDiff, decide_false, decide_true, iteN_false, iteN_true, eL]; try rfl)), .new _ _ (by omega) gQ, .inl ⟨rfl, rfl, rfl, rfl⟩, (fun _ _ e => by cases e), (fun _ e => by cases e)⟩, kQ⟩
end Go.Eng
