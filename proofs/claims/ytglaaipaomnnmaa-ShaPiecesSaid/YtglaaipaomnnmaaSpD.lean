/- What functions of the program come to: own work. -/
import Derived.Test.YtglaaipaomnnmaaSpC
namespace Go.Eng
open Go
variable {E : Nat → Option Fn} {X : Orc}
set_option linter.unusedSimpArgs false
set_option linter.unusedVariables false
/-! arguments of any shape, as read-only blocks -/
structure LayB (bl : List (Nat × List V)) (lo hi : Nat) : Prop where
  le : lo ≤ hi
  rg : ∀ x ∈ bl, lo ≤ x.1 ∧ x.1 < hi
  nd : (bl.map (·.1)).Nodup
theorem LayB.nil (lo : Nat) : LayB [] lo lo := ⟨Nat.le_refl _, (fun x hx => by cases hx), List.nodup_nil⟩
theorem LayB.up {bl : List (Nat × List V)} {lo hi hi' : Nat} (b : LayB bl lo hi) (h : hi ≤ hi') : LayB bl lo hi' := ⟨Nat.le_trans b.le h, fun x hx => ⟨(b.rg x hx).1, Nat.lt_of_lt_of_le (b.rg x hx).2 h⟩, b.nd⟩
theorem LayB.app {a b : List (Nat × List V)} {x y z : Nat} (ha : LayB a x y) (hb : LayB b y z) : LayB (a ++ b) x z := by
  refine ⟨Nat.le_trans ha.le hb.le, fun q hq => ?_, ?_⟩
  · rcases List.mem_append.1 hq with h | h
    · exact ⟨(ha.rg q h).1, Nat.lt_of_lt_of_le (ha.rg q h).2 hb.le⟩
    · exact ⟨Nat.le_trans ha.le (hb.rg q h).1, (hb.rg q h).2⟩
  · rw [List.map_append, List.nodup_append]
    refine ⟨ha.nd, hb.nd, fun p hp q hq e => ?_⟩
    obtain ⟨u, hu, rfl⟩ := List.mem_map.1 hp
    obtain ⟨v, hv, rfl⟩ := List.mem_map.1 hq
    have := (ha.rg u hu).2
    have := (hb.rg v hv).1
    omega
theorem LayB.one {b : List (Nat × List V)} {lo hi : Nat} (v : List V) (hb : LayB b (lo + 1) hi) : LayB ((lo, v) :: b) lo hi := by
  have h1 : LayB [(lo, v)] lo (lo + 1) := ⟨by omega, (fun x hx => by rcases List.mem_singleton.1 hx with rfl; exact ⟨Nat.le_refl _, Nat.lt_succ_self _⟩), by simp⟩
  exact h1.app hb
/-- blocks that are there -/
def Has (h : H) (bl : List (Nat × List V)) : Prop := ∀ x ∈ bl, h.get x.1 = some (.cells x.2 .ro) ∧ x.1 < h.next
theorem Has.l {h : H} {a b : List (Nat × List V)} (x : Has h (a ++ b)) : Has h a := fun y hy => x y (List.mem_append_left _ hy)
theorem Has.r {h : H} {a b : List (Nat × List V)} (x : Has h (a ++ b)) : Has h b := fun y hy => x y (List.mem_append_right _ hy)
theorem mkB_skip' : ∀ (bl : List (Nat × List V)) (r : List (Nat × List V)) (i : Nat), (∀ x ∈ bl, x.1 ≠ i) → (mkB (bl ++ r)).get i = (mkB r).get i := by
  intro bl
  induction bl with
  | nil => intro r i _; rfl
  | cons x s ih =>
    intro r i h
    show ((mkB (s ++ r)).set x.1 _).get i = _
    rw [Tr.get_set, if_neg (h x (List.mem_cons_self ..)), ih r i (fun y hy => h y (List.mem_cons_of_mem _ hy))]
theorem has_mk {bl : List (Nat × List V)} {lo nx : Nat} (b : LayB bl lo nx) : Has (mkH bl nx) bl := by
  intro x hx
  refine ⟨?_, (b.rg x hx).2⟩
  obtain ⟨s, t, rfl⟩ := List.append_of_mem hx
  show (mkB (s ++ x :: t)).get x.1 = _
  have nd := b.nd
  rw [List.map_append, List.nodup_append] at nd
  rw [mkB_skip' _ _ _ (fun y hy e => nd.2.2 y.1 (List.mem_map.2 ⟨y, hy, rfl⟩) x.1 (by simp) e)]
  show ((mkB t).set x.1 _).get x.1 = _
  rw [Tr.get_set, if_pos rfl]
/-- a reading: cells, and what is said of them where the blocks are there -/
def Rd (r : Nat → Option Abs) (R : H → List V → Prop) : Prop := ∀ nx, ∃ vs bl n1, r nx = some (vs, bl, n1) ∧ LayB bl nx n1 ∧ ∀ h, Has h bl → R h vs
inductive Al2 {α β : Type} (p : α → β → Prop) : List α → List β → Prop where
  | nil : Al2 p [] []
  | cons {a : α} {b : β} {as : List α} {bs : List β} : p a b → Al2 p as bs → Al2 p (a :: as) (b :: bs)
theorem Al2.len {α β : Type} {p : α → β → Prop} {as : List α} {bs : List β} (h : Al2 p as bs) : as.length = bs.length := by
  induction h with
  | nil => rfl
  | cons _ _ ih => simp [ih]
theorem Al2.imp {α β : Type} {p q : α → β → Prop} {as : List α} {bs : List β} (h : Al2 p as bs) (i : ∀ a b, p a b → q a b) : Al2 q as bs := by
  induction h with
  | nil => exact .nil
  | cons h _ ih => exact .cons (i _ _ h) ih
theorem Al2.get {α β : Type} {p : α → β → Prop} {as : List α} {bs : List β} (h : Al2 p as bs) : ∀ (i : Nat) (a : α), as[i]? = some a → ∃ b, bs[i]? = some b ∧ p a b := by
  induction h with
  | nil => intro i a h; simp at h
  | cons h1 _ ih =>
    intro i a h
    cases i with
    | zero => simp at h; subst h; exact ⟨_, rfl, h1⟩
    | succ i => simp at h; simpa using ih i a h
theorem Al2.comp {α β γ : Type} {p : α → β → Prop} {q : α → γ → Prop} {r : β → γ → Prop} {as : List α} {bs : List β} {cs : List γ} (h : Al2 p as bs) (k : Al2 q as cs) (f : ∀ a b c, p a b → q a c → r b c) : Al2 r bs cs := by
  induction h generalizing cs with
  | nil => cases k; exact .nil
  | cons h1 _ ih => cases k with | cons k1 k2 => exact .cons (f _ _ _ h1 k1) (ih k2)
theorem al2_map {α β γ : Type} {p : γ → β → Prop} (f : α → γ) {as : List α} {bs : List β} : Al2 (fun a b => p (f a) b) as bs → Al2 p (as.map f) bs := by
  intro h
  induction h with
  | nil => exact .nil
  | cons h _ ih => exact .cons h ih
theorem gather {α β : Type} {p : α → β → Prop} : ∀ (as : List α), (∀ a ∈ as, ∃ b, p a b) → ∃ bs, Al2 p as bs := by
  intro as
  induction as with
  | nil => intro _; exact ⟨[], .nil⟩
  | cons a as ih =>
    intro h
    obtain ⟨b, hb⟩ := h a (List.mem_cons_self ..)
    obtain ⟨bs, hbs⟩ := ih (fun x hx => h x (List.mem_cons_of_mem _ hx))
    exact ⟨b :: bs, .cons hb hbs⟩
theorem rd_list {α : Type} {r : α → Nat → Option Abs} {ds : List α} {Rs : List (H → List V → Prop)} (a : Al2 (fun d R => Rd (r d) R) ds Rs) : Rd (absL r ds) (fun h vs => ∃ parts, vs = parts.flatten ∧ Al2 (fun R p => R h p) Rs parts) := by
  induction a with
  | nil => intro nx; exact ⟨[], [], nx, rfl, .nil _, fun h _ => ⟨[], rfl, .nil⟩⟩
  | cons h1 _ ih =>
    intro nx
    obtain ⟨vs, bl, n1, e1, l1, k1⟩ := h1 nx
    obtain ⟨vs2, bl2, n2, e2, l2, k2⟩ := ih n1
    refine ⟨vs ++ vs2, bl ++ bl2, n2, by simp only [absL, e1, e2], l1.app l2, fun h hh => ?_⟩
    obtain ⟨ps, e, al⟩ := k2 h hh.r
    exact ⟨vs :: ps, by rw [e]; rfl, .cons (k1 h hh.l) al⟩
section
variable {Hh : Type} {enc : TypeId × Value → Hh} {P : Program} {W : World} {spare : Nat → Bool} {held : Bool} {base : Nat}
theorem rd_int (n : Nat) {t : TypeId} {k : IntKind} (hu : P.underlying t = some (.int k)) (x : Int) : Rd (absD (H := Hh) P (n + 1) t (.lit (.int k x))) (fun _ vs => vs = [.int k x]) := fun nx => ⟨_, [], nx, by simp only [absD, hu], .nil _, fun _ _ => rfl⟩
theorem rd_boolD (n : Nat) {t : TypeId} (hu : P.underlying t = some .bool) (x : Bool) : Rd (absD (H := Hh) P (n + 1) t (.lit (.bool x))) (fun _ vs => vs = [.bool x]) := fun nx => ⟨_, [], nx, by simp only [absD, hu], .nil _, fun _ _ => rfl⟩
theorem rd_struct (n : Nat) {t : TypeId} {fs : Array Field} (hu : P.underlying t = some (.struct fs)) (ds : List (DataW Hh)) (hl : fs.size = ds.length) {Rs : List (H → List V → Prop)} (a : Al2 (fun (x : Field × DataW Hh) R => Rd (absD P n x.1.type x.2) R) (fs.toList.zip ds) Rs) : Rd (absD P (n + 1) t (.agg ds)) (fun h vs => ∃ parts, vs = parts.flatten ∧ Al2 (fun R p => R h p) Rs parts) := by
  intro nx
  obtain ⟨vs, bl, n1, e, l, k⟩ := rd_list a nx
  refine ⟨vs, bl, n1, ?_, l, k⟩
  unfold absD
  rw [hu]
  simp only [hl, if_true]
  exact e
theorem rd_nil (n : Nat) {t e : TypeId} (hu : P.underlying t = some (.slice e)) : Rd (absD (H := Hh) P (n + 1) t .nil) (fun _ vs => vs = [.slice none 0 none (P.cellsOf e)]) := fun nx => ⟨_, [], nx, by simp only [absD, hu], .nil _, fun _ _ => rfl⟩
theorem rd_slice (n : Nat) {t e : TypeId} (hu : P.underlying t = some (.slice e)) (A B : List (DataW Hh)) {Rs : List (H → List V → Prop)} (a : Al2 (fun d R => Rd (absD P n e d) R) A Rs) :
    Rd (absD P (n + 1) t (.slice A B)) (fun h vs => ∃ ad parts, vs = [.slice ad A.length none (P.cellsOf e)] ∧ Al2 (fun R p => R h p) Rs parts ∧ (A = [] ∨ ∃ k, ad = some (k, 0) ∧ k < h.next ∧ h.get k = some (.cells parts.flatten .ro))) := by
  intro nx
  obtain ⟨vs, bl, n1, e1, l, k⟩ := rd_list a (nx + 1)
  cases hn : A.length + B.length with
  | zero =>
    have h0 : A = [] := List.length_eq_zero_iff.1 (by omega)
    subst h0
    cases a
    refine ⟨_, [], n1, ?_, ⟨by have := l.le; omega, (fun x hx => by cases hx), List.nodup_nil⟩, fun h _ => ⟨some (nx, 0), [], rfl, .nil, .inl rfl⟩⟩
    rw [absD_slc' n hu, e1]
    simp only [hn]
    rfl
  | succ m =>
    refine ⟨[.slice (some (nx, 0)) A.length none (P.cellsOf e)], (nx, vs) :: bl, n1, ?_, l.one vs, fun h hh => ?_⟩
    · rw [absD_slc' n hu, e1]
      simp only [hn]
    · obtain ⟨ps, ev, al⟩ := k h (fun x hx => hh x (List.mem_cons_of_mem _ hx))
      obtain ⟨g, gl⟩ := hh (nx, vs) (List.mem_cons_self ..)
      exact ⟨some (nx, 0), ps, rfl, al, .inr ⟨nx, rfl, gl, by rw [← ev]; exact g⟩⟩
/-- bytes -/
def BytR (l : List Nat) (h : H) (vs : List V) : Prop := ∃ a, vs = [.slice a l.length none 1] ∧ SrcH h a 1 l
theorem trod_u8s' {t e : TypeId} (ht : P.underlying t = some (.slice e)) (he : P.underlying e = some (.int .u8)) (hc : P.cellsOf e = 1) {f : Nat} {cs : List Value} {x : DataW Hh × List MemPlace} (h : DataW.trod enc P W base spare held f t cs = some x) :
    ∃ l : List Nat, byt l = true ∧ (P.bytesOf e = 1 → ∀ B, (∀ n ∈ x.1.weights P t, n ≤ B) → l.length ≤ B) ∧ ∀ n, Rd (absD P (n + 2) t x.1) (BytR l) := by
  have go : ∀ (ys : List (DataW Hh × List MemPlace)), (∀ y ∈ ys, ∃ (g : Nat) (c : List Value), DataW.trod enc P W base spare held g e c = some y) → ∃ l : List Nat, byt l = true ∧ ys.map (·.1) = l.map (fun (z : Nat) => DataW.lit (.int .u8 (z : Int))) := by
    intro ys
    induction ys with
    | nil => intro _; exact ⟨[], rfl, rfl⟩
    | cons y r ih =>
      intro hy
      obtain ⟨l, b, e1⟩ := ih (fun z hz => hy z (List.mem_cons_of_mem _ hz))
      obtain ⟨g, c, hg⟩ := hy y (List.mem_cons_self ..)
      obtain ⟨n, _, e2, w⟩ := DataW.trod_int he hg
      simp [Lit.wf, IntKind.min, IntKind.max, IntKind.signed, IntKind.bits] at w
      obtain ⟨z, rfl⟩ := Int.eq_ofNat_of_zero_le w.1
      refine ⟨z :: l, ?_, by rw [List.map_cons, List.map_cons, e1, e2]⟩
      rw [byt_iff] at b ⊢
      intro q hq
      rcases List.mem_cons.1 hq with rfl | hq
      · have := w.2; omega
      · exact b q hq
  have lits : ∀ (l : List Nat) (n : Nat), Rd (absL (absD (H := Hh) P (n + 1) e) (l.map (fun (z : Nat) => DataW.lit (.int .u8 (z : Int))))) (fun _ vs => vs = ofI .u8 l) := by
    intro l n
    induction l with
    | nil => intro nx; exact ⟨[], [], nx, rfl, .nil _, fun _ _ => rfl⟩
    | cons y r ih =>
      intro nx
      obtain ⟨vs, bl, n1, e1, l1, k1⟩ := rd_int (Hh := Hh) n he (y : Int) nx
      obtain ⟨vs2, bl2, n2, e2, l2, k2⟩ := ih n1
      refine ⟨vs ++ vs2, bl ++ bl2, n2, by rw [List.map_cons]; simp only [absL, e1, e2], l1.app l2, fun h hh => ?_⟩
      rw [k1 h hh.l, k2 h hh.r]; rfl
  rcases DataW.trod_slice ht h with ⟨_, hx⟩ | ⟨ad, len, cap, elems, rest, n, _, _, hx, _, _, _, hl, hi, _, _⟩
  · refine ⟨[], rfl, (fun _ _ _ => Nat.zero_le _), fun n nx => ?_⟩
    rw [hx]
    obtain ⟨vs, bl, n1, e1, l1, k1⟩ := rd_nil (Hh := Hh) (n + 1) ht nx
    exact ⟨vs, bl, n1, e1, l1, fun h hh => ⟨none, by rw [k1 h hh, hc]; rfl, .inl rfl⟩⟩
  · obtain ⟨l, b, el⟩ := go elems (fun y hy => by
      obtain ⟨i, hi1, hi2⟩ := List.getElem_of_mem hy
      have hi3 : elems[i]? = some y := by rw [List.getElem?_eq_getElem hi1, hi2]
      have h4 := (hi i (by omega)).trans hi3
      simp only [Option.bind_eq_some_iff] at h4
      obtain ⟨cs, _, h5⟩ := h4
      exact ⟨_, _, h5⟩)
    refine ⟨l, b, fun hby B hB => ?_, fun n nx => ?_⟩
    · have ll : (elems.map (·.1)).length = l.length := by rw [el, List.length_map]
      have := hB (((elems.map (·.1)).length + (rest.map (·.1)).length) * P.bytesOf e) (by rw [hx]; simp [DataW.weights, ht])
      rw [hby] at this; omega
    rw [hx]
    show ∃ vs bl n1, absD P (n + 2) t (.slice (elems.map (·.1)) (rest.map (·.1))) nx = _ ∧ _
    obtain ⟨vs, bl, n1, e1, l1, k1⟩ := lits l n (nx + 1)
    have ll : (elems.map (·.1)).length = l.length := by rw [el, List.length_map]
    rw [← el] at e1
    cases hn : (elems.map (·.1)).length + (rest.map (·.1)).length with
    | zero =>
      have h0 : l = [] := List.length_eq_zero_iff.1 (by omega)
      refine ⟨[.slice (some (nx, 0)) 0 none 1], [], n1, ?_, ⟨by have := l1.le; omega, (fun x hx => by cases hx), List.nodup_nil⟩, fun h _ => ⟨some (nx, 0), by rw [h0]; rfl, .inl h0⟩⟩
      rw [absD_slc' (n + 1) ht, e1]
      simp only [hn, hc]
    | succ m =>
      refine ⟨[.slice (some (nx, 0)) (elems.map (·.1)).length none 1], (nx, vs) :: bl, n1, ?_, l1.one vs, fun h hh => ⟨some (nx, 0), by rw [← ll], ?_⟩⟩
      · rw [absD_slc' (n + 1) ht, e1]
        simp only [hn, hc]
      · obtain ⟨g, gl⟩ := hh (nx, vs) (List.mem_cons_self ..)
        have ev := k1 h (fun x hx => hh x (List.mem_cons_of_mem _ hx))
        simp only at g gl
        rw [ev] at g
        exact .inr ⟨nx, 0, _, .ro, rfl, rfl, gl, g, by rw [ofI_len]; omega, by rw [List.drop_zero]; exact List.take_of_length_le (by rw [ofI_len]; exact Nat.le_refl _)⟩
end
/-- cells in pieces of k -/
theorem flat_len {k : Nat} : ∀ {ps : List (List V)}, (∀ p ∈ ps, p.length = k) → ps.flatten.length = ps.length * k := by
  intro ps
  induction ps with
  | nil => intro _; simp
  | cons p r ih => intro h; rw [List.flatten_cons, List.length_append, ih (fun q hq => h q (List.mem_cons_of_mem _ hq)), h p (List.mem_cons_self ..), List.length_cons, Nat.succ_mul]; omega
theorem flat_get {k : Nat} : ∀ {ps : List (List V)}, (∀ p ∈ ps, p.length = k) → ∀ (i : Nat) (p : List V), ps[i]? = some p → (ps.flatten.drop (i * k)).take k = p := by
  intro ps
  induction ps with
  | nil => intro _ i p h; simp at h
  | cons q r ih =>
    intro h i p hp
    have hq := h q (List.mem_cons_self ..)
    cases i with
    | zero => simp at hp; subst hp; rw [Nat.zero_mul, List.drop_zero, List.flatten_cons, List.take_left' hq]
    | succ i =>
      rw [List.flatten_cons, Nat.succ_mul, Nat.add_comm, ← List.drop_drop, List.drop_left' hq]
      exact ih (fun x hx => h x (List.mem_cons_of_mem _ hx)) i p (by simpa using hp)
theorem flat_cell {k : Nat} {ps : List (List V)} (hk : ∀ p ∈ ps, p.length = k) (i : Nat) (p : List V) (hp : ps[i]? = some p) (j : Nat) (hj : j < k) : ps.flatten[i * k + j]? = p[j]? := by
  have := flat_get hk i p hp
  rw [← this, List.getElem?_take_of_lt hj, List.getElem?_drop]
/-- a slice of bytes that is nobody else's: it is empty, or has a block -/
def Wb (h : H) (w : List Nat) (ao : Option (Nat × Nat)) (co : Option Nat) (eo : Nat) : Prop := (w = [] ∧ ao = none ∧ co = some 0 ∧ eo = 0) ∨ (0 < w.length ∧ ∃ q md, ao = some (q, 0) ∧ co = none ∧ eo = 1 ∧ h.get q = some (.cells (ofI .u8 w) md) ∧ isRo md = false ∧ q < h.next)
theorem Wb.nil (h : H) : Wb h [] none (some 0) 0 := .inl ⟨rfl, rfl, rfl, rfl⟩
theorem Wb.src {h : H} {w : List Nat} {ao : Option (Nat × Nat)} {co : Option Nat} {eo : Nat} (s : Wb h w ao co eo) : SrcH h ao eo w := by
  rcases s with ⟨h1, _⟩ | ⟨h1, q, md, rfl, rfl, rfl, g, _, hq⟩
  · exact .inl h1
  · exact .inr ⟨q, 0, _, md, rfl, rfl, hq, g, by rw [ofI_len]; omega, by rw [List.drop_zero]; exact List.take_of_length_le (by rw [ofI_len]; exact Nat.le_refl _)⟩
theorem Wb.mono {h h' : H} {w : List Nat} {ao : Option (Nat × Nat)} {co : Option Nat} {eo : Nat} (s : Wb h w ao co eo) (hn : h.next ≤ h'.next) (k : ∀ q, q < h.next → ao = some (q, 0) → h'.get q = h.get q) : Wb h' w ao co eo := by
  rcases s with s | ⟨h1, q, md, e1, e2, e3, g, hm, hq⟩
  · exact .inl s
  · exact .inr ⟨h1, q, md, e1, e2, e3, by rw [k _ hq e1, g], hm, Nat.lt_of_lt_of_le hq hn⟩
theorem Wb.kp {h h' : H} {w : List Nat} {ao : Option (Nat × Nat)} {co : Option Nat} {eo : Nat} (s : Wb h w ao co eo) (k : Kp h h') : Wb h' w ao co eo := s.mono k.1 (fun q hq _ => k.2 q hq)
/-- who has the block -/
theorem Wb.lt {h : H} {w : List Nat} {ao : Option (Nat × Nat)} {co : Option Nat} {eo : Nat} (s : Wb h w ao co eo) {q o : Nat} (e : ao = some (q, o)) : q < h.next := by
  rcases s with ⟨_, e2, _⟩ | ⟨_, q', _, e2, _, _, _, _, hq⟩
  · rw [e2] at e; cases e
  · rw [e2] at e; cases e; exact hq
theorem ap_wb (h : H) (w l : List Nat) (ao : Option (Nat × Nat)) (co : Option Nat) (eo : Nat) (s : Wb h w ao co eo) (hl : w.length + l.length ≤ 1000000) :
    ∃ ao' co' eo' h', appendC h 1 1 (.slice ao w.length co eo) (some (l.length, ofI .u8 l)) = some (.slice ao' (w ++ l).length co' eo', h') ∧ Wb h' (w ++ l) ao' co' eo' ∧ h.next ≤ h'.next ∧ (∀ i, i < h.next → ao ≠ some (i, 0) → h'.get i = h.get i) ∧ (ao' = ao ∨ ao' = some (h.next, 0)) := by
  cases hn : l.length with
  | zero =>
    obtain rfl : l = [] := List.length_eq_zero_iff.1 hn
    rw [List.append_nil]
    exact ⟨_, _, _, _, appN _ _ _ _ _ _, s, Nat.le_refl _, fun _ _ _ => rfl, .inl rfl⟩
  | succ n =>
    rcases s with ⟨rfl, rfl, rfl, rfl⟩ | ⟨h1, q, md, rfl, rfl, rfl, g, hm, hq⟩
    · have a := app0 h n 0 .u8 l (some 0) (by omega)
      rw [List.nil_append, hn]
      refine ⟨_, _, _, _, a, .inr ⟨by omega, h.next, .rw, rfl, rfl, rfl, h_new_same _ _, rfl, Nat.lt_succ_self _⟩, Nat.le_succ _, fun i hi _ => h_new_ne _ _ (by omega), .inr rfl⟩
    · have a := appU_of h q w.length n .u8 l (by omega)
      rw [g, appUI _ _ _ _ hm _ _ _ _ (Nat.le_refl _), take_all w _ (Nat.le_refl _)] at a
      rw [List.length_append, hn]
      refine ⟨_, _, _, _, a, .inr ⟨by rw [List.length_append]; omega, h.next, .sh, rfl, rfl, rfl, h_new_same' _ _ (by rw [h_next_del]), rfl, by simp only [h_next_new, h_next_del]; omega⟩, by simp only [h_next_new, h_next_del]; omega, fun i hi hne => ?_, .inr rfl⟩
      rw [h_new_ne _ _ (by rw [h_next_del]; omega), h_del_ne _ (fun e => hne (by rw [e]))]
/-- a new slice of bytes -/
structure Nw (h h' : H) (w : List Nat) (a : Option (Nat × Nat)) (c : Option Nat) (e : Nat) : Prop where
  kp : Kp h h'
  wb : Wb h' w a c e
  ge : ∀ q o, a = some (q, o) → h.next ≤ q
theorem app_nw (h : H) (l : List Nat) (hl : l.length ≤ 1000000) : ∃ a c e h', appendC h 1 1 (.slice none 0 (some 0) 0) (some (l.length, ofI .u8 l)) = some (.slice a l.length c e, h') ∧ Nw h h' l a c e := by
  obtain ⟨a, c, e, h', r, wb, hn, fr, ow⟩ := ap_wb h [] l none (some 0) 0 (.nil h) (by rw [List.length_nil]; omega)
  refine ⟨a, c, e, h', r, ⟨hn, fun i hi => fr i hi (by intro h; cases h)⟩, wb, fun q o ea => ?_⟩
  rcases ow with ow | ow
  · rw [ow] at ea; cases ea
  · rw [ow] at ea; cases ea; exact Nat.le_refl _
theorem byt_take {l : List Nat} (b : byt l = true) (n : Nat) : byt (l.take n) = true := byt_iff.2 (fun x hx => byt_iff.1 b x (List.mem_of_mem_take hx))
theorem byt_drop {l : List Nat} (b : byt l = true) (n : Nat) : byt (l.drop n) = true := byt_iff.2 (fun x hx => byt_iff.1 b x (List.mem_of_mem_drop hx))
theorem byt_tail {a : Nat} {r : List Nat} (b : byt (a :: r) = true) : byt r = true := byt_iff.2 (fun x hx => byt_iff.1 b x (List.mem_cons_of_mem _ hx))
theorem byt_app {a b : List Nat} (ha : byt a = true) (hb : byt b = true) : byt (a ++ b) = true := byt_iff.2 (fun x hx => by
  rcases List.mem_append.1 hx with h | h
  · exact byt_iff.1 ha x h
  · exact byt_iff.1 hb x h)
/-- a slice of bytes that may be written over -/
def Ow (h : H) (w : List Nat) (a : Option (Nat × Nat)) (e : Nat) : Prop := w = [] ∨ ∃ q md, a = some (q, 0) ∧ e = 1 ∧ h.get q = some (.cells (ofI .u8 w) md) ∧ isRo md = false ∧ q < h.next
theorem Ow.src {h : H} {w : List Nat} {a : Option (Nat × Nat)} {e : Nat} (s : Ow h w a e) : SrcH h a e w := by
  rcases s with s | ⟨q, md, rfl, rfl, g, _, hq⟩
  · exact .inl s
  · exact .inr ⟨q, 0, _, md, rfl, rfl, hq, g, by rw [ofI_len]; omega, by rw [List.drop_zero]; exact List.take_of_length_le (by rw [ofI_len]; exact Nat.le_refl _)⟩
theorem Ow.kp {h h' : H} {w : List Nat} {a : Option (Nat × Nat)} {e : Nat} (s : Ow h w a e) (k : Kp h h') : Ow h' w a e := by
  rcases s with s | ⟨q, md, e1, e2, g, hm, hq⟩
  · exact .inl s
  · exact .inr ⟨q, md, e1, e2, by rw [k.2 _ hq, g], hm, Nat.lt_of_lt_of_le hq k.1⟩
theorem app_bO (h : H) (l : List Nat) (hl : l.length ≤ 1000000) : ∃ a c e h', appendC (h.new (.cells [] .rw)) 1 1 (.slice (some (h.next, 0)) 0 (some 0) 1) (some (l.length, ofI .u8 l)) = some (.slice a l.length c e, h') ∧ Kp h h' ∧ Ow h' l a e ∧ (∀ q z, a = some (q, z) → h.next ≤ q) := by
  have k1 : Kp h (h.new (.cells [] .rw)) := Kp.new _ _
  cases hn : l.length with
  | zero =>
    have l0 : l = [] := List.length_eq_zero_iff.1 hn
    exact ⟨some (h.next, 0), some 0, 1, _, by rw [l0]; exact appN _ _ _ _ _ _, k1, .inl l0, fun q z e => by cases e; exact Nat.le_refl _⟩
  | succ n =>
    have g : (h.new (.cells [] .rw)).get h.next = some (.cells [] .rw) := h_new_same _ _
    have nx : (h.new (.cells [] .rw)).next = h.next + 1 := rfl
    obtain ⟨h1, e1⟩ : ∃ h1, h.new (.cells [] .rw) = h1 := ⟨_, rfl⟩
    rw [e1] at g k1 nx ⊢
    refine ⟨some (h1.next, 0), none, 1, h1.new (.cells (ofI .u8 l) .rw), ?_, k1.trans (Kp.new _ _), .inr ⟨h1.next, .rw, rfl, rfl, h_new_same _ _, rfl, Nat.lt_succ_self _⟩, fun q z e => by cases e; omega⟩
    unfold appendC
    simp only
    have r : (roomy (0 + (n + 1)) 1 && (Nat.beq 1 1 || (some (h.next, 0) : Option (Nat × Nat)).isNone) && (ofI .u8 l).all plainV) = true := by
      rw [plain_ofI]; have : roomy (0 + (n + 1)) 1 = true := by simp [roomy]; omega
      rw [this]; rfl
    have f : fullC (some 0) (0 + (n + 1)) = true := by
      show Nat.blt 0 (0 + (n + 1)) = true
      simp
    rw [r]
    simp only [_root_.cond_true, g, f]
    have rd : readN ([] : List V) 0 (0 * 1) = some [] := rfl
    simp only [rd, List.nil_append, Nat.zero_add]
theorem stAny (k : IntKind) (l : List Nat) (c : List V) (md : Md) (hm : isRo md = false) (h : H) (i off : Nat) (hl : off + c.length ≤ l.length) : storeE (some (.cells (ofI k l) md)) h i off c = some (h.put i (.cells (writeN (ofI k l) off c) md)) := by
  cases md with
  | ro => cases hm
  | rw => exact m_storeE _ _ _ _ _ (by rw [ofI_len]; exact hl)
  | sh => exact m_storeEs _ _ _ _ _ (by rw [ofI_len]; exact hl)
def LsAt (h : H) (o : List Nat) (p : List V) : Prop := ∃ a, p = [.slice a o.length none 1] ∧ SrcH h a 1 o
/-- a row of texts, as an argument -/
def LsH (h : H) (a : Option (Nat × Nat)) (ops : List (List Nat)) : Prop := ∃ parts, Al2 (LsAt h) ops parts ∧ (ops = [] ∨ ∃ k md, a = some (k, 0) ∧ k < h.next ∧ h.get k = some (.cells parts.flatten md))
def LsR (ops : List (List Nat)) (h : H) (vs : List V) : Prop := ∃ a, vs = [.slice a ops.length none 1] ∧ LsH h a ops
section
variable {Hh : Type} {enc : TypeId × Value → Hh} {P : Program} {W : World} {spare : Nat → Bool} {held : Bool} {base : Nat}
theorem trod_bss {t e eb : TypeId}  (ht : P.underlying t = some (.slice e)) (he : P.underlying e = some (.slice eb)) (hb : P.underlying eb = some (.int .u8)) (hc : P.cellsOf eb = 1) (hce : P.cellsOf e = 1)
    {v : Value} {d : DataW Hh} {p : List MemPlace} (h : DataW.Trod enc P W base spare held t v d p) :
    ∃ ops : List (List Nat), (∀ o ∈ ops, byt o = true) ∧ (P.bytesOf e = 24 → P.bytesOf eb = 1 → ∀ B, (∀ n ∈ d.weights P t, n ≤ B) → ops.length ≤ B ∧ ∀ o ∈ ops, o.length ≤ B) ∧ ∀ n, Rd (absD P (n + 4) t d) (LsR ops) := by
  have one : ∀ (g : Nat) (cs : List Value) (x : DataW Hh × List MemPlace), DataW.trod enc P W base spare held g e cs = some x → ∃ o : List Nat, (byt o = true ∧ (P.bytesOf eb = 1 → ∀ B, (∀ n ∈ x.1.weights P e, n ≤ B) → o.length ≤ B)) ∧ ∀ n, Rd (absD P (n + 3) e x.1) (fun h vs => LsAt h o vs) := by
    intro g cs x hx
    obtain ⟨l, bl, wt, r3⟩ := trod_u8s' he hb hc hx
    exact ⟨l, ⟨bl, fun h1' B hB => wt h1' B hB⟩, fun j => r3 (j + 1)⟩
  obtain ⟨f, hf⟩ := h
  rcases DataW.trod_slice ht hf with ⟨_, hx⟩ | ⟨ad, len, cap, elems, rest, n, _, _, hx, _, _, _, hl, hi, _, _⟩
  · have hd : d = .nil := congrArg Prod.fst hx
    subst hd
    refine ⟨[], (fun o ho => by cases ho), (fun _ _ _ _ => ⟨Nat.zero_le _, fun o ho => by cases ho⟩), fun n nx => ?_⟩
    obtain ⟨vs, bl, n1, e1, l1, k1⟩ := rd_nil (Hh := Hh) (n + 3) ht nx
    exact ⟨vs, bl, n1, e1, l1, fun h hh => ⟨none, by rw [k1 h hh, hce]; rfl, [], .nil, .inl rfl⟩⟩
  · have hd : d = .slice (elems.map (·.1)) (rest.map (·.1)) := congrArg Prod.fst hx
    obtain ⟨ops, al⟩ := gather (p := fun (x : DataW Hh × List MemPlace) (o : List Nat) => (byt o = true ∧ (P.bytesOf eb = 1 → ∀ B, (∀ n ∈ x.1.weights P e, n ≤ B) → o.length ≤ B)) ∧ ∀ n, Rd (absD P (n + 3) e x.1) (fun h vs => LsAt h o vs)) elems (fun y hy => by
      obtain ⟨i, hi1, hi2⟩ := List.getElem_of_mem hy
      have hi3 : elems[i]? = some y := by rw [List.getElem?_eq_getElem hi1, hi2]
      have h4 := (hi i (by omega)).trans hi3
      simp only [Option.bind_eq_some_iff] at h4
      obtain ⟨cs, _, h5⟩ := h4
      exact one _ _ _ h5)
    refine ⟨ops, fun o ho => ?_, fun h24 hb1 B hB => ?_, fun n nx => ?_⟩
    · clear hl hi hx hd hf
      induction al with
      | nil => cases ho
      | cons h1 _ ih => rcases List.mem_cons.1 ho with rfl | ho
                        · exact h1.1.1
                        · exact ih ho
    · have hB' : ∀ n ∈ ((elems.map (·.1)).length + (rest.map (·.1)).length) * P.bytesOf e :: DataW.weightsAll P e (elems.map (·.1)), n ≤ B := by
        intro n hn
        apply hB n
        rw [hd]
        simp only [DataW.weights, ht, List.mem_cons, List.mem_append] at hn ⊢
        rcases hn with h | h
        · exact .inl h
        · exact .inr (.inl h)
      refine ⟨?_, fun o ho => ?_⟩
      · have := hB' _ (List.mem_cons_self ..)
        rw [h24, List.length_map, al.len] at this; omega
      · have hB2 : ∀ n ∈ DataW.weightsAll P e (elems.map (·.1)), n ≤ B := fun n hn => hB' n (List.mem_cons_of_mem _ hn)
        clear hl hi hx hd hf hB hB'
        induction al with
        | nil => cases ho
        | cons h1 _ ih =>
          simp only [List.map_cons, DataW.weightsAll, List.mem_append] at hB2
          rcases List.mem_cons.1 ho with rfl | ho
          · exact h1.1.2 hb1 B (fun n hn => hB2 n (.inl hn))
          · exact ih ho (fun n hn => hB2 n (.inr hn))
    · have al2 : Al2 (fun (dd : DataW Hh) R => Rd (absD P (n + 3) e dd) R) (elems.map (·.1)) (ops.map (fun o h vs => LsAt h o vs)) := by
        clear hl hi hx hd hf
        induction al with
        | nil => exact .nil
        | cons h1 _ ih => exact .cons (h1.2 n) ih
      obtain ⟨vs, bl, n1, e1, l1, k1⟩ := rd_slice (Hh := Hh) (n + 3) ht (elems.map (·.1)) (rest.map (·.1)) al2 nx
      rw [hd]
      refine ⟨vs, bl, n1, e1, l1, fun h hh => ?_⟩
      obtain ⟨ad2, parts, ev, al3, t⟩ := k1 h hh
      have le : (elems.map (·.1)).length = ops.length := by rw [List.length_map]; exact al.len
      refine ⟨ad2, by rw [ev, le, hce], parts, ?_, ?_⟩
      · have conv : ∀ (os : List (List Nat)) (ps : List (List V)), Al2 (fun (R : H → List V → Prop) p => R h p) (os.map (fun o h vs => LsAt h o vs)) ps → Al2 (LsAt h) os ps := by
          intro os
          induction os with
          | nil => intro ps a; cases a; exact .nil
          | cons o os ih => intro ps a; cases a with | cons a1 a2 => exact .cons a1 (ih _ a2)
        exact conv _ _ al3
      · rcases t with t | ⟨k, t1, t2, t3⟩
        · left
          rw [t] at le
          exact List.length_eq_zero_iff.1 le.symm
        · exact .inr ⟨k, .ro, t1, t2, t3⟩
end
theorem ls_len {h : H} {ops : List (List Nat)} {parts : List (List V)} (al : Al2 (LsAt h) ops parts) : ∀ p ∈ parts, p.length = 1 := by
  induction al with
  | nil => intro p hp; cases hp
  | cons h1 _ ih => intro p hp; rcases List.mem_cons.1 hp with rfl | hp
                    · obtain ⟨a, rfl, _⟩ := h1; rfl
                    · exact ih p hp
theorem LsH.at {h : H} {a : Option (Nat × Nat)} {ls : List (List Nat)} (x : LsH h a ls) (i : Nat) (l : List Nat) (ho : ls[i]? = some l) : ∃ q vs md b, a = some (q, 0) ∧ q < h.next ∧ h.get q = some (.cells vs md) ∧ vs[i]? = some (.slice b l.length none 1) ∧ SrcH h b 1 l := by
  obtain ⟨parts, al, t⟩ := x
  obtain ⟨p, hp, b, rfl, s⟩ := al.get i l ho
  rcases t with t | ⟨k, md, t1, t2, t3⟩
  · rw [t] at ho; simp at ho
  · have := flat_cell (k := 1) (ls_len al) i _ hp 0 (by omega)
    rw [Nat.mul_one, Nat.add_zero] at this
    exact ⟨k, _, md, b, t1, t2, t3, this, s⟩
/-! the document's hash, known -/
def rofS (l : List Nat) : Option V := if decide (l.length ≤ 100000) && byt l then some (.agg (ofI .u8 (shaV l))) else none
noncomputable def rofX : Orc := bytesX k_purserref04_Of rofS
theorem noRf_no : NoRf noX := ⟨fun _ _ => rfl, fun _ _ => rfl, fun _ _ => rfl, fun _ _ => rfl, fun _ _ => rfl⟩
theorem rofX_ok {P : Program} {g : Gn} (hE : Link P g E) (e : EnRf E) : QOk P g rofX := by
  refine bytesX_ok (callX_ok hE noX_ok (5000 + 300)) ?_
  intro l v hs
  unfold rofS at hs
  split at hs
  · rename_i hb
    cases hs
    simp only [Bool.and_eq_true, decide_eq_true_eq] at hb
    refine ⟨by simp only [dataV, datas_ofI], ?_, ?_⟩
    · intro h0 a c z
      subst h0
      have hz : ∀ z, ∃ h', callX E noX (5000 + 300) (.fn k_purserref04_Of) [.slice a ([] : List Nat).length c z] (mkH [] 1) = some (.agg (ofI .u8 (shaV [])), h') := by
        intro z
        obtain ⟨h', r, _⟩ := rof_goz e noRf_no 5000 [] rfl (by simp) (by omega) a c z (mkH [] 1) (.inl rfl)
        exact ⟨h', r⟩
      exact hz z
    · intro hne c
      obtain ⟨h', r, _⟩ := rof_goz e noRf_no 5000 l hb.2 hb.1 (by omega) (some (0, 0)) c 1 (mkH [(0, ofBytes l)] 1) (.inr ⟨0, 0, ofBytes l, .ro, rfl, rfl, Nat.zero_lt_one, rfl, by rw [ofB_len]; omega, (by rw [List.drop_zero, ← ofI_u8]; exact List.take_of_length_le (by rw [ofI_len]; omega))⟩)
      exact ⟨h', r⟩
  · cases hs
def HasRof (X : Orc) : Prop := ∀ x h l v, rdB h x = some l → rofS l = some v → X (.fn k_purserref04_Of) [x] h = some (v, h)
noncomputable def rofQ (r : Option (List Nat)) (fb : Option (V × H)) (h : H) : Option (V × H) := match r with
  | some l => match rofS l with
    | some v => some (v, h)
    | none => fb
  | none => fb
@[congr] theorem rofQ_congr {r r' : Option (List Nat)} {fb : Option (V × H)} {h : H} (e : r = r') : rofQ r fb h = rofQ r' fb h := by rw [e]
theorem x_rofQ (hx : HasRof X) (N i off n : Nat) (c : Option Nat) (h : H) : callX E X (N + 1) (.fn k_purserref04_Of) [.slice (some (i, off)) (n + 1) c 1] h = rofQ (rdC (n + 1) off (h.get i)) (callX E X (N + 1) (.fn k_purserref04_Of) [.slice (some (i, off)) (n + 1) c 1] h) h := by
  unfold rofQ
  cases hr : rdC (n + 1) off (h.get i) with
  | none => rfl
  | some l =>
    simp only
    cases hv : rofS l with
    | none => rfl
    | some v => exact x_known (hx _ _ l _ hr hv)
theorem rofQ_some (l : List Nat) (hl : l.length ≤ 100000) (hb : byt l = true) (fb : Option (V × H)) (h : H) : rofQ (some l) fb h = some (.agg (ofI .u8 (shaV l)), h) := by
  unfold rofQ rofS; simp only [hl, hb, decide_true, Bool.and_self, if_true]
theorem rd_src {h : H} {a : Option (Nat × Nat)} {l : List Nat} {ez : Nat} (src : SrcH h a ez l) (c : Option Nat) : rdB h (.slice a l.length c ez) = some l := by
  rcases src with rfl | ⟨bi, off, vs, m, rfl, rfl, h3, h4, h5, h6⟩
  · rfl
  · cases hn : l.length with
    | zero => rw [List.length_eq_zero_iff.1 hn]; rfl
    | succ n =>
      show rdC (n + 1) off (h.get bi) = some l
      rw [h4]
      unfold rdC
      rw [hn] at h5 h6
      simp only [readN_of _ _ _ h5, h6, unI]
theorem str_src {h : H} {a : Option (Nat × Nat)} {l : List Nat} {ez : Nat} (src : SrcH h a ez l) (bl : byt l = true) (c : Option Nat) : b2sV h (.slice a l.length c ez) = some (.str l) := by
  rcases src with rfl | ⟨bi, off, vs, m, rfl, rfl, h3, h4, h5, h6⟩
  · cases a <;> rfl
  · cases hn : l.length with
    | zero => rw [List.length_eq_zero_iff.1 hn]; rfl
    | succ n =>
      rw [nx_bs1, h4]
      unfold nsE
      rw [hn] at h5 h6
      simp only [readN_of _ _ _ h5, h6, bytesOf_I _ (byt_iff.1 bl)]
      rfl
/-! Twice, of the document -/
def rtwS (l : List Nat) : Option V := if decide (l.length ≤ 100000) && byt l then some (.agg (ofI .u8 (shaV (shaV l)))) else none
/-- a twin with one byte more -/
theorem own_byte (h : H) (b : List Nat) (y : Nat) (hb : b.length ≤ 100000) : ∃ v1 h1 p md h2, appendC (h.new (.cells [] .rw)) 1 1 (.slice (some (h.next, 0)) 0 (some 0) 1) (some (b.length, ofI .u8 b)) = some (v1, h1) ∧ h.next < h1.next ∧ Kp h h1 ∧
    appendC (h1.new (.cells [.int .u8 (y : Int)] .rw)) 1 1 v1 (some (1, [.int .u8 (y : Int)])) = some (.slice (some (p, 0)) (b.length + 1) none 1, h2) ∧ Kp h h2 ∧ h.next ≤ p ∧ p < h2.next ∧ h2.get p = some (.cells (ofI .u8 (b ++ [y])) md) := by
  by_cases b0 : b = []
  · subst b0
    have a2 := appF_of ((h.new (.cells [] .rw)).new (.cells [.int .u8 (y : Int)] .rw)) h.next 0 0 0 0 .u8 [y] (by omega) (by omega)
    rw [h_new_ne _ _ (by rw [h_next_new]; omega), h_new_same, appF0] at a2
    exact ⟨_, _, _, _, _, appN _ _ _ _ _ _, by rw [h_next_new]; omega, Kp.new _ _, a2, ((Kp.new _ _).trans (Kp.new _ _)).trans (Kp.new _ _), by simp only [h_next_new]; omega, by simp only [h_next_new]; omega, h_new_same _ _⟩
  · obtain ⟨m, em⟩ : ∃ n, b.length = n + 1 := ⟨b.length - 1, by have := List.length_pos_iff.2 b0; omega⟩
    have a1 := appF_of (h.new (.cells [] .rw)) h.next 0 0 0 m .u8 b (by omega) (by omega)
    rw [h_new_same, appF0, ← em] at a1
    obtain ⟨h1, e1⟩ : ∃ h1, (h.new (.cells [] .rw)).new (.cells (ofI .u8 b) .rw) = h1 := ⟨_, rfl⟩
    have n1 : h1.next = h.next + 2 := by rw [← e1]; rfl
    have nn : (h.new (.cells [] .rw)).next = h.next + 1 := rfl
    rw [e1, nn] at a1
    have g1 : h1.get (h.next + 1) = some (.cells (ofI .u8 b) .rw) := by rw [← e1]; exact h_new_same' _ _ rfl
    have a2 := app1 (h1.new (.cells [.int .u8 (y : Int)] .rw)) (h.next + 1) b.length y b .rw rfl (by rw [h_new_ne _ _ (by omega), g1]) rfl (by omega)
    have k1 : Kp h h1 := by rw [← e1]; exact (Kp.new _ _).trans (Kp.new _ _)
    refine ⟨_, h1, _, .sh, _, a1, by omega, k1, a2, ?_, by rw [h_next_new]; omega, by simp only [h_next_new, h_next_del]; omega, h_new_same' _ _ (by rw [h_next_del])⟩
    refine ⟨by simp only [h_next_new, h_next_del]; omega, fun i hi => ?_⟩
    rw [h_new_ne _ _ (by simp only [h_next_new, h_next_del]; omega), h_del_ne _ (by omega), h_new_ne _ _ (by omega), k1.2 _ hi]
theorem b_sadd (e : EqK) (h : H) (a b : List Nat) (hl : a.length + b.length ≤ 35184372088832) : binV .add e h (.str a) (.str b) = some (.str (a ++ b)) := by
  show (bif Nat.ble (a.length + b.length) 35184372088832 then some (V.str (a ++ b)) else none) = _
  rw [cond_ble, if_pos hl]
theorem x_rofH (hx : HasRof X) (N : Nat) (l : List Nat) (bl : byt l = true) (a : Option (Nat × Nat)) (c : Option Nat) (h : H) {ez : Nat} (src : SrcH h a ez l) (hl : l.length ≤ 100000) : callX E X (N + 1) (.fn k_purserref04_Of) [.slice a l.length c ez] h = some (.agg (ofI .u8 (shaV l)), h) :=
  x_known (hx _ _ l _ (rd_src src c) (by unfold rofS; rw [decide_eq_true hl, bl]; rfl))

structure sp0I (T0 : Tr V) (q len : Nat) (md : Md) (h0 : H) (i : Nat) (T : Tr V) (h : H) : Prop where
  il : i ≤ len
  ts : evO T (.t 10) = evO T0 (.t 10)
  tn : evO T (.t 51) = .int .i64 (len : Int)
  ti : evO T (.t 52) = .int .i64 (i : Int)
  k0 : evO T (.t 0) = evO T0 (.t 0)
  k1 : evO T (.t 1) = evO T0 (.t 1)
  k5 : evO T (.t 5) = evO T0 (.t 5)
  k6 : evO T (.t 6) = evO T0 (.t 6)
  k7 : evO T (.t 7) = evO T0 (.t 7)
  k8 : evO T (.t 8) = evO T0 (.t 8)
  k9 : evO T (.t 9) = evO T0 (.t 9)
  k19 : evO T (.t 19) = evO T0 (.t 19)
  k20 : evO T (.t 20) = evO T0 (.t 20)
  g : ∃ cur, h.get q = some (.cells (ofI .u8 cur) md) ∧ cur.length = len
  eq : Eqx q h0 h
/-- every byte of a slice is one greater behind it: nothing else is another one -/
theorem sp0_go (Q : Orc) (m : Nat) (T0 : Tr V) (h0 : H) (w : List Nat) (hw : w.length ≤ 1000000) (hm : w.length < m) (a : Option (Nat × Nat)) (c : Option Nat) (e : Nat) (wb : Ow h0 w a e) (ts : evO T0 (.t 10) = .slice a w.length c e) (tn : evO T0 (.t 51) = .int .i64 (w.length : Int)) (ti : evO T0 (.t 52) = .int .i64 0) :
    ∃ T' h', loopN (evC Q 121 m none L_purserlaw04_ShaPieces_0) m ⟨T0, [], h0⟩ = some (.exit 2, ⟨T', [], h'⟩) ∧ (h'.next = h0.next ∧ ∀ j, (w ≠ [] → a ≠ some (j, 0)) → h'.get j = h0.get j) ∧ evO T' (.t 0) = evO T0 (.t 0) ∧ evO T' (.t 1) = evO T0 (.t 1) ∧ evO T' (.t 5) = evO T0 (.t 5) ∧ evO T' (.t 6) = evO T0 (.t 6) ∧ evO T' (.t 7) = evO T0 (.t 7) ∧ evO T' (.t 8) = evO T0 (.t 8) ∧ evO T' (.t 9) = evO T0 (.t 9) ∧ evO T' (.t 19) = evO T0 (.t 19) ∧ evO T' (.t 20) = evO T0 (.t 20) := by
  rcases (show w = [] ∨ (w ≠ [] ∧ Ow h0 w a e) from (Classical.em (w = [])).imp id (fun h => ⟨h, wb⟩)) with rfl | ⟨hne, wb⟩
  · obtain ⟨m, rfl⟩ : ∃ k, m = k + 1 := ⟨m - 1, by omega⟩
    rw [l_succ]
    have c0 : decide ((0 : Int) < ((0 : Nat) : Int)) = false := rfl
    have c1 : decide ((0 : Int) < 0) = false := rfl
    rw [List.length_nil] at tn
    refine ⟨_, h0, by
      simp (config := {maxSteps := 2000000}) (disch := first | omega | (simp only [List.length_cons, List.length_nil, List.length_append, List.length_drop]; omega)) only [L_purserlaw04_ShaPieces_0, tn, ti, c0, c1, ↓b_xor32, ↓b_and32, ↓b_or32, ↓u_not32, b_xor32, b_and32, b_or32, u_not32, w32ad, ↓x_conv, x_convV, ↓x_fieldAddr, x_fieldV, ↓s_nilchk, x_nilchk, Nat.zero_add, Nat.add_zero, Nat.mul_one, ↓l_loop, ↓l_succ, ↓l_normal, l_normal, l_exit, l_ret, l_iteN, ↓h_put_get, ↓h_new_get, ↓h_del_get, h_next_put, h_next_new, h_next_del, Nat.add_assoc, Nat.add_eq_left, Nat.left_eq_add, Nat.add_left_cancel_iff, ↓s_load, m_load, ↓m_load1, m_load1, ↓m_st, m_stE, m_storeI, m_storeE, w_zero, w_succ, ↓s_alloc, ↓x_idxA, ↓x_idxS, x_idxAE, x_idxSE, x_addrE, x_idx, x_lenS, ↓s_len, ↓x_buildS, x_buildE, ↓x_P0, ↓x_P1, x_fill0, x_filli, x_fills, x_fillb, c_int, List.length_cons, List.length_nil, List.cons_append, List.drop_succ_cons, List.drop_zero, List.drop_nil, List.nil_append, Int.reduceAdd, Int.reduceToNat, Int.reduceLT, Int.reduceLE, Nat.reduceAdd, Nat.reduceMul, Nat.reduceLeDiff, Int.reduceEq, Int.reduceSub, Int.cast_ofNat_Int, s_resc, s_consR, m_load4, m_store4, s_res0, ↓s_skip, ↓s_ops, ↓s_dops, ↓s_seq, ↓s_cond, ↓s_block, ↓s_exit, ↓s_ret, ↓s_scope, ↓s_nil, ↓s_op, ↓s_opg, ↓s_wanted', ↓s_wantV, s_wantV, s_wantV0, beq_true, beq_false, ↓s_bindS, s_bindS, ↓s_bindE, s_bindE, s_bindE_ret, s_bindE_exit, s_bindE_iteN, s_norm, ↓s_condV, s_condV, s_block_ret, s_block_normal, s_block_exit, s_block_iteN, ↓s_getp, ↓s_getp0, ↓s_get, s_get0, ↓s_con, ↓s_fn, ↓s_os0, ↓s_os1, ↓s_list0, ↓s_list1, ↓s_mov, ↓s_pick, ↓s_pickE, s_pickE, ↓s_bin, ↓s_un, ↓s_minmax, ↓s_call, ↓s_callv, ↓s_callV, ↓s_ext, s_same, b_eql, b_neq, b_lss, b_leq, b_gtr, b_geq, b_add, b_sub, b_mul, b_eqlb, b_neqb, b_fnil, b_fnil', b_fnil2, b_fnil2', u_neg, u_not, m_two, s_end, s_end', s_end_iteN, s_res0, s_res1, s_tup1, s_tup2, ↓iteN_true, ↓iteN_false, iteN_true, iteN_false, Nat.zero_add, List.nil_append, List.append_nil, Nat.reduceEqDiff, reduceIte, decide_true, decide_false, Bool.not_true, Bool.not_false, List.getElem?_cons_zero, List.getElem?_cons_succ, Bool.false_eq_true, if_true, if_false, beq_self_eq_true]
      exact rfl, ⟨rfl, fun _ _ => rfl⟩, by (simp only [s_getp, s_getp0, Nat.reduceEqDiff, decide_false, decide_true, iteN_false, iteN_true]), by (simp only [s_getp, s_getp0, Nat.reduceEqDiff, decide_false, decide_true, iteN_false, iteN_true]), by (simp only [s_getp, s_getp0, Nat.reduceEqDiff, decide_false, decide_true, iteN_false, iteN_true]), by (simp only [s_getp, s_getp0, Nat.reduceEqDiff, decide_false, decide_true, iteN_false, iteN_true]), by (simp only [s_getp, s_getp0, Nat.reduceEqDiff, decide_false, decide_true, iteN_false, iteN_true]), by (simp only [s_getp, s_getp0, Nat.reduceEqDiff, decide_false, decide_true, iteN_false, iteN_true]), by (simp only [s_getp, s_getp0, Nat.reduceEqDiff, decide_false, decide_true, iteN_false, iteN_true]), by (simp only [s_getp, s_getp0, Nat.reduceEqDiff, decide_false, decide_true, iteN_false, iteN_true]), by (simp only [s_getp, s_getp0, Nat.reduceEqDiff, decide_false, decide_true, iteN_false, iteN_true])⟩
  · obtain ⟨q, md, rfl, rfl, g, hmd, hq⟩ := wb.resolve_left hne
    obtain ⟨T', h', r, J⟩ := loop_go (f := evC Q 121 m none L_purserlaw04_ShaPieces_0) (sp0I T0 q w.length md h0) w.length (.exit 2) (by intro h; cases h) (sp0I T0 q w.length md h0 w.length) (fun i T h hi I => by
      obtain ⟨_, t1, t2, t3, k0, k1, k5, k6, k7, k8, k9, k19, k20, ⟨cur, gq, lc⟩, eq⟩ := I
      have t1' := t1.trans ts
      have c0 : decide ((i : Int) < (w.length : Int)) = true := decide_eq_true (by omega)
      have wi : wr .i64 ((i : Int) + 1) = ((i + 1 : Nat) : Int) := by rw [wr_i64 (by omega)]; omega
      have ix : idx (i : Int) w.length = some i := idxn hi
      have cg : (ofI .u8 cur)[i]? = some (.int .u8 (cur.getD i 0 : Nat)) := ofI_get _ _ _ (by omega)
      have w8 : wr .u8 (((cur.getD i 0 : Nat) : Int) + 1) = (((cur.getD i 0 + 1) % 256 : Nat) : Int) := w8n (cur.getD i 0 + 1)
      generalize cur.getD i 0 = y at *
      generalize (y + 1) % 256 = y' at *
      have ste := fun (h : H) (v : V) => stAny .u8 cur [v] md hmd h q i (by simp only [List.length_cons, List.length_nil]; omega)
      have su := wr1I .u8 cur i y' (by omega)
      have i1 : i + 1 ≤ w.length := hi
      have ls : (cur.set i y').length = w.length := by rw [List.length_set, lc]
      obtain ⟨n, en⟩ : ∃ n, w.length = n := ⟨_, rfl⟩
      rw [en] at t1' t2 c0 ix
      refine ⟨_, _, by
        simp (config := {maxSteps := 2000000}) (disch := first | omega | (simp only [List.length_cons, List.length_nil, List.length_append, List.length_drop]; omega)) only [L_purserlaw04_ShaPieces_0, t1', t2, t3, gq, cg, c0, wi, ix, w8, ste, su, ↓b_xor32, ↓b_and32, ↓b_or32, ↓u_not32, b_xor32, b_and32, b_or32, u_not32, w32ad, ↓x_conv, x_convV, ↓x_fieldAddr, x_fieldV, ↓s_nilchk, x_nilchk, Nat.zero_add, Nat.add_zero, Nat.mul_one, ↓l_loop, ↓l_succ, ↓l_normal, l_normal, l_exit, l_ret, l_iteN, ↓h_put_get, ↓h_new_get, ↓h_del_get, h_next_put, h_next_new, h_next_del, Nat.add_assoc, Nat.add_eq_left, Nat.left_eq_add, Nat.add_left_cancel_iff, ↓s_load, m_load, ↓m_load1, m_load1, ↓m_st, m_stE, m_storeI, w_zero, w_succ, ↓s_alloc, ↓x_idxA, ↓x_idxS, x_idxAE, x_idxSE, x_addrE, x_idx, x_lenS, ↓s_len, ↓x_buildS, x_buildE, ↓x_P0, ↓x_P1, x_fill0, x_filli, x_fills, x_fillb, c_int, List.length_cons, List.length_nil, List.cons_append, List.drop_succ_cons, List.drop_zero, List.drop_nil, List.nil_append, Int.reduceAdd, Int.reduceToNat, Int.reduceLT, Int.reduceLE, Nat.reduceAdd, Nat.reduceMul, Nat.reduceLeDiff, Int.reduceEq, Int.reduceSub, Int.cast_ofNat_Int, s_resc, s_consR, m_load4, m_store4, s_res0, ↓s_skip, ↓s_ops, ↓s_dops, ↓s_seq, ↓s_cond, ↓s_block, ↓s_exit, ↓s_ret, ↓s_scope, ↓s_nil, ↓s_op, ↓s_opg, ↓s_wanted', ↓s_wantV, s_wantV, s_wantV0, beq_true, beq_false, ↓s_bindS, s_bindS, ↓s_bindE, s_bindE, s_bindE_ret, s_bindE_exit, s_bindE_iteN, s_norm, ↓s_condV, s_condV, s_block_ret, s_block_normal, s_block_exit, s_block_iteN, ↓s_getp, ↓s_getp0, ↓s_get, s_get0, ↓s_con, ↓s_fn, ↓s_os0, ↓s_os1, ↓s_list0, ↓s_list1, ↓s_mov, ↓s_pick, ↓s_pickE, s_pickE, ↓s_bin, ↓s_un, ↓s_minmax, ↓s_call, ↓s_callv, ↓s_callV, ↓s_ext, s_same, b_eql, b_neq, b_lss, b_leq, b_gtr, b_geq, b_add, b_sub, b_mul, b_eqlb, b_neqb, b_fnil, b_fnil', b_fnil2, b_fnil2', u_neg, u_not, m_two, s_end, s_end', s_end_iteN, s_res0, s_res1, s_tup1, s_tup2, ↓iteN_true, ↓iteN_false, iteN_true, iteN_false, Nat.zero_add, List.nil_append, List.append_nil, Nat.reduceEqDiff, reduceIte, decide_true, decide_false, Bool.not_true, Bool.not_false, List.getElem?_cons_zero, List.getElem?_cons_succ, Bool.false_eq_true, if_true, if_false, beq_self_eq_true]
        exact rfl, ⟨i1, Eq.trans (by (simp only [s_getp, s_getp0, Nat.reduceEqDiff, decide_false, decide_true, iteN_false, iteN_true])) t1, by rw [en]; exact Eq.trans (by (simp only [s_getp, s_getp0, Nat.reduceEqDiff, decide_false, decide_true, iteN_false, iteN_true])) t2, (by (simp only [s_getp, s_getp0, Nat.reduceEqDiff, decide_false, decide_true, iteN_false, iteN_true, t3]; try rfl)), Eq.trans (by (simp only [s_getp, s_getp0, Nat.reduceEqDiff, decide_false, decide_true, iteN_false, iteN_true])) k0, Eq.trans (by (simp only [s_getp, s_getp0, Nat.reduceEqDiff, decide_false, decide_true, iteN_false, iteN_true])) k1, Eq.trans (by (simp only [s_getp, s_getp0, Nat.reduceEqDiff, decide_false, decide_true, iteN_false, iteN_true])) k5, Eq.trans (by (simp only [s_getp, s_getp0, Nat.reduceEqDiff, decide_false, decide_true, iteN_false, iteN_true])) k6, Eq.trans (by (simp only [s_getp, s_getp0, Nat.reduceEqDiff, decide_false, decide_true, iteN_false, iteN_true])) k7, Eq.trans (by (simp only [s_getp, s_getp0, Nat.reduceEqDiff, decide_false, decide_true, iteN_false, iteN_true])) k8, Eq.trans (by (simp only [s_getp, s_getp0, Nat.reduceEqDiff, decide_false, decide_true, iteN_false, iteN_true])) k9, Eq.trans (by (simp only [s_getp, s_getp0, Nat.reduceEqDiff, decide_false, decide_true, iteN_false, iteN_true])) k19, Eq.trans (by (simp only [s_getp, s_getp0, Nat.reduceEqDiff, decide_false, decide_true, iteN_false, iteN_true])) k20, ⟨cur.set i y', h_put_same _ _ _, ls⟩, eq.put _⟩⟩) (fun T h I => by
      obtain ⟨il, t1, t2, t3, k0, k1, k5, k6, k7, k8, k9, k19, k20, gq, eq⟩ := I
      have c0 : decide ((w.length : Int) < (w.length : Int)) = false := decide_eq_false (by omega)
      refine ⟨_, _, by
        simp (config := {maxSteps := 2000000}) (disch := first | omega | (simp only [List.length_cons, List.length_nil, List.length_append, List.length_drop]; omega)) only [L_purserlaw04_ShaPieces_0, t2, t3, c0, ↓b_xor32, ↓b_and32, ↓b_or32, ↓u_not32, b_xor32, b_and32, b_or32, u_not32, w32ad, ↓x_conv, x_convV, ↓x_fieldAddr, x_fieldV, ↓s_nilchk, x_nilchk, Nat.zero_add, Nat.add_zero, Nat.mul_one, ↓l_loop, ↓l_succ, ↓l_normal, l_normal, l_exit, l_ret, l_iteN, ↓h_put_get, ↓h_new_get, ↓h_del_get, h_next_put, h_next_new, h_next_del, Nat.add_assoc, Nat.add_eq_left, Nat.left_eq_add, Nat.add_left_cancel_iff, ↓s_load, m_load, ↓m_load1, m_load1, ↓m_st, m_stE, m_storeI, m_storeE, w_zero, w_succ, ↓s_alloc, ↓x_idxA, ↓x_idxS, x_idxAE, x_idxSE, x_addrE, x_idx, x_lenS, ↓s_len, ↓x_buildS, x_buildE, ↓x_P0, ↓x_P1, x_fill0, x_filli, x_fills, x_fillb, c_int, List.length_cons, List.length_nil, List.cons_append, List.drop_succ_cons, List.drop_zero, List.drop_nil, List.nil_append, Int.reduceAdd, Int.reduceToNat, Int.reduceLT, Int.reduceLE, Nat.reduceAdd, Nat.reduceMul, Nat.reduceLeDiff, Int.reduceEq, Int.reduceSub, Int.cast_ofNat_Int, s_resc, s_consR, m_load4, m_store4, s_res0, ↓s_skip, ↓s_ops, ↓s_dops, ↓s_seq, ↓s_cond, ↓s_block, ↓s_exit, ↓s_ret, ↓s_scope, ↓s_nil, ↓s_op, ↓s_opg, ↓s_wanted', ↓s_wantV, s_wantV, s_wantV0, beq_true, beq_false, ↓s_bindS, s_bindS, ↓s_bindE, s_bindE, s_bindE_ret, s_bindE_exit, s_bindE_iteN, s_norm, ↓s_condV, s_condV, s_block_ret, s_block_normal, s_block_exit, s_block_iteN, ↓s_getp, ↓s_getp0, ↓s_get, s_get0, ↓s_con, ↓s_fn, ↓s_os0, ↓s_os1, ↓s_list0, ↓s_list1, ↓s_mov, ↓s_pick, ↓s_pickE, s_pickE, ↓s_bin, ↓s_un, ↓s_minmax, ↓s_call, ↓s_callv, ↓s_callV, ↓s_ext, s_same, b_eql, b_neq, b_lss, b_leq, b_gtr, b_geq, b_add, b_sub, b_mul, b_eqlb, b_neqb, b_fnil, b_fnil', b_fnil2, b_fnil2', u_neg, u_not, m_two, s_end, s_end', s_end_iteN, s_res0, s_res1, s_tup1, s_tup2, ↓iteN_true, ↓iteN_false, iteN_true, iteN_false, Nat.zero_add, List.nil_append, List.append_nil, Nat.reduceEqDiff, reduceIte, decide_true, decide_false, Bool.not_true, Bool.not_false, List.getElem?_cons_zero, List.getElem?_cons_succ, Bool.false_eq_true, if_true, if_false, beq_self_eq_true]
        exact rfl, ⟨il, Eq.trans (by (simp only [s_getp, s_getp0, Nat.reduceEqDiff, decide_false, decide_true, iteN_false, iteN_true])) t1, Eq.trans (by (simp only [s_getp, s_getp0, Nat.reduceEqDiff, decide_false, decide_true, iteN_false, iteN_true])) t2, Eq.trans (by (simp only [s_getp, s_getp0, Nat.reduceEqDiff, decide_false, decide_true, iteN_false, iteN_true])) t3, Eq.trans (by (simp only [s_getp, s_getp0, Nat.reduceEqDiff, decide_false, decide_true, iteN_false, iteN_true])) k0, Eq.trans (by (simp only [s_getp, s_getp0, Nat.reduceEqDiff, decide_false, decide_true, iteN_false, iteN_true])) k1, Eq.trans (by (simp only [s_getp, s_getp0, Nat.reduceEqDiff, decide_false, decide_true, iteN_false, iteN_true])) k5, Eq.trans (by (simp only [s_getp, s_getp0, Nat.reduceEqDiff, decide_false, decide_true, iteN_false, iteN_true])) k6, Eq.trans (by (simp only [s_getp, s_getp0, Nat.reduceEqDiff, decide_false, decide_true, iteN_false, iteN_true])) k7, Eq.trans (by (simp only [s_getp, s_getp0, Nat.reduceEqDiff, decide_false, decide_true, iteN_false, iteN_true])) k8, Eq.trans (by (simp only [s_getp, s_getp0, Nat.reduceEqDiff, decide_false, decide_true, iteN_false, iteN_true])) k9, Eq.trans (by (simp only [s_getp, s_getp0, Nat.reduceEqDiff, decide_false, decide_true, iteN_false, iteN_true])) k19, Eq.trans (by (simp only [s_getp, s_getp0, Nat.reduceEqDiff, decide_false, decide_true, iteN_false, iteN_true])) k20, gq, eq⟩⟩) w.length 0 (by omega) m (by omega) T0 h0 ⟨by omega, rfl, tn, ti, rfl, rfl, rfl, rfl, rfl, rfl, rfl, rfl, rfl, ⟨w, g, rfl⟩, .refl _ _⟩
    exact ⟨T', h', r, ⟨J.eq.1, fun j hj => J.eq.2 j (fun e => hj hne (by rw [e]))⟩, J.k0, J.k1, J.k5, J.k6, J.k7, J.k8, J.k9, J.k19, J.k20⟩
end Go.Eng
namespace Go.Eng
open Go
variable {E : Nat → Option Fn} {X : Orc}
set_option linter.unusedSimpArgs false
set_option linter.unusedVariables false
def zC : List V := ofI .u32 (List.replicate 8 0) ++ (ofI .u8 (List.replicate 64 0) ++ [.int .u64 0, .bool false])
theorem zC_len : zC.length = 74 := rfl
theorem copy_at (ec : E k_sha_Sum_Copy = some f_sha_Sum_Copy) (xc : ∀ a h, X (.fn k_sha_Sum_Copy) a h = none) (e : EnSha E) (x : NoSha X) (N p : Nat) (s : Sm) (ok : SmOk s) (h : H) (hp : SumAt h p s) :
    ∃ h', callX E X (N + 2) (.fn k_sha_Sum_Copy) [.ptr (some (p, 0))] h = some (.ptr (some (h.next, 0)), h') ∧ SumAt h' h.next s ∧ Kp h h' ∧ h'.next = h.next + 1 := by
  rw [x_cfn ec _ _ (Nat.le_of_ble_eq_true rfl) (xc _ _)]
  have su := sums_go e x N p s.st s.blk s.len .rw h ok.1 ok.2.1 hp.2
  have g := hp.2
  have lC : (sumC s.st s.blk s.len).length = 74 := sumC_len _ _ _ ok.1 ok.2.1
  have pC := sumC_plain s.st s.blk s.len
  generalize hC : sumC s.st s.blk s.len = C at *
  have ld : loadE (some (.cells C .rw)) (some 74) 0 = some (.agg C) := by
    rw [m_loadN, readN_of _ _ _ (by omega), List.drop_zero, List.take_of_length_le (by omega)]
  have sA : ∀ (h : H) (i : Nat), storeV h 74 (.ptr (some (i, 0))) (.agg C) = storeE (h.get i) h i 0 C := fun h i => m_storeA h 74 i 0 _ (by rw [lC, pC]; rfl)
  have sE : ∀ (h : H) (i : Nat), storeE (some (.cells zC .rw)) h i 0 C = some (h.put i (.cells C .rw)) := fun h i => by
    rw [m_storeE _ _ _ _ _ (by rw [lC, zC_len]; omega), writeN_all _ _ (by rw [lC, zC_len])]
  have zz : zC = [.int .u32 0, .int .u32 0, .int .u32 0, .int .u32 0, .int .u32 0, .int .u32 0, .int .u32 0, .int .u32 0, .int .u8 0, .int .u8 0, .int .u8 0, .int .u8 0, .int .u8 0, .int .u8 0, .int .u8 0, .int .u8 0, .int .u8 0, .int .u8 0, .int .u8 0, .int .u8 0, .int .u8 0, .int .u8 0, .int .u8 0, .int .u8 0, .int .u8 0, .int .u8 0, .int .u8 0, .int .u8 0, .int .u8 0, .int .u8 0, .int .u8 0, .int .u8 0, .int .u8 0, .int .u8 0, .int .u8 0, .int .u8 0, .int .u8 0, .int .u8 0, .int .u8 0, .int .u8 0, .int .u8 0, .int .u8 0, .int .u8 0, .int .u8 0, .int .u8 0, .int .u8 0, .int .u8 0, .int .u8 0, .int .u8 0, .int .u8 0, .int .u8 0, .int .u8 0, .int .u8 0, .int .u8 0, .int .u8 0, .int .u8 0, .int .u8 0, .int .u8 0, .int .u8 0, .int .u8 0, .int .u8 0, .int .u8 0, .int .u8 0, .int .u8 0, .int .u8 0, .int .u8 0, .int .u8 0, .int .u8 0, .int .u8 0, .int .u8 0, .int .u8 0, .int .u8 0, .int .u64 0, .bool false] := rfl
  obtain ⟨h1, e1⟩ : ∃ h1, (h.new (.cells zC .rw)).put h.next (.cells C .rw) = h1 := ⟨_, rfl⟩
  refine ⟨h1, ?_, ⟨by rw [← e1]; show h.next < h.next + 1; omega, by rw [hC, ← e1]; exact h_put_same _ _ _⟩, by rw [← e1]; exact (Kp.new _ _).put _ (Nat.le_refl _), by rw [← e1]; rfl⟩
  simp (config := {maxSteps := 2000000}) (disch := first | omega | (simp only [List.length_cons, List.length_nil, List.length_append, List.length_drop]; omega)) only [su, g, ld, sA, sE, ← zz, e1, ↓b_xor32, ↓b_and32, ↓b_or32, ↓u_not32, b_xor32, b_and32, b_or32, u_not32, w32ad, ↓x_conv, x_convV, ↓x_fieldAddr, x_fieldV, ↓s_nilchk, x_nilchk, Nat.zero_add, Nat.add_zero, Nat.mul_one, ↓l_loop, ↓l_succ, ↓l_normal, l_normal, l_exit, l_ret, l_iteN, ↓h_put_get, ↓h_new_get, ↓h_del_get, h_next_put, h_next_new, h_next_del, Nat.add_assoc, Nat.add_eq_left, Nat.left_eq_add, Nat.add_left_cancel_iff, ↓s_load, m_load, ↓m_load1, m_load1, ↓m_st, m_stE, m_storeI, m_storeE, w_zero, w_succ, ↓s_alloc, ↓x_idxA, ↓x_idxS, x_idxAE, x_idxSE, x_addrE, x_idx, x_lenS, ↓s_len, ↓x_buildS, x_buildE, ↓x_P0, ↓x_P1, x_fill0, x_filli, x_fills, x_fillb, c_int, List.length_cons, List.length_nil, List.cons_append, List.drop_succ_cons, List.drop_zero, List.drop_nil, List.nil_append, Int.reduceAdd, Int.reduceToNat, Int.reduceLT, Int.reduceLE, Nat.reduceAdd, Nat.reduceMul, Nat.reduceLeDiff, Int.reduceEq, Int.reduceSub, Int.cast_ofNat_Int, s_resc, s_consR, m_load4, m_store4, s_res0, ↓s_skip, ↓s_ops, ↓s_dops, ↓s_seq, ↓s_cond, ↓s_block, ↓s_exit, ↓s_ret, ↓s_scope, ↓s_nil, ↓s_op, ↓s_opg, ↓s_wanted', ↓s_wantV, s_wantV, s_wantV0, beq_true, beq_false, ↓s_bindS, s_bindS, ↓s_bindE, s_bindE, s_bindE_ret, s_bindE_exit, s_bindE_iteN, s_norm, ↓s_condV, s_condV, s_block_ret, s_block_normal, s_block_exit, s_block_iteN, ↓s_getp, ↓s_getp0, ↓s_get, s_get0, ↓s_con, ↓s_fn, ↓s_os0, ↓s_os1, ↓s_list0, ↓s_list1, ↓s_mov, ↓s_pick, ↓s_pickE, s_pickE, ↓s_bin, ↓s_un, ↓s_minmax, ↓s_call, ↓s_callv, ↓s_callV, ↓s_ext, s_same, b_eql, b_neq, b_lss, b_leq, b_gtr, b_geq, b_add, b_sub, b_mul, b_eqlb, b_neqb, b_fnil, b_fnil', b_fnil2, b_fnil2', u_neg, u_not, m_two, s_end, s_end', s_end_iteN, s_res0, s_res1, s_tup1, s_tup2, ↓iteN_true, ↓iteN_false, iteN_true, iteN_false, Nat.zero_add, List.nil_append, List.append_nil, Nat.reduceEqDiff, reduceIte, decide_true, decide_false, Bool.not_true, Bool.not_false, List.getElem?_cons_zero, List.getElem?_cons_succ, Bool.false_eq_true, if_true, if_false, beq_self_eq_true]
theorem pneq (h : H) (p : Nat) : binV .neq (.ref .p) h (.ptr (some (p, 0))) (.ptr (some (p, 0))) = some (.bool false) := by
  show binE .neq (.ref .p) h (.ptr (some (p, 0))) (.ptr (some (p, 0))) = _
  simp [binE, eqlV, eqRef, eqPtr, isEq]
theorem pnil (h : H) (p : Nat) : binV .eql (.ref .p) h (.ptr (some (p, 0))) (.ptr none) = some (.bool false) := rfl
end Go.Eng
