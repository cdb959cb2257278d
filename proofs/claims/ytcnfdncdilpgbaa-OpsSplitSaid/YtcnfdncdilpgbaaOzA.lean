/- What functions of the program come to: own work. -/
import Derived.Test.YtcnfdncdilpgbaaCrG
import Derived.Test.YtcnfdncdilpgbaaOqF
namespace Go.Eng
open Go
variable {E : Nat → Option Fn} {X : Orc}
set_option linter.unusedSimpArgs false
set_option linter.unusedVariables false
/-! arguments of any shape, as read-only blocks -/
structure LayB (bl : List (Nat × List V)) (lo hi : Nat) : Prop where
  le : lo ≤ hi
  rg : ∀ x ∈ bl, lo ≤ x.1 ∧ x.1 < hi
  nd : (bl.map (·.1)).Nodup
theorem LayB.nil (lo : Nat) : LayB [] lo lo := ⟨Nat.le_refl _, (fun x hx => by cases hx), List.nodup_nil⟩
theorem LayB.up {bl : List (Nat × List V)} {lo hi hi' : Nat} (b : LayB bl lo hi) (h : hi ≤ hi') : LayB bl lo hi' := ⟨Nat.le_trans b.le h, fun x hx => ⟨(b.rg x hx).1, Nat.lt_of_lt_of_le (b.rg x hx).2 h⟩, b.nd⟩
theorem LayB.app {a b : List (Nat × List V)} {x y z : Nat} (ha : LayB a x y) (hb : LayB b y z) : LayB (a ++ b) x z := by
  refine ⟨Nat.le_trans ha.le hb.le, fun q hq => ?_, ?_⟩
  · rcases List.mem_append.1 hq with h | h
    · exact ⟨(ha.rg q h).1, Nat.lt_of_lt_of_le (ha.rg q h).2 hb.le⟩
    · exact ⟨Nat.le_trans ha.le (hb.rg q h).1, (hb.rg q h).2⟩
  · rw [List.map_append, List.nodup_append]
    refine ⟨ha.nd, hb.nd, fun p hp q hq e => ?_⟩
    obtain ⟨u, hu, rfl⟩ := List.mem_map.1 hp
    obtain ⟨v, hv, rfl⟩ := List.mem_map.1 hq
    have := (ha.rg u hu).2
    have := (hb.rg v hv).1
    omega
theorem LayB.one {b : List (Nat × List V)} {lo hi : Nat} (v : List V) (hb : LayB b (lo + 1) hi) : LayB ((lo, v) :: b) lo hi := by
  have h1 : LayB [(lo, v)] lo (lo + 1) := ⟨by omega, (fun x hx => by rcases List.mem_singleton.1 hx with rfl; exact ⟨Nat.le_refl _, Nat.lt_succ_self _⟩), by simp⟩
  exact h1.app hb
/-- blocks that are there -/
def Has (h : H) (bl : List (Nat × List V)) : Prop := ∀ x ∈ bl, h.get x.1 = some (.cells x.2 .ro) ∧ x.1 < h.next
theorem Has.l {h : H} {a b : List (Nat × List V)} (x : Has h (a ++ b)) : Has h a := fun y hy => x y (List.mem_append_left _ hy)
theorem Has.r {h : H} {a b : List (Nat × List V)} (x : Has h (a ++ b)) : Has h b := fun y hy => x y (List.mem_append_right _ hy)
theorem mkB_skip' : ∀ (bl : List (Nat × List V)) (r : List (Nat × List V)) (i : Nat), (∀ x ∈ bl, x.1 ≠ i) → (mkB (bl ++ r)).get i = (mkB r).get i := by
  intro bl
  induction bl with
  | nil => intro r i _; rfl
  | cons x s ih =>
    intro r i h
    show ((mkB (s ++ r)).set x.1 _).get i = _
    rw [Tr.get_set, if_neg (h x (List.mem_cons_self ..)), ih r i (fun y hy => h y (List.mem_cons_of_mem _ hy))]
theorem has_mk {bl : List (Nat × List V)} {lo nx : Nat} (b : LayB bl lo nx) : Has (mkH bl nx) bl := by
  intro x hx
  refine ⟨?_, (b.rg x hx).2⟩
  obtain ⟨s, t, rfl⟩ := List.append_of_mem hx
  show (mkB (s ++ x :: t)).get x.1 = _
  have nd := b.nd
  rw [List.map_append, List.nodup_append] at nd
  rw [mkB_skip' _ _ _ (fun y hy e => nd.2.2 y.1 (List.mem_map.2 ⟨y, hy, rfl⟩) x.1 (by simp) e)]
  show ((mkB t).set x.1 _).get x.1 = _
  rw [Tr.get_set, if_pos rfl]
/-- a reading: cells, and what is said of them where the blocks are there -/
def Rd (r : Nat → Option Abs) (R : H → List V → Prop) : Prop := ∀ nx, ∃ vs bl n1, r nx = some (vs, bl, n1) ∧ LayB bl nx n1 ∧ ∀ h, Has h bl → R h vs
inductive Al2 {α β : Type} (p : α → β → Prop) : List α → List β → Prop where
  | nil : Al2 p [] []
  | cons {a : α} {b : β} {as : List α} {bs : List β} : p a b → Al2 p as bs → Al2 p (a :: as) (b :: bs)
theorem Al2.len {α β : Type} {p : α → β → Prop} {as : List α} {bs : List β} (h : Al2 p as bs) : as.length = bs.length := by
  induction h with
  | nil => rfl
  | cons _ _ ih => simp [ih]
theorem Al2.imp {α β : Type} {p q : α → β → Prop} {as : List α} {bs : List β} (h : Al2 p as bs) (i : ∀ a b, p a b → q a b) : Al2 q as bs := by
  induction h with
  | nil => exact .nil
  | cons h _ ih => exact .cons (i _ _ h) ih
theorem Al2.get {α β : Type} {p : α → β → Prop} {as : List α} {bs : List β} (h : Al2 p as bs) : ∀ (i : Nat) (a : α), as[i]? = some a → ∃ b, bs[i]? = some b ∧ p a b := by
  induction h with
  | nil => intro i a h; simp at h
  | cons h1 _ ih =>
    intro i a h
    cases i with
    | zero => simp at h; subst h; exact ⟨_, rfl, h1⟩
    | succ i => simp at h; simpa using ih i a h
theorem Al2.comp {α β γ : Type} {p : α → β → Prop} {q : α → γ → Prop} {r : β → γ → Prop} {as : List α} {bs : List β} {cs : List γ} (h : Al2 p as bs) (k : Al2 q as cs) (f : ∀ a b c, p a b → q a c → r b c) : Al2 r bs cs := by
  induction h generalizing cs with
  | nil => cases k; exact .nil
  | cons h1 _ ih => cases k with | cons k1 k2 => exact .cons (f _ _ _ h1 k1) (ih k2)
theorem al2_map {α β γ : Type} {p : γ → β → Prop} (f : α → γ) {as : List α} {bs : List β} : Al2 (fun a b => p (f a) b) as bs → Al2 p (as.map f) bs := by
  intro h
  induction h with
  | nil => exact .nil
  | cons h _ ih => exact .cons h ih
theorem gather {α β : Type} {p : α → β → Prop} : ∀ (as : List α), (∀ a ∈ as, ∃ b, p a b) → ∃ bs, Al2 p as bs := by
  intro as
  induction as with
  | nil => intro _; exact ⟨[], .nil⟩
  | cons a as ih =>
    intro h
    obtain ⟨b, hb⟩ := h a (List.mem_cons_self ..)
    obtain ⟨bs, hbs⟩ := ih (fun x hx => h x (List.mem_cons_of_mem _ hx))
    exact ⟨b :: bs, .cons hb hbs⟩
theorem rd_list {α : Type} {r : α → Nat → Option Abs} {ds : List α} {Rs : List (H → List V → Prop)} (a : Al2 (fun d R => Rd (r d) R) ds Rs) : Rd (absL r ds) (fun h vs => ∃ parts, vs = parts.flatten ∧ Al2 (fun R p => R h p) Rs parts) := by
  induction a with
  | nil => intro nx; exact ⟨[], [], nx, rfl, .nil _, fun h _ => ⟨[], rfl, .nil⟩⟩
  | cons h1 _ ih =>
    intro nx
    obtain ⟨vs, bl, n1, e1, l1, k1⟩ := h1 nx
    obtain ⟨vs2, bl2, n2, e2, l2, k2⟩ := ih n1
    refine ⟨vs ++ vs2, bl ++ bl2, n2, by simp only [absL, e1, e2], l1.app l2, fun h hh => ?_⟩
    obtain ⟨ps, e, al⟩ := k2 h hh.r
    exact ⟨vs :: ps, by rw [e]; rfl, .cons (k1 h hh.l) al⟩
section
variable {Hh : Type} {enc : TypeId × Value → Hh} {P : Program} {W : World} {spare : Nat → Bool} {held : Bool} {base : Nat}
theorem rd_int (n : Nat) {t : TypeId} {k : IntKind} (hu : P.underlying t = some (.int k)) (x : Int) : Rd (absD (H := Hh) P (n + 1) t (.lit (.int k x))) (fun _ vs => vs = [.int k x]) := fun nx => ⟨_, [], nx, by simp only [absD, hu], .nil _, fun _ _ => rfl⟩
theorem rd_boolD (n : Nat) {t : TypeId} (hu : P.underlying t = some .bool) (x : Bool) : Rd (absD (H := Hh) P (n + 1) t (.lit (.bool x))) (fun _ vs => vs = [.bool x]) := fun nx => ⟨_, [], nx, by simp only [absD, hu], .nil _, fun _ _ => rfl⟩
theorem rd_struct (n : Nat) {t : TypeId} {fs : Array Field} (hu : P.underlying t = some (.struct fs)) (ds : List (DataW Hh)) (hl : fs.size = ds.length) {Rs : List (H → List V → Prop)} (a : Al2 (fun (x : Field × DataW Hh) R => Rd (absD P n x.1.type x.2) R) (fs.toList.zip ds) Rs) : Rd (absD P (n + 1) t (.agg ds)) (fun h vs => ∃ parts, vs = parts.flatten ∧ Al2 (fun R p => R h p) Rs parts) := by
  intro nx
  obtain ⟨vs, bl, n1, e, l, k⟩ := rd_list a nx
  refine ⟨vs, bl, n1, ?_, l, k⟩
  unfold absD
  rw [hu]
  simp only [hl, if_true]
  exact e
theorem rd_nil (n : Nat) {t e : TypeId} (hu : P.underlying t = some (.slice e)) : Rd (absD (H := Hh) P (n + 1) t .nil) (fun _ vs => vs = [.slice none 0 none (P.cellsOf e)]) := fun nx => ⟨_, [], nx, by simp only [absD, hu], .nil _, fun _ _ => rfl⟩
theorem rd_slice (n : Nat) {t e : TypeId} (hu : P.underlying t = some (.slice e)) (A B : List (DataW Hh)) {Rs : List (H → List V → Prop)} (a : Al2 (fun d R => Rd (absD P n e d) R) A Rs) :
    Rd (absD P (n + 1) t (.slice A B)) (fun h vs => ∃ ad parts, vs = [.slice ad A.length none (P.cellsOf e)] ∧ Al2 (fun R p => R h p) Rs parts ∧ (A = [] ∨ ∃ k, ad = some (k, 0) ∧ k < h.next ∧ h.get k = some (.cells parts.flatten .ro))) := by
  intro nx
  obtain ⟨vs, bl, n1, e1, l, k⟩ := rd_list a (nx + 1)
  cases hn : A.length + B.length with
  | zero =>
    have h0 : A = [] := List.length_eq_zero_iff.1 (by omega)
    subst h0
    cases a
    refine ⟨_, [], n1, ?_, ⟨by have := l.le; omega, (fun x hx => by cases hx), List.nodup_nil⟩, fun h _ => ⟨some (nx, 0), [], rfl, .nil, .inl rfl⟩⟩
    rw [absD_slc' n hu, e1]
    simp only [hn]
    rfl
  | succ m =>
    refine ⟨[.slice (some (nx, 0)) A.length none (P.cellsOf e)], (nx, vs) :: bl, n1, ?_, l.one vs, fun h hh => ?_⟩
    · rw [absD_slc' n hu, e1]
      simp only [hn]
    · obtain ⟨ps, ev, al⟩ := k h (fun x hx => hh x (List.mem_cons_of_mem _ hx))
      obtain ⟨g, gl⟩ := hh (nx, vs) (List.mem_cons_self ..)
      exact ⟨some (nx, 0), ps, rfl, al, .inr ⟨nx, rfl, gl, by rw [← ev]; exact g⟩⟩
/-- bytes -/
def BytR (l : List Nat) (h : H) (vs : List V) : Prop := ∃ a, vs = [.slice a l.length none 1] ∧ SrcH h a 1 l
theorem trod_u8s' {t e : TypeId} (ht : P.underlying t = some (.slice e)) (he : P.underlying e = some (.int .u8)) (hc : P.cellsOf e = 1) {f : Nat} {cs : List Value} {x : DataW Hh × List MemPlace} (h : DataW.trod enc P W base spare held f t cs = some x) :
    ∃ l : List Nat, byt l = true ∧ (P.bytesOf e = 1 → ∀ B, (∀ n ∈ x.1.weights P t, n ≤ B) → l.length ≤ B) ∧ ∀ n, Rd (absD P (n + 2) t x.1) (BytR l) := by
  have go : ∀ (ys : List (DataW Hh × List MemPlace)), (∀ y ∈ ys, ∃ (g : Nat) (c : List Value), DataW.trod enc P W base spare held g e c = some y) → ∃ l : List Nat, byt l = true ∧ ys.map (·.1) = l.map (fun (z : Nat) => DataW.lit (.int .u8 (z : Int))) := by
    intro ys
    induction ys with
    | nil => intro _; exact ⟨[], rfl, rfl⟩
    | cons y r ih =>
      intro hy
      obtain ⟨l, b, e1⟩ := ih (fun z hz => hy z (List.mem_cons_of_mem _ hz))
      obtain ⟨g, c, hg⟩ := hy y (List.mem_cons_self ..)
      obtain ⟨n, _, e2, w⟩ := DataW.trod_int he hg
      simp [Lit.wf, IntKind.min, IntKind.max, IntKind.signed, IntKind.bits] at w
      obtain ⟨z, rfl⟩ := Int.eq_ofNat_of_zero_le w.1
      refine ⟨z :: l, ?_, by rw [List.map_cons, List.map_cons, e1, e2]⟩
      rw [byt_iff] at b ⊢
      intro q hq
      rcases List.mem_cons.1 hq with rfl | hq
      · have := w.2; omega
      · exact b q hq
  have lits : ∀ (l : List Nat) (n : Nat), Rd (absL (absD (H := Hh) P (n + 1) e) (l.map (fun (z : Nat) => DataW.lit (.int .u8 (z : Int))))) (fun _ vs => vs = ofI .u8 l) := by
    intro l n
    induction l with
    | nil => intro nx; exact ⟨[], [], nx, rfl, .nil _, fun _ _ => rfl⟩
    | cons y r ih =>
      intro nx
      obtain ⟨vs, bl, n1, e1, l1, k1⟩ := rd_int (Hh := Hh) n he (y : Int) nx
      obtain ⟨vs2, bl2, n2, e2, l2, k2⟩ := ih n1
      refine ⟨vs ++ vs2, bl ++ bl2, n2, by rw [List.map_cons]; simp only [absL, e1, e2], l1.app l2, fun h hh => ?_⟩
      rw [k1 h hh.l, k2 h hh.r]; rfl
  rcases DataW.trod_slice ht h with ⟨_, hx⟩ | ⟨ad, len, cap, elems, rest, n, _, _, hx, _, _, _, hl, hi, _, _⟩
  · refine ⟨[], rfl, (fun _ _ _ => Nat.zero_le _), fun n nx => ?_⟩
    rw [hx]
    obtain ⟨vs, bl, n1, e1, l1, k1⟩ := rd_nil (Hh := Hh) (n + 1) ht nx
    exact ⟨vs, bl, n1, e1, l1, fun h hh => ⟨none, by rw [k1 h hh, hc]; rfl, .inl rfl⟩⟩
  · obtain ⟨l, b, el⟩ := go elems (fun y hy => by
      obtain ⟨i, hi1, hi2⟩ := List.getElem_of_mem hy
      have hi3 : elems[i]? = some y := by rw [List.getElem?_eq_getElem hi1, hi2]
      have h4 := (hi i (by omega)).trans hi3
      simp only [Option.bind_eq_some_iff] at h4
      obtain ⟨cs, _, h5⟩ := h4
      exact ⟨_, _, h5⟩)
    refine ⟨l, b, fun hby B hB => ?_, fun n nx => ?_⟩
    · have ll : (elems.map (·.1)).length = l.length := by rw [el, List.length_map]
      have := hB (((elems.map (·.1)).length + (rest.map (·.1)).length) * P.bytesOf e) (by rw [hx]; simp [DataW.weights, ht])
      rw [hby] at this; omega
    rw [hx]
    show ∃ vs bl n1, absD P (n + 2) t (.slice (elems.map (·.1)) (rest.map (·.1))) nx = _ ∧ _
    obtain ⟨vs, bl, n1, e1, l1, k1⟩ := lits l n (nx + 1)
    have ll : (elems.map (·.1)).length = l.length := by rw [el, List.length_map]
    rw [← el] at e1
    cases hn : (elems.map (·.1)).length + (rest.map (·.1)).length with
    | zero =>
      have h0 : l = [] := List.length_eq_zero_iff.1 (by omega)
      refine ⟨[.slice (some (nx, 0)) 0 none 1], [], n1, ?_, ⟨by have := l1.le; omega, (fun x hx => by cases hx), List.nodup_nil⟩, fun h _ => ⟨some (nx, 0), by rw [h0]; rfl, .inl h0⟩⟩
      rw [absD_slc' (n + 1) ht, e1]
      simp only [hn, hc]
    | succ m =>
      refine ⟨[.slice (some (nx, 0)) (elems.map (·.1)).length none 1], (nx, vs) :: bl, n1, ?_, l1.one vs, fun h hh => ⟨some (nx, 0), by rw [← ll], ?_⟩⟩
      · rw [absD_slc' (n + 1) ht, e1]
        simp only [hn, hc]
      · obtain ⟨g, gl⟩ := hh (nx, vs) (List.mem_cons_self ..)
        have ev := k1 h (fun x hx => hh x (List.mem_cons_of_mem _ hx))
        simp only at g gl
        rw [ev] at g
        exact .inr ⟨nx, 0, _, .ro, rfl, rfl, gl, g, by rw [ofI_len]; omega, by rw [List.drop_zero]; exact List.take_of_length_le (by rw [ofI_len]; exact Nat.le_refl _)⟩
end
/-- cells in pieces of k -/
theorem flat_len {k : Nat} : ∀ {ps : List (List V)}, (∀ p ∈ ps, p.length = k) → ps.flatten.length = ps.length * k := by
  intro ps
  induction ps with
  | nil => intro _; simp
  | cons p r ih => intro h; rw [List.flatten_cons, List.length_append, ih (fun q hq => h q (List.mem_cons_of_mem _ hq)), h p (List.mem_cons_self ..), List.length_cons, Nat.succ_mul]; omega
theorem flat_get {k : Nat} : ∀ {ps : List (List V)}, (∀ p ∈ ps, p.length = k) → ∀ (i : Nat) (p : List V), ps[i]? = some p → (ps.flatten.drop (i * k)).take k = p := by
  intro ps
  induction ps with
  | nil => intro _ i p h; simp at h
  | cons q r ih =>
    intro h i p hp
    have hq := h q (List.mem_cons_self ..)
    cases i with
    | zero => simp at hp; subst hp; rw [Nat.zero_mul, List.drop_zero, List.flatten_cons, List.take_left' hq]
    | succ i =>
      rw [List.flatten_cons, Nat.succ_mul, Nat.add_comm, ← List.drop_drop, List.drop_left' hq]
      exact ih (fun x hx => h x (List.mem_cons_of_mem _ hx)) i p (by simpa using hp)
theorem flat_cell {k : Nat} {ps : List (List V)} (hk : ∀ p ∈ ps, p.length = k) (i : Nat) (p : List V) (hp : ps[i]? = some p) (j : Nat) (hj : j < k) : ps.flatten[i * k + j]? = p[j]? := by
  have := flat_get hk i p hp
  rw [← this, List.getElem?_take_of_lt hj, List.getElem?_drop]
end Go.Eng
namespace Go.Eng
open Go
variable {E : Nat → Option Fn} {X : Orc}
set_option linter.unusedSimpArgs false
set_option linter.unusedVariables false
/-- a slice of bytes that is nobody else's: it is empty, or has a block -/
def Wb (h : H) (w : List Nat) (ao : Option (Nat × Nat)) (co : Option Nat) (eo : Nat) : Prop := (w = [] ∧ ao = none ∧ co = some 0 ∧ eo = 0) ∨ (0 < w.length ∧ ∃ q md, ao = some (q, 0) ∧ co = none ∧ eo = 1 ∧ h.get q = some (.cells (ofI .u8 w) md) ∧ isRo md = false ∧ q < h.next)
theorem Wb.nil (h : H) : Wb h [] none (some 0) 0 := .inl ⟨rfl, rfl, rfl, rfl⟩
theorem Wb.src {h : H} {w : List Nat} {ao : Option (Nat × Nat)} {co : Option Nat} {eo : Nat} (s : Wb h w ao co eo) : SrcH h ao eo w := by
  rcases s with ⟨h1, _⟩ | ⟨h1, q, md, rfl, rfl, rfl, g, _, hq⟩
  · exact .inl h1
  · exact .inr ⟨q, 0, _, md, rfl, rfl, hq, g, by rw [ofI_len]; omega, by rw [List.drop_zero]; exact List.take_of_length_le (by rw [ofI_len]; exact Nat.le_refl _)⟩
theorem Wb.mono {h h' : H} {w : List Nat} {ao : Option (Nat × Nat)} {co : Option Nat} {eo : Nat} (s : Wb h w ao co eo) (hn : h.next ≤ h'.next) (k : ∀ q, q < h.next → ao = some (q, 0) → h'.get q = h.get q) : Wb h' w ao co eo := by
  rcases s with s | ⟨h1, q, md, e1, e2, e3, g, hm, hq⟩
  · exact .inl s
  · exact .inr ⟨h1, q, md, e1, e2, e3, by rw [k _ hq e1, g], hm, Nat.lt_of_lt_of_le hq hn⟩
theorem Wb.kp {h h' : H} {w : List Nat} {ao : Option (Nat × Nat)} {co : Option Nat} {eo : Nat} (s : Wb h w ao co eo) (k : Kp h h') : Wb h' w ao co eo := s.mono k.1 (fun q hq _ => k.2 q hq)
/-- who has the block -/
theorem Wb.lt {h : H} {w : List Nat} {ao : Option (Nat × Nat)} {co : Option Nat} {eo : Nat} (s : Wb h w ao co eo) {q o : Nat} (e : ao = some (q, o)) : q < h.next := by
  rcases s with ⟨_, e2, _⟩ | ⟨_, q', _, e2, _, _, _, _, hq⟩
  · rw [e2] at e; cases e
  · rw [e2] at e; cases e; exact hq
theorem ap_wb (h : H) (w l : List Nat) (ao : Option (Nat × Nat)) (co : Option Nat) (eo : Nat) (s : Wb h w ao co eo) (hl : w.length + l.length ≤ 1000000) :
    ∃ ao' co' eo' h', appendC h 1 1 (.slice ao w.length co eo) (some (l.length, ofI .u8 l)) = some (.slice ao' (w ++ l).length co' eo', h') ∧ Wb h' (w ++ l) ao' co' eo' ∧ h.next ≤ h'.next ∧ (∀ i, i < h.next → ao ≠ some (i, 0) → h'.get i = h.get i) ∧ (ao' = ao ∨ ao' = some (h.next, 0)) := by
  cases hn : l.length with
  | zero =>
    obtain rfl : l = [] := List.length_eq_zero_iff.1 hn
    rw [List.append_nil]
    exact ⟨_, _, _, _, appN _ _ _ _ _ _, s, Nat.le_refl _, fun _ _ _ => rfl, .inl rfl⟩
  | succ n =>
    rcases s with ⟨rfl, rfl, rfl, rfl⟩ | ⟨h1, q, md, rfl, rfl, rfl, g, hm, hq⟩
    · have a := app0 h n 0 .u8 l (some 0) (by omega)
      rw [List.nil_append, hn]
      refine ⟨_, _, _, _, a, .inr ⟨by omega, h.next, .rw, rfl, rfl, rfl, h_new_same _ _, rfl, Nat.lt_succ_self _⟩, Nat.le_succ _, fun i hi _ => h_new_ne _ _ (by omega), .inr rfl⟩
    · have a := appU_of h q w.length n .u8 l (by omega)
      rw [g, appUI _ _ _ _ hm _ _ _ _ (Nat.le_refl _), take_all w _ (Nat.le_refl _)] at a
      rw [List.length_append, hn]
      refine ⟨_, _, _, _, a, .inr ⟨by rw [List.length_append]; omega, h.next, .sh, rfl, rfl, rfl, h_new_same' _ _ (by rw [h_next_del]), rfl, by simp only [h_next_new, h_next_del]; omega⟩, by simp only [h_next_new, h_next_del]; omega, fun i hi hne => ?_, .inr rfl⟩
      rw [h_new_ne _ _ (by rw [h_next_del]; omega), h_del_ne _ (fun e => hne (by rw [e]))]
/-- a new slice of bytes -/
structure Nw (h h' : H) (w : List Nat) (a : Option (Nat × Nat)) (c : Option Nat) (e : Nat) : Prop where
  kp : Kp h h'
  wb : Wb h' w a c e
  ge : ∀ q o, a = some (q, o) → h.next ≤ q
theorem app_nw (h : H) (l : List Nat) (hl : l.length ≤ 1000000) : ∃ a c e h', appendC h 1 1 (.slice none 0 (some 0) 0) (some (l.length, ofI .u8 l)) = some (.slice a l.length c e, h') ∧ Nw h h' l a c e := by
  obtain ⟨a, c, e, h', r, wb, hn, fr, ow⟩ := ap_wb h [] l none (some 0) 0 (.nil h) (by rw [List.length_nil]; omega)
  refine ⟨a, c, e, h', r, ⟨hn, fun i hi => fr i hi (by intro h; cases h)⟩, wb, fun q o ea => ?_⟩
  rcases ow with ow | ow
  · rw [ow] at ea; cases ea
  · rw [ow] at ea; cases ea; exact Nat.le_refl _
theorem byt_take {l : List Nat} (b : byt l = true) (n : Nat) : byt (l.take n) = true := byt_iff.2 (fun x hx => byt_iff.1 b x (List.mem_of_mem_take hx))
theorem byt_drop {l : List Nat} (b : byt l = true) (n : Nat) : byt (l.drop n) = true := byt_iff.2 (fun x hx => byt_iff.1 b x (List.mem_of_mem_drop hx))
theorem byt_tail {a : Nat} {r : List Nat} (b : byt (a :: r) = true) : byt r = true := byt_iff.2 (fun x hx => byt_iff.1 b x (List.mem_cons_of_mem _ hx))
theorem byt_app {a b : List Nat} (ha : byt a = true) (hb : byt b = true) : byt (a ++ b) = true := byt_iff.2 (fun x hx => by
  rcases List.mem_append.1 hx with h | h
  · exact byt_iff.1 ha x h
  · exact byt_iff.1 hb x h)
end Go.Eng
namespace Go.Eng
open Go
variable {E : Nat → Option Fn} {X : Orc}
set_option linter.unusedSimpArgs false
set_option linter.unusedVariables false
/-! operations, as bytes -/
structure Oq where
  code : Nat
  l : List Nat
instance : DecidableEq Oq := fun a b => if h : a.code = b.code ∧ a.l = b.l then .isTrue (by cases a; cases b; simp_all) else .isFalse (fun e => h (by rw [e]; exact ⟨rfl, rfl⟩))
structure Oq.ok (o : Oq) : Prop where
  cl : o.code < 256
  bl : byt o.l = true
def cnQ (c : Nat) : Nat := if c = 77 then 2 else if c = 76 then 1 else 0
def okO (o : Oq) : Bool := if o.code = 76 then decide (o.l.length ≤ 255) else if o.code = 77 then decide (o.l.length ≤ 65535) else if o.code ≤ 75 then decide (o.l.length = o.code) else decide (o.l.length = 0)
def lnB (c n : Nat) : List Nat := if c = 77 then [n % 256, n / 256 % 256] else if c = 76 then [n % 256] else []
def oB (o : Oq) : List Nat := o.code :: (lnB o.code o.l.length ++ o.l)
def wB (ops : List Oq) : List Nat := (ops.map oB).flatten
def rdN (c : Nat) (r : List Nat) : Nat := if c ≤ 75 then c else if c = 77 then r.getD 0 0 + 256 * r.getD 1 0 else if c = 76 then r.getD 0 0 else 0
def fstV : List Nat → Option (Oq × Nat)
  | [] => none
  | c :: r => if r.length < cnQ c then none else if r.length < cnQ c + rdN c r then none else some (⟨c, (r.drop (cnQ c)).take (rdN c r)⟩, 1 + cnQ c + rdN c r)
theorem fst_cons (c : Nat) (r : List Nat) : fstV (c :: r) = if r.length < cnQ c then none else if r.length < cnQ c + rdN c r then none else some (⟨c, (r.drop (cnQ c)).take (rdN c r)⟩, 1 + cnQ c + rdN c r) := rfl
def spV : Nat → List Nat → List Oq × Nat
  | 0, _ => ([], 0)
  | n + 1, b => match fstV b with
    | none => ([], 0)
    | some (o, k) => (o :: (spV n (b.drop k)).1, k + (spV n (b.drop k)).2)
theorem sp_succ (n : Nat) (b : List Nat) : spV (n + 1) b = (match fstV b with
    | none => ([], 0)
    | some (o, k) => (o :: (spV n (b.drop k)).1, k + (spV n (b.drop k)).2)) := rfl
theorem lnB_len (c n : Nat) : (lnB c n).length = cnQ c := by unfold lnB cnQ; split <;> (try split) <;> rfl
theorem cnQ_le (c : Nat) : cnQ c ≤ 2 := by unfold cnQ; split <;> (try split) <;> omega
theorem oB_len (o : Oq) : (oB o).length = 1 + cnQ o.code + o.l.length := by
  unfold oB; rw [List.length_cons, List.length_append, lnB_len]; omega
theorem rdN_lnB (o : Oq) (hv : okO o = true) (r : List Nat) : rdN o.code (lnB o.code o.l.length ++ r) = o.l.length := by
  unfold okO at hv
  unfold rdN lnB
  by_cases c6 : o.code = 76
  · rw [if_pos c6] at hv
    have := of_decide_eq_true hv
    rw [if_neg (show ¬ o.code ≤ 75 by omega), if_neg (show ¬ o.code = 77 by omega), if_pos c6, if_neg (show ¬ o.code = 77 by omega), if_pos c6]
    show o.l.length % 256 = _
    omega
  · rw [if_neg c6] at hv
    by_cases c7 : o.code = 77
    · rw [if_pos c7] at hv
      have := of_decide_eq_true hv
      rw [if_neg (show ¬ o.code ≤ 75 by omega), if_pos c7, if_pos c7]
      show o.l.length % 256 + 256 * (o.l.length / 256 % 256) = _
      omega
    · rw [if_neg c7] at hv
      by_cases c5 : o.code ≤ 75
      · rw [if_pos c5] at hv ⊢
        exact (of_decide_eq_true hv).symm
      · rw [if_neg c5] at hv ⊢
        rw [if_neg c7, if_neg c6]
        exact (of_decide_eq_true hv).symm
theorem fst_ok (o : Oq) (hv : okO o = true) (r : List Nat) : fstV (oB o ++ r) = some (o, (oB o).length) := by
  have e := rdN_lnB o hv (o.l ++ r)
  rw [show oB o ++ r = o.code :: (lnB o.code o.l.length ++ (o.l ++ r)) by unfold oB; rw [List.cons_append, List.append_assoc], fst_cons, e, List.length_append, List.length_append, lnB_len, if_neg (by omega), if_neg (by omega), List.drop_left' (lnB_len _ _), List.take_left' rfl, oB_len]
theorem getD_byt {r : List Nat} (b : byt r = true) (i : Nat) : r.getD i 0 < 256 := by
  rw [List.getD_eq_getElem?_getD]
  cases h : r[i]? with
  | none => decide
  | some x => exact byt_iff.1 b x (List.mem_of_getElem? h)
theorem fst_of (b : List Nat) (bb : byt b = true) (o : Oq) (k : Nat) (h : fstV b = some (o, k)) : okO o = true ∧ b.take k = oB o ∧ k ≤ b.length ∧ 1 ≤ k ∧ o.ok ∧ k = 1 + cnQ o.code + o.l.length := by
  cases b with
  | nil => cases h
  | cons c r =>
    have hc : c < 256 := byt_iff.1 bb c (List.mem_cons_self ..)
    have hr := byt_tail bb
    rw [fst_cons] at h
    by_cases h1 : r.length < cnQ c
    · rw [if_pos h1] at h; cases h
    · rw [if_neg h1] at h
      by_cases h2 : r.length < cnQ c + rdN c r
      · rw [if_pos h2] at h; cases h
      · rw [if_neg h2] at h
        cases h
        have ll : ((r.drop (cnQ c)).take (rdN c r)).length = rdN c r := by rw [List.length_take, List.length_drop]; omega
        have g0 := getD_byt hr 0
        have g1 := getD_byt hr 1
        refine ⟨?_, ?_, by rw [List.length_cons]; omega, by omega, ⟨hc, byt_take (byt_drop hr _) _⟩, by rw [ll]⟩
        · unfold okO
          simp only
          rw [ll]
          unfold rdN
          by_cases c6 : c = 76
          · rw [if_pos c6, if_neg (by omega), if_neg (by omega), if_pos c6]; exact decide_eq_true (by omega)
          · rw [if_neg c6]
            by_cases c7 : c = 77
            · rw [if_pos c7, if_neg (by omega), if_pos c7]; exact decide_eq_true (by omega)
            · rw [if_neg c7]
              by_cases c5 : c ≤ 75
              · rw [if_pos c5, if_pos c5]; exact decide_eq_true rfl
              · rw [if_neg c5, if_neg c5, if_neg c7, if_neg c6]; rfl
        · show (c :: r).take (1 + cnQ c + rdN c r) = c :: (lnB c ((r.drop (cnQ c)).take (rdN c r)).length ++ (r.drop (cnQ c)).take (rdN c r))
          rw [ll, show 1 + cnQ c + rdN c r = (cnQ c + rdN c r) + 1 by omega, List.take_succ_cons, List.take_add]
          congr 2
          unfold lnB rdN
          unfold cnQ at h1 ⊢
          by_cases c7 : c = 77
          · rw [if_pos c7] at h1 ⊢
            rw [if_pos c7, if_neg (by omega), if_pos c7]
            match r, h1, g0, g1 with
            | x :: y :: s, _, g0, g1 =>
              show [x, y] = [(x + 256 * y) % 256, (x + 256 * y) / 256 % 256]
              have gx : x < 256 := g0
              have gy : y < 256 := g1
              rw [show (x + 256 * y) % 256 = x by omega, show (x + 256 * y) / 256 % 256 = y by omega]
            | [x], h1, _, _ => exact absurd (show [x].length < 2 by simp) h1
            | [], h1, _, _ => exact absurd (show ([] : List Nat).length < 2 by simp) h1
          · rw [if_neg c7] at h1 ⊢
            rw [if_neg c7]
            by_cases c6 : c = 76
            · rw [if_pos c6] at h1 ⊢
              rw [if_pos c6, if_neg (by omega), if_neg c7, if_pos c6]
              match r, h1, g0 with
              | x :: s, _, g0 =>
                have gx : x < 256 := g0
                show [x] = [x % 256]
                rw [show x % 256 = x by omega]
              | [], h1, _ => exact absurd (show ([] : List Nat).length < 1 by simp) h1
            · rw [if_neg c6, if_neg c6]; rfl
theorem sp_fuel : ∀ n m (b : List Nat), byt b = true → b.length ≤ n → b.length ≤ m → spV n b = spV m b := by
  intro n
  induction n with
  | zero =>
    intro m b _ h _
    obtain rfl : b = [] := List.length_eq_zero_iff.1 (by omega)
    cases m with
    | zero => rfl
    | succ m => rfl
  | succ n ih =>
    intro m b bb h1 h2
    cases m with
    | zero =>
      obtain rfl : b = [] := List.length_eq_zero_iff.1 (by omega)
      rfl
    | succ m =>
      unfold spV
      cases hf : fstV b with
      | none => rfl
      | some z =>
        obtain ⟨o, k⟩ := z
        obtain ⟨_, _, _, k1, _⟩ := fst_of b bb o k hf
        simp only
        rw [ih m (b.drop k) (byt_drop bb _) (by rw [List.length_drop]; omega) (by rw [List.length_drop]; omega)]
theorem wB_cons (o : Oq) (r : List Oq) : wB (o :: r) = oB o ++ wB r := rfl
theorem wB_app (a b : List Oq) : wB (a ++ b) = wB a ++ wB b := by unfold wB; rw [List.map_append, List.flatten_append]
theorem wB_one (o : Oq) : wB [o] = oB o := by unfold wB; simp
theorem sp_join : ∀ (ops : List Oq) (n : Nat) (r : List Nat), (∀ o ∈ ops, okO o = true) → spV (ops.length + n) (wB ops ++ r) = (ops ++ (spV n r).1, (wB ops).length + (spV n r).2) := by
  intro ops
  induction ops with
  | nil => intro n r _; rw [List.length_nil, Nat.zero_add]; show spV n r = _; simp [wB]
  | cons o s ih =>
    intro n r h
    rw [show (o :: s).length + n = (s.length + n) + 1 by rw [List.length_cons]; omega, wB_cons, List.append_assoc, sp_succ, fst_ok o (h o (List.mem_cons_self ..))]
    simp only
    rw [List.drop_left' rfl, ih n r (fun x hx => h x (List.mem_cons_of_mem _ hx)), List.length_append]
    simp only [List.cons_append, Nat.add_assoc]
theorem sp_of : ∀ n (b : List Nat), byt b = true → (∀ o ∈ (spV n b).1, okO o = true ∧ o.ok) ∧ wB (spV n b).1 = b.take (spV n b).2 ∧ (spV n b).2 ≤ b.length := by
  intro n
  induction n with
  | zero => intro b _; exact ⟨(fun o ho => by cases ho), by simp [spV, wB], Nat.zero_le _⟩
  | succ n ih =>
    intro b bb
    unfold spV
    cases hf : fstV b with
    | none => exact ⟨(fun o ho => by cases ho), by simp [wB], Nat.zero_le _⟩
    | some z =>
      obtain ⟨o, k⟩ := z
      obtain ⟨f1, f2, f3, f4, f5, _⟩ := fst_of b bb o k hf
      obtain ⟨i1, i2, i3⟩ := ih (b.drop k) (byt_drop bb _)
      simp only
      rw [List.length_drop] at i3
      refine ⟨fun x hx => ?_, ?_, by omega⟩
      · rcases List.mem_cons.1 hx with rfl | hx
        · exact ⟨f1, f5⟩
        · exact i1 x hx
      · rw [wB_cons, i2, List.take_add, f2]
theorem wB_ge (ops : List Oq) : ops.length ≤ (wB ops).length := by
  induction ops with
  | nil => exact Nat.zero_le _
  | cons o r ih => rw [wB_cons, List.length_append, List.length_cons, oB_len]; omega
/-- all bytes of data -/
def gq : List Oq → Nat
  | [] => 0
  | o :: r => o.l.length + gq r
theorem wB_le (ops : List Oq) : (wB ops).length ≤ 3 * ops.length + gq ops := by
  induction ops with
  | nil => exact Nat.zero_le _
  | cons o r ih => rw [wB_cons, List.length_append, List.length_cons, oB_len]; have := cnQ_le o.code; simp only [gq]; omega
theorem oB_byt (o : Oq) (ok : o.ok) : byt (oB o) = true := by
  refine byt_iff.2 (fun x hx => ?_)
  rcases List.mem_cons.1 hx with rfl | hx
  · exact ok.cl
  · rcases List.mem_append.1 hx with h | h
    · unfold lnB at h
      split at h
      · rcases List.mem_cons.1 h with rfl | h
        · omega
        · rcases List.mem_singleton.1 h with rfl; omega
      · split at h
        · rcases List.mem_singleton.1 h with rfl; omega
        · cases h
    · exact byt_iff.1 ok.bl x h
theorem wB_byt (ops : List Oq) (h : ∀ o ∈ ops, o.ok) : byt (wB ops) = true := by
  induction ops with
  | nil => rfl
  | cons o r ih => exact byt_app (oB_byt o (h o (List.mem_cons_self ..))) (ih (fun x hx => h x (List.mem_cons_of_mem _ hx)))
end Go.Eng
namespace Go.Eng
open Go
variable {E : Nat → Option Fn} {X : Orc}
set_option linter.unusedSimpArgs false
set_option linter.unusedVariables false
structure EnOp (E : Nat → Option Fn) : Prop where
  cn : E k_ops_counted = some f_ops_counted
  va : E k_ops_valid = some f_ops_valid
  cl : E k_bytes_Clone = some f_bytes_Clone
  fi : E k_ops_first = some f_ops_first
  op : E k_ops_operations = some f_ops_operations
  op1 : E k_ops_operations_1 = some f_ops_operations_1
  sp : E k_ops_Split = some f_ops_Split
  jo : E k_ops_Join = some f_ops_Join
  sa : E k_ops_Same = some f_ops_Same
  so : E k_ops_sameOp = some f_ops_sameOp
  be : E k_bytes_Equal = some f_bytes_Equal
  ef : E k_slices_EqualFunc_api_Op_api_Op_api_Op_api_Op = some f_slices_EqualFunc_api_Op_api_Op_api_Op_api_Op
structure NoOp (X : Orc) : Prop where
  cn : ∀ a h, X (.fn k_ops_counted) a h = none
  va : ∀ a h, X (.fn k_ops_valid) a h = none
  cl : ∀ a h, X (.fn k_bytes_Clone) a h = none
  fi : ∀ a h, X (.fn k_ops_first) a h = none
  op : ∀ a h, X (.fn k_ops_operations) a h = none
  op1 : ∀ a h, X (.fn k_ops_operations_1) a h = none
  sp : ∀ a h, X (.fn k_ops_Split) a h = none
  jo : ∀ a h, X (.fn k_ops_Join) a h = none
  sa : ∀ a h, X (.fn k_ops_Same) a h = none
  so : ∀ a h, X (.fn k_ops_sameOp) a h = none
  be : ∀ a h, X (.fn k_bytes_Equal) a h = none
  ef : ∀ a h, X (.fn k_slices_EqualFunc_api_Op_api_Op_api_Op_api_Op) a h = none
  yld : ∀ l a h, X (.yld l) a h = none
theorem counted_go (e : EnOp E) (x : NoOp X) (N c : Nat) (h : H) :
    callX E X (N + 1) (.fn k_ops_counted) [.int .u8 (c : Int)] h = some (.int .i64 (cnQ c : Nat), h) := by
  rw [x_cfn e.cn _ _ (Nat.le_of_ble_eq_true rfl) (x.cn _ _)]
  unfold cnQ
  by_cases c7 : c = 77
  · subst c7
    rw [if_pos rfl]
    have c1 : decide (((77 : Nat) : Int) = 77) = true := rfl
    simp (config := {maxSteps := 2000000}) (disch := first | omega | (simp only [List.length_cons, List.length_nil, List.length_append, List.length_drop]; omega)) only [c1, ↓b_xor32, ↓b_and32, ↓b_or32, ↓u_not32, b_xor32, b_and32, b_or32, u_not32, w32ad, ↓x_conv, x_convV, ↓x_fieldAddr, x_fieldV, ↓s_nilchk, x_nilchk, Nat.zero_add, Nat.add_zero, Nat.mul_one, ↓l_loop, ↓l_succ, ↓l_normal, l_normal, l_exit, l_ret, l_iteN, ↓h_put_get, ↓h_new_get, ↓h_del_get, h_next_put, h_next_new, h_next_del, Nat.add_assoc, Nat.add_eq_left, Nat.left_eq_add, Nat.add_left_cancel_iff, ↓s_load, m_load, ↓m_load1, m_load1, ↓m_st, m_stE, m_storeI, m_storeE, w_zero, w_succ, ↓s_alloc, ↓x_idxA, ↓x_idxS, x_idxAE, x_idxSE, x_addrE, x_idx, x_lenS, ↓s_len, ↓x_buildS, x_buildE, ↓x_P0, ↓x_P1, x_fill0, x_filli, x_fills, x_fillb, c_int, List.length_cons, List.length_nil, List.cons_append, List.drop_succ_cons, List.drop_zero, List.drop_nil, List.nil_append, Int.reduceAdd, Int.reduceToNat, Int.reduceLT, Int.reduceLE, Nat.reduceAdd, Nat.reduceMul, Nat.reduceLeDiff, Int.reduceEq, Int.reduceSub, Int.cast_ofNat_Int, s_resc, s_consR, m_load4, m_store4, s_res0, ↓s_skip, ↓s_ops, ↓s_dops, ↓s_seq, ↓s_cond, ↓s_block, ↓s_exit, ↓s_ret, ↓s_scope, ↓s_nil, ↓s_op, ↓s_opg, ↓s_wanted', ↓s_wantV, s_wantV, s_wantV0, beq_true, beq_false, ↓s_bindS, s_bindS, ↓s_bindE, s_bindE, s_bindE_ret, s_bindE_exit, s_bindE_iteN, s_norm, ↓s_condV, s_condV, s_block_ret, s_block_normal, s_block_exit, s_block_iteN, ↓s_getp, ↓s_getp0, ↓s_get, s_get0, ↓s_con, ↓s_fn, ↓s_os0, ↓s_os1, ↓s_list0, ↓s_list1, ↓s_mov, ↓s_pick, ↓s_pickE, s_pickE, ↓s_bin, ↓s_un, ↓s_minmax, ↓s_call, ↓s_callv, ↓s_callV, ↓s_ext, s_same, b_eql, b_neq, b_lss, b_leq, b_gtr, b_geq, b_add, b_sub, b_mul, b_eqlb, b_neqb, b_fnil, b_fnil', b_fnil2, b_fnil2', u_neg, u_not, m_two, s_end, s_end', s_end_iteN, s_res0, s_res1, s_tup1, s_tup2, ↓iteN_true, ↓iteN_false, iteN_true, iteN_false, Nat.zero_add, List.nil_append, List.append_nil, Nat.reduceEqDiff, reduceIte, decide_true, decide_false, Bool.not_true, Bool.not_false, List.getElem?_cons_zero, List.getElem?_cons_succ, Bool.false_eq_true, if_true, if_false, beq_self_eq_true]
    try rfl
  · have c1 : decide ((c : Int) = 77) = false := decide_eq_false (by omega)
    rw [if_neg c7]
    by_cases c6 : c = 76
    · subst c6
      rw [if_pos rfl]
      have c2 : decide (((76 : Nat) : Int) = 76) = true := rfl
      have c3 : decide (((76 : Nat) : Int) = 77) = false := rfl
      simp (config := {maxSteps := 2000000}) (disch := first | omega | (simp only [List.length_cons, List.length_nil, List.length_append, List.length_drop]; omega)) only [c2, c3, ↓b_xor32, ↓b_and32, ↓b_or32, ↓u_not32, b_xor32, b_and32, b_or32, u_not32, w32ad, ↓x_conv, x_convV, ↓x_fieldAddr, x_fieldV, ↓s_nilchk, x_nilchk, Nat.zero_add, Nat.add_zero, Nat.mul_one, ↓l_loop, ↓l_succ, ↓l_normal, l_normal, l_exit, l_ret, l_iteN, ↓h_put_get, ↓h_new_get, ↓h_del_get, h_next_put, h_next_new, h_next_del, Nat.add_assoc, Nat.add_eq_left, Nat.left_eq_add, Nat.add_left_cancel_iff, ↓s_load, m_load, ↓m_load1, m_load1, ↓m_st, m_stE, m_storeI, m_storeE, w_zero, w_succ, ↓s_alloc, ↓x_idxA, ↓x_idxS, x_idxAE, x_idxSE, x_addrE, x_idx, x_lenS, ↓s_len, ↓x_buildS, x_buildE, ↓x_P0, ↓x_P1, x_fill0, x_filli, x_fills, x_fillb, c_int, List.length_cons, List.length_nil, List.cons_append, List.drop_succ_cons, List.drop_zero, List.drop_nil, List.nil_append, Int.reduceAdd, Int.reduceToNat, Int.reduceLT, Int.reduceLE, Nat.reduceAdd, Nat.reduceMul, Nat.reduceLeDiff, Int.reduceEq, Int.reduceSub, Int.cast_ofNat_Int, s_resc, s_consR, m_load4, m_store4, s_res0, ↓s_skip, ↓s_ops, ↓s_dops, ↓s_seq, ↓s_cond, ↓s_block, ↓s_exit, ↓s_ret, ↓s_scope, ↓s_nil, ↓s_op, ↓s_opg, ↓s_wanted', ↓s_wantV, s_wantV, s_wantV0, beq_true, beq_false, ↓s_bindS, s_bindS, ↓s_bindE, s_bindE, s_bindE_ret, s_bindE_exit, s_bindE_iteN, s_norm, ↓s_condV, s_condV, s_block_ret, s_block_normal, s_block_exit, s_block_iteN, ↓s_getp, ↓s_getp0, ↓s_get, s_get0, ↓s_con, ↓s_fn, ↓s_os0, ↓s_os1, ↓s_list0, ↓s_list1, ↓s_mov, ↓s_pick, ↓s_pickE, s_pickE, ↓s_bin, ↓s_un, ↓s_minmax, ↓s_call, ↓s_callv, ↓s_callV, ↓s_ext, s_same, b_eql, b_neq, b_lss, b_leq, b_gtr, b_geq, b_add, b_sub, b_mul, b_eqlb, b_neqb, b_fnil, b_fnil', b_fnil2, b_fnil2', u_neg, u_not, m_two, s_end, s_end', s_end_iteN, s_res0, s_res1, s_tup1, s_tup2, ↓iteN_true, ↓iteN_false, iteN_true, iteN_false, Nat.zero_add, List.nil_append, List.append_nil, Nat.reduceEqDiff, reduceIte, decide_true, decide_false, Bool.not_true, Bool.not_false, List.getElem?_cons_zero, List.getElem?_cons_succ, Bool.false_eq_true, if_true, if_false, beq_self_eq_true]
      try rfl
    · have c2 : decide ((c : Int) = 76) = false := decide_eq_false (by omega)
      rw [if_neg c6]
      simp (config := {maxSteps := 2000000}) (disch := first | omega | (simp only [List.length_cons, List.length_nil, List.length_append, List.length_drop]; omega)) only [c1, c2, ↓b_xor32, ↓b_and32, ↓b_or32, ↓u_not32, b_xor32, b_and32, b_or32, u_not32, w32ad, ↓x_conv, x_convV, ↓x_fieldAddr, x_fieldV, ↓s_nilchk, x_nilchk, Nat.zero_add, Nat.add_zero, Nat.mul_one, ↓l_loop, ↓l_succ, ↓l_normal, l_normal, l_exit, l_ret, l_iteN, ↓h_put_get, ↓h_new_get, ↓h_del_get, h_next_put, h_next_new, h_next_del, Nat.add_assoc, Nat.add_eq_left, Nat.left_eq_add, Nat.add_left_cancel_iff, ↓s_load, m_load, ↓m_load1, m_load1, ↓m_st, m_stE, m_storeI, m_storeE, w_zero, w_succ, ↓s_alloc, ↓x_idxA, ↓x_idxS, x_idxAE, x_idxSE, x_addrE, x_idx, x_lenS, ↓s_len, ↓x_buildS, x_buildE, ↓x_P0, ↓x_P1, x_fill0, x_filli, x_fills, x_fillb, c_int, List.length_cons, List.length_nil, List.cons_append, List.drop_succ_cons, List.drop_zero, List.drop_nil, List.nil_append, Int.reduceAdd, Int.reduceToNat, Int.reduceLT, Int.reduceLE, Nat.reduceAdd, Nat.reduceMul, Nat.reduceLeDiff, Int.reduceEq, Int.reduceSub, Int.cast_ofNat_Int, s_resc, s_consR, m_load4, m_store4, s_res0, ↓s_skip, ↓s_ops, ↓s_dops, ↓s_seq, ↓s_cond, ↓s_block, ↓s_exit, ↓s_ret, ↓s_scope, ↓s_nil, ↓s_op, ↓s_opg, ↓s_wanted', ↓s_wantV, s_wantV, s_wantV0, beq_true, beq_false, ↓s_bindS, s_bindS, ↓s_bindE, s_bindE, s_bindE_ret, s_bindE_exit, s_bindE_iteN, s_norm, ↓s_condV, s_condV, s_block_ret, s_block_normal, s_block_exit, s_block_iteN, ↓s_getp, ↓s_getp0, ↓s_get, s_get0, ↓s_con, ↓s_fn, ↓s_os0, ↓s_os1, ↓s_list0, ↓s_list1, ↓s_mov, ↓s_pick, ↓s_pickE, s_pickE, ↓s_bin, ↓s_un, ↓s_minmax, ↓s_call, ↓s_callv, ↓s_callV, ↓s_ext, s_same, b_eql, b_neq, b_lss, b_leq, b_gtr, b_geq, b_add, b_sub, b_mul, b_eqlb, b_neqb, b_fnil, b_fnil', b_fnil2, b_fnil2', u_neg, u_not, m_two, s_end, s_end', s_end_iteN, s_res0, s_res1, s_tup1, s_tup2, ↓iteN_true, ↓iteN_false, iteN_true, iteN_false, Nat.zero_add, List.nil_append, List.append_nil, Nat.reduceEqDiff, reduceIte, decide_true, decide_false, Bool.not_true, Bool.not_false, List.getElem?_cons_zero, List.getElem?_cons_succ, Bool.false_eq_true, if_true, if_false, beq_self_eq_true]
      try rfl
theorem valid_go (e : EnOp E) (x : NoOp X) (N : Nat) (o : Oq) (hc : o.code < 256) (hl : o.l.length < 9223372036854775807) (a : Option (Nat × Nat)) (c : Option Nat) (ez : Nat) (h : H) :
    ∃ h', callX E X (N + 1) (.fn k_ops_valid) [.agg [.int .u8 (o.code : Int), .slice a o.l.length c ez]] h = some (.bool (okO o), h') ∧ Kp h h' := by
  rw [x_cfn e.va _ _ (Nat.le_of_ble_eq_true rfl) (x.va _ _)]
  obtain ⟨h1, e1⟩ : ∃ h1, h.new (.cells [.int .u8 (o.code : Int), .slice a o.l.length c ez] .rw) = h1 := ⟨_, rfl⟩
  have g1 : h1.get h.next = some (.cells [.int .u8 (o.code : Int), .slice a o.l.length c ez] .rw) := by rw [← e1]; exact h_new_same _ _
  refine ⟨h1, ?_, by rw [← e1]; exact Kp.new _ _⟩
  have ca : ∀ l : List V, (V.agg l).cells = l := fun _ => rfl
  unfold okO
  obtain ⟨cd, l⟩ := o
  simp only at hc hl g1 e1 ⊢
  generalize l.length = n at *
  have wc : wr .i64 (cd : Int) = (cd : Int) := wr_i64 (by omega)
  by_cases c6 : cd = 76
  · rw [if_pos c6]
    have d1 : decide ((cd : Int) = 76) = true := decide_eq_true (by omega)
    have d2 : decide ((n : Int) ≤ 255) = decide (n ≤ 255) := by rw [decide_eq_decide]; omega
    generalize decide (n ≤ 255) = q at *
    simp (config := {maxSteps := 2000000}) (disch := first | omega | (simp only [List.length_cons, List.length_nil, List.length_append, List.length_drop]; omega)) only [ca, e1, g1, d1, d2, ↓s_box, ↓s_len, x_lenS, ↓b_xor32, ↓b_and32, ↓b_or32, ↓u_not32, b_xor32, b_and32, b_or32, u_not32, w32ad, ↓x_conv, x_convV, ↓x_fieldAddr, x_fieldV, ↓s_nilchk, x_nilchk, Nat.zero_add, Nat.add_zero, Nat.mul_one, ↓l_loop, ↓l_succ, ↓l_normal, l_normal, l_exit, l_ret, l_iteN, ↓h_put_get, ↓h_new_get, ↓h_del_get, h_next_put, h_next_new, h_next_del, Nat.add_assoc, Nat.add_eq_left, Nat.left_eq_add, Nat.add_left_cancel_iff, ↓s_load, m_load, ↓m_load1, m_load1, ↓m_st, m_stE, m_storeI, m_storeE, w_zero, w_succ, ↓s_alloc, ↓x_idxA, ↓x_idxS, x_idxAE, x_idxSE, x_addrE, x_idx, x_lenS, ↓s_len, ↓x_buildS, x_buildE, ↓x_P0, ↓x_P1, x_fill0, x_filli, x_fills, x_fillb, c_int, List.length_cons, List.length_nil, List.cons_append, List.drop_succ_cons, List.drop_zero, List.drop_nil, List.nil_append, Int.reduceAdd, Int.reduceToNat, Int.reduceLT, Int.reduceLE, Nat.reduceAdd, Nat.reduceMul, Nat.reduceLeDiff, Int.reduceEq, Int.reduceSub, Int.cast_ofNat_Int, s_resc, s_consR, m_load4, m_store4, s_res0, ↓s_skip, ↓s_ops, ↓s_dops, ↓s_seq, ↓s_cond, ↓s_block, ↓s_exit, ↓s_ret, ↓s_scope, ↓s_nil, ↓s_op, ↓s_opg, ↓s_wanted', ↓s_wantV, s_wantV, s_wantV0, beq_true, beq_false, ↓s_bindS, s_bindS, ↓s_bindE, s_bindE, s_bindE_ret, s_bindE_exit, s_bindE_iteN, s_norm, ↓s_condV, s_condV, s_block_ret, s_block_normal, s_block_exit, s_block_iteN, ↓s_getp, ↓s_getp0, ↓s_get, s_get0, ↓s_con, ↓s_fn, ↓s_os0, ↓s_os1, ↓s_list0, ↓s_list1, ↓s_mov, ↓s_pick, ↓s_pickE, s_pickE, ↓s_bin, ↓s_un, ↓s_minmax, ↓s_call, ↓s_callv, ↓s_callV, ↓s_ext, s_same, b_eql, b_neq, b_lss, b_leq, b_gtr, b_geq, b_add, b_sub, b_mul, b_eqlb, b_neqb, b_fnil, b_fnil', b_fnil2, b_fnil2', u_neg, u_not, m_two, s_end, s_end', s_end_iteN, s_res0, s_res1, s_tup1, s_tup2, ↓iteN_true, ↓iteN_false, iteN_true, iteN_false, Nat.zero_add, List.nil_append, List.append_nil, Nat.reduceEqDiff, reduceIte, decide_true, decide_false, Bool.not_true, Bool.not_false, List.getElem?_cons_zero, List.getElem?_cons_succ, Bool.false_eq_true, if_true, if_false, beq_self_eq_true]
  · have d1 : decide ((cd : Int) = 76) = false := decide_eq_false (by omega)
    rw [if_neg c6]
    by_cases c7 : cd = 77
    · rw [if_pos c7]
      have d2 : decide ((cd : Int) = 77) = true := decide_eq_true (by omega)
      have d3 : decide ((n : Int) ≤ 65535) = decide (n ≤ 65535) := by rw [decide_eq_decide]; omega
      generalize decide (n ≤ 65535) = q at *
      simp (config := {maxSteps := 2000000}) (disch := first | omega | (simp only [List.length_cons, List.length_nil, List.length_append, List.length_drop]; omega)) only [ca, e1, g1, d1, d2, d3, ↓s_box, ↓s_len, x_lenS, ↓b_xor32, ↓b_and32, ↓b_or32, ↓u_not32, b_xor32, b_and32, b_or32, u_not32, w32ad, ↓x_conv, x_convV, ↓x_fieldAddr, x_fieldV, ↓s_nilchk, x_nilchk, Nat.zero_add, Nat.add_zero, Nat.mul_one, ↓l_loop, ↓l_succ, ↓l_normal, l_normal, l_exit, l_ret, l_iteN, ↓h_put_get, ↓h_new_get, ↓h_del_get, h_next_put, h_next_new, h_next_del, Nat.add_assoc, Nat.add_eq_left, Nat.left_eq_add, Nat.add_left_cancel_iff, ↓s_load, m_load, ↓m_load1, m_load1, ↓m_st, m_stE, m_storeI, m_storeE, w_zero, w_succ, ↓s_alloc, ↓x_idxA, ↓x_idxS, x_idxAE, x_idxSE, x_addrE, x_idx, x_lenS, ↓s_len, ↓x_buildS, x_buildE, ↓x_P0, ↓x_P1, x_fill0, x_filli, x_fills, x_fillb, c_int, List.length_cons, List.length_nil, List.cons_append, List.drop_succ_cons, List.drop_zero, List.drop_nil, List.nil_append, Int.reduceAdd, Int.reduceToNat, Int.reduceLT, Int.reduceLE, Nat.reduceAdd, Nat.reduceMul, Nat.reduceLeDiff, Int.reduceEq, Int.reduceSub, Int.cast_ofNat_Int, s_resc, s_consR, m_load4, m_store4, s_res0, ↓s_skip, ↓s_ops, ↓s_dops, ↓s_seq, ↓s_cond, ↓s_block, ↓s_exit, ↓s_ret, ↓s_scope, ↓s_nil, ↓s_op, ↓s_opg, ↓s_wanted', ↓s_wantV, s_wantV, s_wantV0, beq_true, beq_false, ↓s_bindS, s_bindS, ↓s_bindE, s_bindE, s_bindE_ret, s_bindE_exit, s_bindE_iteN, s_norm, ↓s_condV, s_condV, s_block_ret, s_block_normal, s_block_exit, s_block_iteN, ↓s_getp, ↓s_getp0, ↓s_get, s_get0, ↓s_con, ↓s_fn, ↓s_os0, ↓s_os1, ↓s_list0, ↓s_list1, ↓s_mov, ↓s_pick, ↓s_pickE, s_pickE, ↓s_bin, ↓s_un, ↓s_minmax, ↓s_call, ↓s_callv, ↓s_callV, ↓s_ext, s_same, b_eql, b_neq, b_lss, b_leq, b_gtr, b_geq, b_add, b_sub, b_mul, b_eqlb, b_neqb, b_fnil, b_fnil', b_fnil2, b_fnil2', u_neg, u_not, m_two, s_end, s_end', s_end_iteN, s_res0, s_res1, s_tup1, s_tup2, ↓iteN_true, ↓iteN_false, iteN_true, iteN_false, Nat.zero_add, List.nil_append, List.append_nil, Nat.reduceEqDiff, reduceIte, decide_true, decide_false, Bool.not_true, Bool.not_false, List.getElem?_cons_zero, List.getElem?_cons_succ, Bool.false_eq_true, if_true, if_false, beq_self_eq_true]
    · have d2 : decide ((cd : Int) = 77) = false := decide_eq_false (by omega)
      rw [if_neg c7]
      by_cases c5 : cd ≤ 75
      · rw [if_pos c5]
        have d3 : decide ((cd : Int) ≤ 75) = true := decide_eq_true (by omega)
        have d4 : decide ((n : Int) = (cd : Int)) = decide (n = cd) := by rw [decide_eq_decide]; omega
        generalize decide (n = cd) = q at *
        simp (config := {maxSteps := 2000000}) (disch := first | omega | (simp only [List.length_cons, List.length_nil, List.length_append, List.length_drop]; omega)) only [ca, e1, g1, d1, d2, d3, d4, wc, ↓s_box, ↓s_len, x_lenS, ↓b_xor32, ↓b_and32, ↓b_or32, ↓u_not32, b_xor32, b_and32, b_or32, u_not32, w32ad, ↓x_conv, x_convV, ↓x_fieldAddr, x_fieldV, ↓s_nilchk, x_nilchk, Nat.zero_add, Nat.add_zero, Nat.mul_one, ↓l_loop, ↓l_succ, ↓l_normal, l_normal, l_exit, l_ret, l_iteN, ↓h_put_get, ↓h_new_get, ↓h_del_get, h_next_put, h_next_new, h_next_del, Nat.add_assoc, Nat.add_eq_left, Nat.left_eq_add, Nat.add_left_cancel_iff, ↓s_load, m_load, ↓m_load1, m_load1, ↓m_st, m_stE, m_storeI, m_storeE, w_zero, w_succ, ↓s_alloc, ↓x_idxA, ↓x_idxS, x_idxAE, x_idxSE, x_addrE, x_idx, x_lenS, ↓s_len, ↓x_buildS, x_buildE, ↓x_P0, ↓x_P1, x_fill0, x_filli, x_fills, x_fillb, c_int, List.length_cons, List.length_nil, List.cons_append, List.drop_succ_cons, List.drop_zero, List.drop_nil, List.nil_append, Int.reduceAdd, Int.reduceToNat, Int.reduceLT, Int.reduceLE, Nat.reduceAdd, Nat.reduceMul, Nat.reduceLeDiff, Int.reduceEq, Int.reduceSub, Int.cast_ofNat_Int, s_resc, s_consR, m_load4, m_store4, s_res0, ↓s_skip, ↓s_ops, ↓s_dops, ↓s_seq, ↓s_cond, ↓s_block, ↓s_exit, ↓s_ret, ↓s_scope, ↓s_nil, ↓s_op, ↓s_opg, ↓s_wanted', ↓s_wantV, s_wantV, s_wantV0, beq_true, beq_false, ↓s_bindS, s_bindS, ↓s_bindE, s_bindE, s_bindE_ret, s_bindE_exit, s_bindE_iteN, s_norm, ↓s_condV, s_condV, s_block_ret, s_block_normal, s_block_exit, s_block_iteN, ↓s_getp, ↓s_getp0, ↓s_get, s_get0, ↓s_con, ↓s_fn, ↓s_os0, ↓s_os1, ↓s_list0, ↓s_list1, ↓s_mov, ↓s_pick, ↓s_pickE, s_pickE, ↓s_bin, ↓s_un, ↓s_minmax, ↓s_call, ↓s_callv, ↓s_callV, ↓s_ext, s_same, b_eql, b_neq, b_lss, b_leq, b_gtr, b_geq, b_add, b_sub, b_mul, b_eqlb, b_neqb, b_fnil, b_fnil', b_fnil2, b_fnil2', u_neg, u_not, m_two, s_end, s_end', s_end_iteN, s_res0, s_res1, s_tup1, s_tup2, ↓iteN_true, ↓iteN_false, iteN_true, iteN_false, Nat.zero_add, List.nil_append, List.append_nil, Nat.reduceEqDiff, reduceIte, decide_true, decide_false, Bool.not_true, Bool.not_false, List.getElem?_cons_zero, List.getElem?_cons_succ, Bool.false_eq_true, if_true, if_false, beq_self_eq_true]
      · rw [if_neg c5]
        have d3 : decide ((cd : Int) ≤ 75) = false := decide_eq_false (by omega)
        have d4 : decide ((n : Int) = 0) = decide (n = 0) := by rw [decide_eq_decide]; omega
        generalize decide (n = 0) = q at *
        simp (config := {maxSteps := 2000000}) (disch := first | omega | (simp only [List.length_cons, List.length_nil, List.length_append, List.length_drop]; omega)) only [ca, e1, g1, d1, d2, d3, d4, wc, ↓s_box, ↓s_len, x_lenS, ↓b_xor32, ↓b_and32, ↓b_or32, ↓u_not32, b_xor32, b_and32, b_or32, u_not32, w32ad, ↓x_conv, x_convV, ↓x_fieldAddr, x_fieldV, ↓s_nilchk, x_nilchk, Nat.zero_add, Nat.add_zero, Nat.mul_one, ↓l_loop, ↓l_succ, ↓l_normal, l_normal, l_exit, l_ret, l_iteN, ↓h_put_get, ↓h_new_get, ↓h_del_get, h_next_put, h_next_new, h_next_del, Nat.add_assoc, Nat.add_eq_left, Nat.left_eq_add, Nat.add_left_cancel_iff, ↓s_load, m_load, ↓m_load1, m_load1, ↓m_st, m_stE, m_storeI, m_storeE, w_zero, w_succ, ↓s_alloc, ↓x_idxA, ↓x_idxS, x_idxAE, x_idxSE, x_addrE, x_idx, x_lenS, ↓s_len, ↓x_buildS, x_buildE, ↓x_P0, ↓x_P1, x_fill0, x_filli, x_fills, x_fillb, c_int, List.length_cons, List.length_nil, List.cons_append, List.drop_succ_cons, List.drop_zero, List.drop_nil, List.nil_append, Int.reduceAdd, Int.reduceToNat, Int.reduceLT, Int.reduceLE, Nat.reduceAdd, Nat.reduceMul, Nat.reduceLeDiff, Int.reduceEq, Int.reduceSub, Int.cast_ofNat_Int, s_resc, s_consR, m_load4, m_store4, s_res0, ↓s_skip, ↓s_ops, ↓s_dops, ↓s_seq, ↓s_cond, ↓s_block, ↓s_exit, ↓s_ret, ↓s_scope, ↓s_nil, ↓s_op, ↓s_opg, ↓s_wanted', ↓s_wantV, s_wantV, s_wantV0, beq_true, beq_false, ↓s_bindS, s_bindS, ↓s_bindE, s_bindE, s_bindE_ret, s_bindE_exit, s_bindE_iteN, s_norm, ↓s_condV, s_condV, s_block_ret, s_block_normal, s_block_exit, s_block_iteN, ↓s_getp, ↓s_getp0, ↓s_get, s_get0, ↓s_con, ↓s_fn, ↓s_os0, ↓s_os1, ↓s_list0, ↓s_list1, ↓s_mov, ↓s_pick, ↓s_pickE, s_pickE, ↓s_bin, ↓s_un, ↓s_minmax, ↓s_call, ↓s_callv, ↓s_callV, ↓s_ext, s_same, b_eql, b_neq, b_lss, b_leq, b_gtr, b_geq, b_add, b_sub, b_mul, b_eqlb, b_neqb, b_fnil, b_fnil', b_fnil2, b_fnil2', u_neg, u_not, m_two, s_end, s_end', s_end_iteN, s_res0, s_res1, s_tup1, s_tup2, ↓iteN_true, ↓iteN_false, iteN_true, iteN_false, Nat.zero_add, List.nil_append, List.append_nil, Nat.reduceEqDiff, reduceIte, decide_true, decide_false, Bool.not_true, Bool.not_false, List.getElem?_cons_zero, List.getElem?_cons_succ, Bool.false_eq_true, if_true, if_false, beq_self_eq_true]
theorem eqnil (h : H) (a : Option (Nat × Nat)) (n : Nat) (c : Option Nat) (e : Nat) : binV .eql (.ref .s) h (.slice a n c e) (.slice none 0 (some 0) 0) = some (.bool a.isNone) := by
  cases a <;> rfl
theorem app_b (h : H) (l : List Nat) (hl : l.length ≤ 1000000) : ∃ a c e h', appendC (h.new (.cells [] .rw)) 1 1 (.slice (some (h.next, 0)) 0 (some 0) 1) (some (l.length, ofI .u8 l)) = some (.slice a l.length c e, h') ∧ Kp h h' ∧ SrcH h' a e l ∧ (∀ q z, a = some (q, z) → h.next ≤ q) := by
  have k1 : Kp h (h.new (.cells [] .rw)) := Kp.new _ _
  cases hn : l.length with
  | zero =>
    have l0 : l = [] := List.length_eq_zero_iff.1 hn
    exact ⟨some (h.next, 0), some 0, 1, _, by rw [l0]; exact appN _ _ _ _ _ _, k1, .inl l0, fun q z e => by cases e; exact Nat.le_refl _⟩
  | succ n =>
    have g : (h.new (.cells [] .rw)).get h.next = some (.cells [] .rw) := h_new_same _ _
    have nx : (h.new (.cells [] .rw)).next = h.next + 1 := rfl
    obtain ⟨h1, e1⟩ : ∃ h1, h.new (.cells [] .rw) = h1 := ⟨_, rfl⟩
    rw [e1] at g k1 nx ⊢
    refine ⟨some (h1.next, 0), none, 1, h1.new (.cells (ofI .u8 l) .rw), ?_, k1.trans (Kp.new _ _), .inr ⟨h1.next, 0, _, .rw, rfl, rfl, Nat.lt_succ_self _, h_new_same _ _, by rw [ofI_len]; omega, by rw [List.drop_zero]; exact List.take_of_length_le (by rw [ofI_len]; exact Nat.le_refl _)⟩, fun q z e => by cases e; omega⟩
    unfold appendC
    simp only
    have r : (roomy (0 + (n + 1)) 1 && (Nat.beq 1 1 || (some (h.next, 0) : Option (Nat × Nat)).isNone) && (ofI .u8 l).all plainV) = true := by
      rw [plain_ofI]; have : roomy (0 + (n + 1)) 1 = true := by simp [roomy]; omega
      rw [this]; rfl
    have f : fullC (some 0) (0 + (n + 1)) = true := by
      show Nat.blt 0 (0 + (n + 1)) = true
      simp
    rw [r]
    simp only [_root_.cond_true, g, f]
    have rd : readN ([] : List V) 0 (0 * 1) = some [] := rfl
    simp only [rd, List.nil_append, Nat.zero_add]
theorem clone_go (e : EnOp E) (x : NoOp X) (N : Nat) (l : List Nat) (hl : l.length ≤ 1000000) (a : Option (Nat × Nat)) (c : Option Nat) (ez : Nat) (h : H) (src : SrcH h a ez l) (hn : a = none → l = []) :
    ∃ h' a2 c2 e2, callX E X (N + 1) (.fn k_bytes_Clone) [.slice a l.length c ez] h = some (.slice a2 l.length c2 e2, h') ∧ Kp h h' ∧ SrcH h' a2 e2 l ∧ (∀ q z, a2 = some (q, z) → h.next ≤ q) := by
  rw [x_cfn e.cl _ _ (Nat.le_of_ble_eq_true rfl) (x.cl _ _)]
  have q := fun h => eqnil h a l.length c ez
  cases a with
  | none =>
    obtain rfl := hn rfl
    refine ⟨h, none, some 0, 0, ?_, Kp.refl _, .inl rfl, fun _ _ e => by cases e⟩
    rw [List.length_nil]
    have q0 := fun h => eqnil h none 0 c ez
    simp (config := {maxSteps := 2000000}) (disch := first | omega | (simp only [List.length_cons, List.length_nil, List.length_append, List.length_drop]; omega)) only [q0, Option.isNone_none, ↓b_xor32, ↓b_and32, ↓b_or32, ↓u_not32, b_xor32, b_and32, b_or32, u_not32, w32ad, ↓x_conv, x_convV, ↓x_fieldAddr, x_fieldV, ↓s_nilchk, x_nilchk, Nat.zero_add, Nat.add_zero, Nat.mul_one, ↓l_loop, ↓l_succ, ↓l_normal, l_normal, l_exit, l_ret, l_iteN, ↓h_put_get, ↓h_new_get, ↓h_del_get, h_next_put, h_next_new, h_next_del, Nat.add_assoc, Nat.add_eq_left, Nat.left_eq_add, Nat.add_left_cancel_iff, ↓s_load, m_load, ↓m_load1, m_load1, ↓m_st, m_stE, m_storeI, m_storeE, w_zero, w_succ, ↓s_alloc, ↓x_idxA, ↓x_idxS, x_idxAE, x_idxSE, x_addrE, x_idx, x_lenS, ↓s_len, ↓x_buildS, x_buildE, ↓x_P0, ↓x_P1, x_fill0, x_filli, x_fills, x_fillb, c_int, List.length_cons, List.length_nil, List.cons_append, List.drop_succ_cons, List.drop_zero, List.drop_nil, List.nil_append, Int.reduceAdd, Int.reduceToNat, Int.reduceLT, Int.reduceLE, Nat.reduceAdd, Nat.reduceMul, Nat.reduceLeDiff, Int.reduceEq, Int.reduceSub, Int.cast_ofNat_Int, s_resc, s_consR, m_load4, m_store4, s_res0, ↓s_skip, ↓s_ops, ↓s_dops, ↓s_seq, ↓s_cond, ↓s_block, ↓s_exit, ↓s_ret, ↓s_scope, ↓s_nil, ↓s_op, ↓s_opg, ↓s_wanted', ↓s_wantV, s_wantV, s_wantV0, beq_true, beq_false, ↓s_bindS, s_bindS, ↓s_bindE, s_bindE, s_bindE_ret, s_bindE_exit, s_bindE_iteN, s_norm, ↓s_condV, s_condV, s_block_ret, s_block_normal, s_block_exit, s_block_iteN, ↓s_getp, ↓s_getp0, ↓s_get, s_get0, ↓s_con, ↓s_fn, ↓s_os0, ↓s_os1, ↓s_list0, ↓s_list1, ↓s_mov, ↓s_pick, ↓s_pickE, s_pickE, ↓s_bin, ↓s_un, ↓s_minmax, ↓s_call, ↓s_callv, ↓s_callV, ↓s_ext, s_same, b_eql, b_neq, b_lss, b_leq, b_gtr, b_geq, b_add, b_sub, b_mul, b_eqlb, b_neqb, b_fnil, b_fnil', b_fnil2, b_fnil2', u_neg, u_not, m_two, s_end, s_end', s_end_iteN, s_res0, s_res1, s_tup1, s_tup2, ↓iteN_true, ↓iteN_false, iteN_true, iteN_false, Nat.zero_add, List.nil_append, List.append_nil, Nat.reduceEqDiff, reduceIte, decide_true, decide_false, Bool.not_true, Bool.not_false, List.getElem?_cons_zero, List.getElem?_cons_succ, Bool.false_eq_true, if_true, if_false, beq_self_eq_true]
    try rfl
  | some p =>
    have k1 : Kp h (h.new (.cells [] .rw)) := Kp.new _ _
    have sc := (src.mono k1).cellz c
    obtain ⟨a2, c2, e2, h', ap, k, s, g⟩ := app_b h l hl
    refine ⟨h', a2, c2, e2, ?_, k, s, g⟩
    obtain ⟨n, en⟩ : ∃ n, l.length = n := ⟨_, rfl⟩
    rw [en] at sc ap q ⊢
    simp (config := {maxSteps := 2000000}) (disch := first | omega | (simp only [List.length_cons, List.length_nil, List.length_append, List.length_drop]; omega)) only [q, Option.isNone_some, sc, ap, ↓s_append, ↓b_xor32, ↓b_and32, ↓b_or32, ↓u_not32, b_xor32, b_and32, b_or32, u_not32, w32ad, ↓x_conv, x_convV, ↓x_fieldAddr, x_fieldV, ↓s_nilchk, x_nilchk, Nat.zero_add, Nat.add_zero, Nat.mul_one, ↓l_loop, ↓l_succ, ↓l_normal, l_normal, l_exit, l_ret, l_iteN, ↓h_put_get, ↓h_new_get, ↓h_del_get, h_next_put, h_next_new, h_next_del, Nat.add_assoc, Nat.add_eq_left, Nat.left_eq_add, Nat.add_left_cancel_iff, ↓s_load, m_load, ↓m_load1, m_load1, ↓m_st, m_stE, m_storeI, m_storeE, w_zero, w_succ, ↓s_alloc, ↓x_idxA, ↓x_idxS, x_idxAE, x_idxSE, x_addrE, x_idx, x_lenS, ↓s_len, ↓x_buildS, x_buildE, ↓x_P0, ↓x_P1, x_fill0, x_filli, x_fills, x_fillb, c_int, List.length_cons, List.length_nil, List.cons_append, List.drop_succ_cons, List.drop_zero, List.drop_nil, List.nil_append, Int.reduceAdd, Int.reduceToNat, Int.reduceLT, Int.reduceLE, Nat.reduceAdd, Nat.reduceMul, Nat.reduceLeDiff, Int.reduceEq, Int.reduceSub, Int.cast_ofNat_Int, s_resc, s_consR, m_load4, m_store4, s_res0, ↓s_skip, ↓s_ops, ↓s_dops, ↓s_seq, ↓s_cond, ↓s_block, ↓s_exit, ↓s_ret, ↓s_scope, ↓s_nil, ↓s_op, ↓s_opg, ↓s_wanted', ↓s_wantV, s_wantV, s_wantV0, beq_true, beq_false, ↓s_bindS, s_bindS, ↓s_bindE, s_bindE, s_bindE_ret, s_bindE_exit, s_bindE_iteN, s_norm, ↓s_condV, s_condV, s_block_ret, s_block_normal, s_block_exit, s_block_iteN, ↓s_getp, ↓s_getp0, ↓s_get, s_get0, ↓s_con, ↓s_fn, ↓s_os0, ↓s_os1, ↓s_list0, ↓s_list1, ↓s_mov, ↓s_pick, ↓s_pickE, s_pickE, ↓s_bin, ↓s_un, ↓s_minmax, ↓s_call, ↓s_callv, ↓s_callV, ↓s_ext, s_same, b_eql, b_neq, b_lss, b_leq, b_gtr, b_geq, b_add, b_sub, b_mul, b_eqlb, b_neqb, b_fnil, b_fnil', b_fnil2, b_fnil2', u_neg, u_not, m_two, s_end, s_end', s_end_iteN, s_res0, s_res1, s_tup1, s_tup2, ↓iteN_true, ↓iteN_false, iteN_true, iteN_false, Nat.zero_add, List.nil_append, List.append_nil, Nat.reduceEqDiff, reduceIte, decide_true, decide_false, Bool.not_true, Bool.not_false, List.getElem?_cons_zero, List.getElem?_cons_succ, Bool.false_eq_true, if_true, if_false, beq_self_eq_true]
    try rfl
end Go.Eng
namespace Go.Eng
open Go
variable {E : Nat → Option Fn} {X : Orc}
set_option linter.unusedSimpArgs false
set_option linter.unusedVariables false
/-- a slice of bytes that may be written over -/
def Ow (h : H) (w : List Nat) (a : Option (Nat × Nat)) (e : Nat) : Prop := w = [] ∨ ∃ q md, a = some (q, 0) ∧ e = 1 ∧ h.get q = some (.cells (ofI .u8 w) md) ∧ isRo md = false ∧ q < h.next
theorem Ow.src {h : H} {w : List Nat} {a : Option (Nat × Nat)} {e : Nat} (s : Ow h w a e) : SrcH h a e w := by
  rcases s with s | ⟨q, md, rfl, rfl, g, _, hq⟩
  · exact .inl s
  · exact .inr ⟨q, 0, _, md, rfl, rfl, hq, g, by rw [ofI_len]; omega, by rw [List.drop_zero]; exact List.take_of_length_le (by rw [ofI_len]; exact Nat.le_refl _)⟩
theorem Ow.kp {h h' : H} {w : List Nat} {a : Option (Nat × Nat)} {e : Nat} (s : Ow h w a e) (k : Kp h h') : Ow h' w a e := by
  rcases s with s | ⟨q, md, e1, e2, g, hm, hq⟩
  · exact .inl s
  · exact .inr ⟨q, md, e1, e2, by rw [k.2 _ hq, g], hm, Nat.lt_of_lt_of_le hq k.1⟩
theorem app_bO (h : H) (l : List Nat) (hl : l.length ≤ 1000000) : ∃ a c e h', appendC (h.new (.cells [] .rw)) 1 1 (.slice (some (h.next, 0)) 0 (some 0) 1) (some (l.length, ofI .u8 l)) = some (.slice a l.length c e, h') ∧ Kp h h' ∧ Ow h' l a e ∧ (∀ q z, a = some (q, z) → h.next ≤ q) := by
  have k1 : Kp h (h.new (.cells [] .rw)) := Kp.new _ _
  cases hn : l.length with
  | zero =>
    have l0 : l = [] := List.length_eq_zero_iff.1 hn
    exact ⟨some (h.next, 0), some 0, 1, _, by rw [l0]; exact appN _ _ _ _ _ _, k1, .inl l0, fun q z e => by cases e; exact Nat.le_refl _⟩
  | succ n =>
    have g : (h.new (.cells [] .rw)).get h.next = some (.cells [] .rw) := h_new_same _ _
    have nx : (h.new (.cells [] .rw)).next = h.next + 1 := rfl
    obtain ⟨h1, e1⟩ : ∃ h1, h.new (.cells [] .rw) = h1 := ⟨_, rfl⟩
    rw [e1] at g k1 nx ⊢
    refine ⟨some (h1.next, 0), none, 1, h1.new (.cells (ofI .u8 l) .rw), ?_, k1.trans (Kp.new _ _), .inr ⟨h1.next, .rw, rfl, rfl, h_new_same _ _, rfl, Nat.lt_succ_self _⟩, fun q z e => by cases e; omega⟩
    unfold appendC
    simp only
    have r : (roomy (0 + (n + 1)) 1 && (Nat.beq 1 1 || (some (h.next, 0) : Option (Nat × Nat)).isNone) && (ofI .u8 l).all plainV) = true := by
      rw [plain_ofI]; have : roomy (0 + (n + 1)) 1 = true := by simp [roomy]; omega
      rw [this]; rfl
    have f : fullC (some 0) (0 + (n + 1)) = true := by
      show Nat.blt 0 (0 + (n + 1)) = true
      simp
    rw [r]
    simp only [_root_.cond_true, g, f]
    have rd : readN ([] : List V) 0 (0 * 1) = some [] := rfl
    simp only [rd, List.nil_append, Nat.zero_add]
theorem cloneO_go (e : EnOp E) (x : NoOp X) (N : Nat) (l : List Nat) (hl : l.length ≤ 1000000) (a : Option (Nat × Nat)) (c : Option Nat) (ez : Nat) (h : H) (src : SrcH h a ez l) (hn : a = none → l = []) :
    ∃ h' a2 c2 e2, callX E X (N + 1) (.fn k_bytes_Clone) [.slice a l.length c ez] h = some (.slice a2 l.length c2 e2, h') ∧ Kp h h' ∧ Ow h' l a2 e2 ∧ (∀ q z, a2 = some (q, z) → h.next ≤ q) := by
  rw [x_cfn e.cl _ _ (Nat.le_of_ble_eq_true rfl) (x.cl _ _)]
  have q := fun h => eqnil h a l.length c ez
  cases a with
  | none =>
    obtain rfl := hn rfl
    refine ⟨h, none, some 0, 0, ?_, Kp.refl _, .inl rfl, fun _ _ e => by cases e⟩
    rw [List.length_nil]
    have q0 := fun h => eqnil h none 0 c ez
    simp (config := {maxSteps := 2000000}) (disch := first | omega | (simp only [List.length_cons, List.length_nil, List.length_append, List.length_drop]; omega)) only [q0, Option.isNone_none, ↓b_xor32, ↓b_and32, ↓b_or32, ↓u_not32, b_xor32, b_and32, b_or32, u_not32, w32ad, ↓x_conv, x_convV, ↓x_fieldAddr, x_fieldV, ↓s_nilchk, x_nilchk, Nat.zero_add, Nat.add_zero, Nat.mul_one, ↓l_loop, ↓l_succ, ↓l_normal, l_normal, l_exit, l_ret, l_iteN, ↓h_put_get, ↓h_new_get, ↓h_del_get, h_next_put, h_next_new, h_next_del, Nat.add_assoc, Nat.add_eq_left, Nat.left_eq_add, Nat.add_left_cancel_iff, ↓s_load, m_load, ↓m_load1, m_load1, ↓m_st, m_stE, m_storeI, m_storeE, w_zero, w_succ, ↓s_alloc, ↓x_idxA, ↓x_idxS, x_idxAE, x_idxSE, x_addrE, x_idx, x_lenS, ↓s_len, ↓x_buildS, x_buildE, ↓x_P0, ↓x_P1, x_fill0, x_filli, x_fills, x_fillb, c_int, List.length_cons, List.length_nil, List.cons_append, List.drop_succ_cons, List.drop_zero, List.drop_nil, List.nil_append, Int.reduceAdd, Int.reduceToNat, Int.reduceLT, Int.reduceLE, Nat.reduceAdd, Nat.reduceMul, Nat.reduceLeDiff, Int.reduceEq, Int.reduceSub, Int.cast_ofNat_Int, s_resc, s_consR, m_load4, m_store4, s_res0, ↓s_skip, ↓s_ops, ↓s_dops, ↓s_seq, ↓s_cond, ↓s_block, ↓s_exit, ↓s_ret, ↓s_scope, ↓s_nil, ↓s_op, ↓s_opg, ↓s_wanted', ↓s_wantV, s_wantV, s_wantV0, beq_true, beq_false, ↓s_bindS, s_bindS, ↓s_bindE, s_bindE, s_bindE_ret, s_bindE_exit, s_bindE_iteN, s_norm, ↓s_condV, s_condV, s_block_ret, s_block_normal, s_block_exit, s_block_iteN, ↓s_getp, ↓s_getp0, ↓s_get, s_get0, ↓s_con, ↓s_fn, ↓s_os0, ↓s_os1, ↓s_list0, ↓s_list1, ↓s_mov, ↓s_pick, ↓s_pickE, s_pickE, ↓s_bin, ↓s_un, ↓s_minmax, ↓s_call, ↓s_callv, ↓s_callV, ↓s_ext, s_same, b_eql, b_neq, b_lss, b_leq, b_gtr, b_geq, b_add, b_sub, b_mul, b_eqlb, b_neqb, b_fnil, b_fnil', b_fnil2, b_fnil2', u_neg, u_not, m_two, s_end, s_end', s_end_iteN, s_res0, s_res1, s_tup1, s_tup2, ↓iteN_true, ↓iteN_false, iteN_true, iteN_false, Nat.zero_add, List.nil_append, List.append_nil, Nat.reduceEqDiff, reduceIte, decide_true, decide_false, Bool.not_true, Bool.not_false, List.getElem?_cons_zero, List.getElem?_cons_succ, Bool.false_eq_true, if_true, if_false, beq_self_eq_true]
    try rfl
  | some p =>
    have k1 : Kp h (h.new (.cells [] .rw)) := Kp.new _ _
    have sc := (src.mono k1).cellz c
    obtain ⟨a2, c2, e2, h', ap, k, s, g⟩ := app_bO h l hl
    refine ⟨h', a2, c2, e2, ?_, k, s, g⟩
    obtain ⟨n, en⟩ : ∃ n, l.length = n := ⟨_, rfl⟩
    rw [en] at sc ap q ⊢
    simp (config := {maxSteps := 2000000}) (disch := first | omega | (simp only [List.length_cons, List.length_nil, List.length_append, List.length_drop]; omega)) only [q, Option.isNone_some, sc, ap, ↓s_append, ↓b_xor32, ↓b_and32, ↓b_or32, ↓u_not32, b_xor32, b_and32, b_or32, u_not32, w32ad, ↓x_conv, x_convV, ↓x_fieldAddr, x_fieldV, ↓s_nilchk, x_nilchk, Nat.zero_add, Nat.add_zero, Nat.mul_one, ↓l_loop, ↓l_succ, ↓l_normal, l_normal, l_exit, l_ret, l_iteN, ↓h_put_get, ↓h_new_get, ↓h_del_get, h_next_put, h_next_new, h_next_del, Nat.add_assoc, Nat.add_eq_left, Nat.left_eq_add, Nat.add_left_cancel_iff, ↓s_load, m_load, ↓m_load1, m_load1, ↓m_st, m_stE, m_storeI, m_storeE, w_zero, w_succ, ↓s_alloc, ↓x_idxA, ↓x_idxS, x_idxAE, x_idxSE, x_addrE, x_idx, x_lenS, ↓s_len, ↓x_buildS, x_buildE, ↓x_P0, ↓x_P1, x_fill0, x_filli, x_fills, x_fillb, c_int, List.length_cons, List.length_nil, List.cons_append, List.drop_succ_cons, List.drop_zero, List.drop_nil, List.nil_append, Int.reduceAdd, Int.reduceToNat, Int.reduceLT, Int.reduceLE, Nat.reduceAdd, Nat.reduceMul, Nat.reduceLeDiff, Int.reduceEq, Int.reduceSub, Int.cast_ofNat_Int, s_resc, s_consR, m_load4, m_store4, s_res0, ↓s_skip, ↓s_ops, ↓s_dops, ↓s_seq, ↓s_cond, ↓s_block, ↓s_exit, ↓s_ret, ↓s_scope, ↓s_nil, ↓s_op, ↓s_opg, ↓s_wanted', ↓s_wantV, s_wantV, s_wantV0, beq_true, beq_false, ↓s_bindS, s_bindS, ↓s_bindE, s_bindE, s_bindE_ret, s_bindE_exit, s_bindE_iteN, s_norm, ↓s_condV, s_condV, s_block_ret, s_block_normal, s_block_exit, s_block_iteN, ↓s_getp, ↓s_getp0, ↓s_get, s_get0, ↓s_con, ↓s_fn, ↓s_os0, ↓s_os1, ↓s_list0, ↓s_list1, ↓s_mov, ↓s_pick, ↓s_pickE, s_pickE, ↓s_bin, ↓s_un, ↓s_minmax, ↓s_call, ↓s_callv, ↓s_callV, ↓s_ext, s_same, b_eql, b_neq, b_lss, b_leq, b_gtr, b_geq, b_add, b_sub, b_mul, b_eqlb, b_neqb, b_fnil, b_fnil', b_fnil2, b_fnil2', u_neg, u_not, m_two, s_end, s_end', s_end_iteN, s_res0, s_res1, s_tup1, s_tup2, ↓iteN_true, ↓iteN_false, iteN_true, iteN_false, Nat.zero_add, List.nil_append, List.append_nil, Nat.reduceEqDiff, reduceIte, decide_true, decide_false, Bool.not_true, Bool.not_false, List.getElem?_cons_zero, List.getElem?_cons_succ, Bool.false_eq_true, if_true, if_false, beq_self_eq_true]
    try rfl
theorem stAny (k : IntKind) (l : List Nat) (c : List V) (md : Md) (hm : isRo md = false) (h : H) (i off : Nat) (hl : off + c.length ≤ l.length) : storeE (some (.cells (ofI k l) md)) h i off c = some (h.put i (.cells (writeN (ofI k l) off c) md)) := by
  cases md with
  | ro => cases hm
  | rw => exact m_storeE _ _ _ _ _ (by rw [ofI_len]; exact hl)
  | sh => exact m_storeEs _ _ _ _ _ (by rw [ofI_len]; exact hl)
theorem twinv_go (e : E k_purserref01_Twin = some f_purserref01_Twin) (x : ∀ a h, X (.fn k_purserref01_Twin) a h = none) (N : Nat) (l : List Nat) (hl : l.length ≤ 1000000) (a : Option (Nat × Nat)) (c : Option Nat) (ez : Nat) (h : H) (src : SrcH h a ez l) :
    ∃ ao co eo h', callX E X (N + 1) (.fn k_purserref01_Twin) [.slice a l.length c ez] h = some (.slice ao l.length co eo, h') ∧ Nw h h' l ao co eo := by
  rw [x_cfn e _ _ (Nat.le_of_ble_eq_true rfl) (x _ _)]
  have sc := src.cellz c
  obtain ⟨a2, c2, e2, h', ap, nw⟩ := app_nw h l hl
  refine ⟨a2, c2, e2, h', ?_, nw⟩
  obtain ⟨n, en⟩ : ∃ n, l.length = n := ⟨_, rfl⟩
  rw [en] at sc ap ⊢
  simp (config := {maxSteps := 2000000}) (disch := first | omega | (simp only [List.length_cons, List.length_nil, List.length_append, List.length_drop]; omega)) only [sc, ap, ↓s_append, ↓b_xor32, ↓b_and32, ↓b_or32, ↓u_not32, b_xor32, b_and32, b_or32, u_not32, w32ad, ↓x_conv, x_convV, ↓x_fieldAddr, x_fieldV, ↓s_nilchk, x_nilchk, Nat.zero_add, Nat.add_zero, Nat.mul_one, ↓l_loop, ↓l_succ, ↓l_normal, l_normal, l_exit, l_ret, l_iteN, ↓h_put_get, ↓h_new_get, ↓h_del_get, h_next_put, h_next_new, h_next_del, Nat.add_assoc, Nat.add_eq_left, Nat.left_eq_add, Nat.add_left_cancel_iff, ↓s_load, m_load, ↓m_load1, m_load1, ↓m_st, m_stE, m_storeI, m_storeE, w_zero, w_succ, ↓s_alloc, ↓x_idxA, ↓x_idxS, x_idxAE, x_idxSE, x_addrE, x_idx, x_lenS, ↓s_len, ↓x_buildS, x_buildE, ↓x_P0, ↓x_P1, x_fill0, x_filli, x_fills, x_fillb, c_int, List.length_cons, List.length_nil, List.cons_append, List.drop_succ_cons, List.drop_zero, List.drop_nil, List.nil_append, Int.reduceAdd, Int.reduceToNat, Int.reduceLT, Int.reduceLE, Nat.reduceAdd, Nat.reduceMul, Nat.reduceLeDiff, Int.reduceEq, Int.reduceSub, Int.cast_ofNat_Int, s_resc, s_consR, m_load4, m_store4, s_res0, ↓s_skip, ↓s_ops, ↓s_dops, ↓s_seq, ↓s_cond, ↓s_block, ↓s_exit, ↓s_ret, ↓s_scope, ↓s_nil, ↓s_op, ↓s_opg, ↓s_wanted', ↓s_wantV, s_wantV, s_wantV0, beq_true, beq_false, ↓s_bindS, s_bindS, ↓s_bindE, s_bindE, s_bindE_ret, s_bindE_exit, s_bindE_iteN, s_norm, ↓s_condV, s_condV, s_block_ret, s_block_normal, s_block_exit, s_block_iteN, ↓s_getp, ↓s_getp0, ↓s_get, s_get0, ↓s_con, ↓s_fn, ↓s_os0, ↓s_os1, ↓s_list0, ↓s_list1, ↓s_mov, ↓s_pick, ↓s_pickE, s_pickE, ↓s_bin, ↓s_un, ↓s_minmax, ↓s_call, ↓s_callv, ↓s_callV, ↓s_ext, s_same, b_eql, b_neq, b_lss, b_leq, b_gtr, b_geq, b_add, b_sub, b_mul, b_eqlb, b_neqb, b_fnil, b_fnil', b_fnil2, b_fnil2', u_neg, u_not, m_two, s_end, s_end', s_end_iteN, s_res0, s_res1, s_tup1, s_tup2, ↓iteN_true, ↓iteN_false, iteN_true, iteN_false, Nat.zero_add, List.nil_append, List.append_nil, Nat.reduceEqDiff, reduceIte, decide_true, decide_false, Bool.not_true, Bool.not_false, List.getElem?_cons_zero, List.getElem?_cons_succ, Bool.false_eq_true, if_true, if_false, beq_self_eq_true]
end Go.Eng
namespace Go.Eng
open Go
variable {E : Nat → Option Fn} {X : Orc}
set_option linter.unusedSimpArgs false
set_option linter.unusedVariables false
def accQ (b : List Nat) (cn : Nat) : Nat → Nat
  | 0 => 0
  | i + 1 => accQ b cn i * 256 + b.getD (cn - i) 0
theorem accQ_lt (b : List Nat) (bb : byt b = true) (cn i : Nat) : accQ b cn i < 256 ^ i := by
  induction i with
  | zero => exact Nat.one_pos
  | succ i ih =>
    have := getD_byt bb (cn - i)
    show accQ b cn i * 256 + b.getD (cn - i) 0 < _
    rw [Nat.pow_succ]; omega
theorem acc_rd (c : Nat) (r : List Nat) (h : ¬ c ≤ 75) : accQ (c :: r) (cnQ c) (cnQ c) = rdN c r := by
  unfold rdN cnQ
  rw [if_neg h]
  by_cases c7 : c = 77
  · rw [if_pos c7, if_pos c7]
    show (0 * 256 + (c :: r).getD 2 0) * 256 + (c :: r).getD 1 0 = r.getD 0 0 + 256 * r.getD 1 0
    simp only [List.getD_cons_succ]; omega
  · rw [if_neg c7, if_neg c7]
    by_cases c6 : c = 76
    · rw [if_pos c6, if_pos c6]
      show 0 * 256 + (c :: r).getD 1 0 = r.getD 0 0
      simp only [List.getD_cons_succ]; omega
    · rw [if_neg c6, if_neg c6]; rfl
theorem shlI8 (n : Nat) (hn : n < 256) (e : EqK) (h : H) : binV .shl e h (.int .i64 (n : Int)) (.int .u64 8) = some (.int .i64 ((n * 256 : Nat) : Int)) := by
  have e1 : binV .shl e h (.int .i64 (n : Int)) (.int .u64 8) = some (.int .i64 (wr .i64 ((n : Int) * Int.ofNat (2 ^ 8)))) := rfl
  rw [e1, show (n : Int) * Int.ofNat (2 ^ 8) = ((n * 256 : Nat) : Int) from by simp, wr_i64 (by omega)]
theorem orI8 (n b : Nat) (hn : n < 256) (hb : b < 256) (e : EqK) (h : H) : binV .or e h (.int .i64 ((n * 256 : Nat) : Int)) (.int .i64 (b : Int)) = some (.int .i64 ((n * 256 + b : Nat) : Int)) := by
  have e1 : binV .or e h (.int .i64 ((n * 256 : Nat) : Int)) (.int .i64 (b : Int)) = some (.int .i64 (asK .i64 (Nat.lor (n * 256 % 18446744073709551616) (b % 18446744073709551616)))) := rfl
  rw [e1, Nat.mod_eq_of_lt (by omega), Nat.mod_eq_of_lt (a := b) (by omega), show Nat.lor (n * 256) b = n * 256 + b from shl_or n b 8 hb]
  unfold asK half
  rw [show Nat.blt (n * 256 + b) 9223372036854775808 = true from by simp; omega]; rfl
/-- a byte of a slice -/
theorem src_at {h : H} {a : Option (Nat × Nat)} {l : List Nat} {bi off : Nat} {vs : List V} (h6 : (vs.drop off).take l.length = ofI .u8 l) (i : Nat) (hi : i < l.length) : vs[off + i]? = some (.int .u8 (l.getD i 0 : Nat)) := by
  have : ((vs.drop off).take l.length)[i]? = (ofI .u8 l)[i]? := by rw [h6]
  rw [List.getElem?_take_of_lt hi, List.getElem?_drop, ofI_get _ _ _ hi] at this
  exact this
theorem st2 (h : H) (i : Nat) (k : IntKind) (x : Int) (a : Option (Nat × Nat)) (n : Nat) (c : Option Nat) (e : Nat) : storeV h 2 (.ptr (some (i, 0))) (.agg [.int k x, .slice a n c e]) = storeE (h.get i) h i 0 [.int k x, .slice a n c e] := m_storeA h 2 i 0 _ rfl
theorem st2r (u v : V) (h : H) (i : Nat) (k : IntKind) (x : Int) (a : Option (Nat × Nat)) (n : Nat) (c : Option Nat) (e : Nat) : storeE (some (.cells [u, v] .rw)) h i 0 [.int k x, .slice a n c e] = some (h.put i (.cells [.int k x, .slice a n c e] .rw)) := m_storeE _ _ _ _ _ (by show 0 + 2 ≤ 2; omega)
structure FI (v : V) (p cd cn : Nat) (b : List Nat) (h0 : H) (i : Nat) (T : Tr V) (h : H) : Prop where
  il : i ≤ cn
  t0 : evO T (.t 0) = v
  t2 : evO T (.t 2) = .ptr (some (p, 0))
  t5 : evO T (.t 5) = .int .u8 (cd : Int)
  t6 : evO T (.t 6) = .int .i64 ((1 + cn : Nat) : Int)
  t7 : evO T (.t 7) = .int .i64 (accQ b cn i : Nat)
  t8 : evO T (.t 8) = .int .i64 ((cn - i : Nat) : Int)
  hh : h = h0
theorem fi_step (Q : Orc) (m p cd cn : Nat) (hc2 : cn ≤ 2) (b : List Nat) (bb : byt b = true) (hcl : cn < b.length) (bi off : Nat) (vs : List V) (md : Md) (h0 : H) (g : h0.get bi = some (.cells vs md)) (h6 : (vs.drop off).take b.length = ofI .u8 b) :
    ∀ i T h, i < cn → FI (.slice (some (bi, off)) b.length none 1) p cd cn b h0 i T h → ∃ T' h', evC Q 54 m none L_ops_first_0 ⟨T, [], h⟩ = some (.normal, ⟨T', [], h'⟩) ∧ FI (.slice (some (bi, off)) b.length none 1) p cd cn b h0 (i + 1) T' h' := by
  intro i T h hi ⟨_, t0, t2, t5, t6, t7, t8, hh⟩
  subst hh
  have c0 : decide ((0 : Int) < ((cn - i : Nat) : Int)) = true := decide_eq_true (by omega)
  have wi : wr .i64 (((cn - i : Nat) : Int) - 1) = ((cn - (i + 1) : Nat) : Int) := by rw [wr_i64 (by omega)]; omega
  have ix : idx ((cn - i : Nat) : Int) b.length = some (cn - i) := idxn (by omega)
  have cg := src_at (h := h) (a := none) (bi := bi) h6 (cn - i) (by omega)
  have ac := accQ_lt b bb cn i
  have ac2 : accQ b cn i < 256 := Nat.lt_of_lt_of_le ac (Nat.pow_le_pow_right (n := 256) (i := i) (j := 1) (by omega) (by omega))
  have gy := getD_byt bb (cn - i)
  have es : accQ b cn (i + 1) = accQ b cn i * 256 + b.getD (cn - i) 0 := rfl
  have i1 : i + 1 ≤ cn := hi
  obtain ⟨A', eA'⟩ : ∃ v, accQ b cn (i + 1) = v := ⟨_, rfl⟩
  obtain ⟨d', ed'⟩ : ∃ v, cn - (i + 1) = v := ⟨_, rfl⟩
  rw [eA'] at es
  rw [ed'] at wi
  generalize accQ b cn i = A at *
  generalize b.getD (cn - i) 0 = y at *
  generalize cn - i = d at *
  have s1 := shlI8 A ac2
  have s2 := orI8 A y ac2 gy
  rw [← es] at s2
  have wy : wr .i64 (y : Int) = (y : Int) := wr_i64 (by omega)
  generalize b.length = n at *
  exact ⟨_, _, by
    simp (config := {maxSteps := 2000000}) (disch := first | omega | (simp only [List.length_cons, List.length_nil, List.length_append, List.length_drop]; omega)) only [L_ops_first_0, t0, t2, t5, t6, t7, t8, g, cg, c0, wi, ix, s1, s2, wy, ↓b_xor32, ↓b_and32, ↓b_or32, ↓u_not32, b_xor32, b_and32, b_or32, u_not32, w32ad, ↓x_conv, x_convV, ↓x_fieldAddr, x_fieldV, ↓s_nilchk, x_nilchk, Nat.zero_add, Nat.add_zero, Nat.mul_one, ↓l_loop, ↓l_succ, ↓l_normal, l_normal, l_exit, l_ret, l_iteN, ↓h_put_get, ↓h_new_get, ↓h_del_get, h_next_put, h_next_new, h_next_del, Nat.add_assoc, Nat.add_eq_left, Nat.left_eq_add, Nat.add_left_cancel_iff, ↓s_load, m_load, ↓m_load1, m_load1, ↓m_st, m_stE, m_storeI, m_storeE, w_zero, w_succ, ↓s_alloc, ↓x_idxA, ↓x_idxS, x_idxAE, x_idxSE, x_addrE, x_idx, x_lenS, ↓s_len, ↓x_buildS, x_buildE, ↓x_P0, ↓x_P1, x_fill0, x_filli, x_fills, x_fillb, c_int, List.length_cons, List.length_nil, List.cons_append, List.drop_succ_cons, List.drop_zero, List.drop_nil, List.nil_append, Int.reduceAdd, Int.reduceToNat, Int.reduceLT, Int.reduceLE, Nat.reduceAdd, Nat.reduceMul, Nat.reduceLeDiff, Int.reduceEq, Int.reduceSub, Int.cast_ofNat_Int, s_resc, s_consR, m_load4, m_store4, s_res0, ↓s_skip, ↓s_ops, ↓s_dops, ↓s_seq, ↓s_cond, ↓s_block, ↓s_exit, ↓s_ret, ↓s_scope, ↓s_nil, ↓s_op, ↓s_opg, ↓s_wanted', ↓s_wantV, s_wantV, s_wantV0, beq_true, beq_false, ↓s_bindS, s_bindS, ↓s_bindE, s_bindE, s_bindE_ret, s_bindE_exit, s_bindE_iteN, s_norm, ↓s_condV, s_condV, s_block_ret, s_block_normal, s_block_exit, s_block_iteN, ↓s_getp, ↓s_getp0, ↓s_get, s_get0, ↓s_con, ↓s_fn, ↓s_os0, ↓s_os1, ↓s_list0, ↓s_list1, ↓s_mov, ↓s_pick, ↓s_pickE, s_pickE, ↓s_bin, ↓s_un, ↓s_minmax, ↓s_call, ↓s_callv, ↓s_callV, ↓s_ext, s_same, b_eql, b_neq, b_lss, b_leq, b_gtr, b_geq, b_add, b_sub, b_mul, b_eqlb, b_neqb, b_fnil, b_fnil', b_fnil2, b_fnil2', u_neg, u_not, m_two, s_end, s_end', s_end_iteN, s_res0, s_res1, s_tup1, s_tup2, ↓iteN_true, ↓iteN_false, iteN_true, iteN_false, Nat.zero_add, List.nil_append, List.append_nil, Nat.reduceEqDiff, reduceIte, decide_true, decide_false, Bool.not_true, Bool.not_false, List.getElem?_cons_zero, List.getElem?_cons_succ, Bool.false_eq_true, if_true, if_false, beq_self_eq_true]
    exact rfl, ⟨i1, (by (simp only [s_getp, s_getp0, Nat.reduceEqDiff, decide_false, decide_true, iteN_false, iteN_true, t0]; try rfl)), (by (simp only [s_getp, s_getp0, Nat.reduceEqDiff, decide_false, decide_true, iteN_false, iteN_true, t2]; try rfl)), (by (simp only [s_getp, s_getp0, Nat.reduceEqDiff, decide_false, decide_true, iteN_false, iteN_true, t5]; try rfl)), (by (simp only [s_getp, s_getp0, Nat.reduceEqDiff, decide_false, decide_true, iteN_false, iteN_true, t6]; try rfl)), by rw [eA']; exact (by (simp only [s_getp, s_getp0, Nat.reduceEqDiff, decide_false, decide_true, iteN_false, iteN_true, t7]; try rfl)), by rw [ed']; exact (by (simp only [s_getp, s_getp0, Nat.reduceEqDiff, decide_false, decide_true, iteN_false, iteN_true, t8]; try rfl)), rfl⟩⟩
theorem SrcH.nn {h : H} {a : Option (Nat × Nat)} {e : Nat} {l : List Nat} (s : SrcH h a e l) (ha : a = none) : l = [] := by
  rcases s with s | ⟨bi, off, vs, m, e1, _⟩
  · exact s
  · rw [ha] at e1; cases e1
def fstR (E : Nat → Option Fn) (X : Orc) (N : Nat) (h : H) (v : V) (h' : H) : Option (Oq × Nat) → Prop
  | none => callX E X N (.fn k_ops_first) [v] h = some (.tup [.agg [.int .u8 0, .slice none 0 (some 0) 0], .int .i64 0, .bool false], h')
  | some (o, k) => ∃ a2 c2 e2, callX E X N (.fn k_ops_first) [v] h = some (.tup [.agg [.int .u8 (o.code : Int), .slice a2 o.l.length c2 e2], .int .i64 (k : Int), .bool true], h') ∧ Ow h' o.l a2 e2 ∧ ∀ q z, a2 = some (q, z) → h.next < q
theorem first_go (e : EnOp E) (x : NoOp X) (N : Nat) (b : List Nat) (bb : byt b = true) (hb : b ≠ []) (hl : b.length ≤ 1000000) (a : Option (Nat × Nat)) (h : H) (src : SrcH h a 1 b) :
    ∃ h', Kp h h' ∧ fstR E X (N + 10) h (.slice a b.length none 1) h' (fstV b) := by
  obtain ⟨cd, r, rfl⟩ : ∃ c r, b = c :: r := by
    cases b with
    | nil => exact absurd rfl hb
    | cons c r => exact ⟨c, r, rfl⟩
  have cl := byt_iff.1 bb cd (List.mem_cons_self ..)
  obtain ⟨bi, off, vs, md, rfl, _, h3, h4, h5, h6⟩ := src.resolve_left hb
  have cn2 := cnQ_le cd
  obtain ⟨hA, eA⟩ : ∃ hA, h.new (.cells [.int .u8 0, .slice none 0 (some 0) 0] .rw) = hA := ⟨_, rfl⟩
  have kA : Kp h hA := by rw [← eA]; exact Kp.new _ _
  have nA : hA.next = h.next + 1 := by rw [← eA]; rfl
  have gA : hA.get h.next = some (.cells [.int .u8 0, .slice none 0 (some 0) 0] .rw) := by rw [← eA]; exact h_new_same _ _
  have gv : hA.get bi = some (.cells vs md) := by rw [kA.2 _ h3, h4]
  have rc := fun h => counted_go e x (N + 8) cd h
  have ix0 : idx (0 : Int) (cd :: r).length = some 0 := by rw [List.length_cons]; rfl
  have cg0 : vs[off]? = some (.int .u8 (cd : Int)) := by
    have := src_at (h := h) (a := none) (bi := bi) h6 0 (by rw [List.length_cons]; omega)
    exact this
  have w1 : wr .i64 (1 + (cnQ cd : Int)) = ((1 + cnQ cd : Nat) : Int) := by rw [wr_i64 (by omega)]; omega
  have w0 : wr .i64 (((1 + cnQ cd : Nat) : Int) - 1) = (cnQ cd : Int) := by rw [wr_i64 (by omega)]; omega
  have fe := fst_cons cd r
  have kp0 : Kp h (hA.put h.next (.cells [.int .u8 0, .slice none 0 (some 0) 0] .rw)) := kA.put _ (Nat.le_refl _)
  by_cases c1 : r.length < cnQ cd
  · rw [if_pos c1] at fe
    rw [fe]
    refine ⟨hA.put h.next (.cells [.int .u8 0, .slice none 0 (some 0) 0] .rw), kp0, ?_⟩
    show callX E X (N + 10) _ _ _ = _
    rw [x_cfn e.fi _ _ (Nat.le_of_ble_eq_true rfl) (x.fi _ _)]
    have d1 : decide (((cd :: r).length : Int) < ((1 + cnQ cd : Nat) : Int)) = true := decide_eq_true (by rw [List.length_cons]; omega)
    generalize (cd :: r).length = n at *
    generalize cnQ cd = cn at *
    generalize 1 + cn = cn1 at *
    simp (config := {maxSteps := 2000000}) (disch := first | omega | (simp only [List.length_cons, List.length_nil, List.length_append, List.length_drop]; omega)) only [eA, gA, gv, rc, ix0, cg0, w1, w0, d1, st2, st2r, ↓x_build, x_aggO, x_P0, x_P1, ↓s_len, x_lenS, ↓b_xor32, ↓b_and32, ↓b_or32, ↓u_not32, b_xor32, b_and32, b_or32, u_not32, w32ad, ↓x_conv, x_convV, ↓x_fieldAddr, x_fieldV, ↓s_nilchk, x_nilchk, Nat.zero_add, Nat.add_zero, Nat.mul_one, ↓l_loop, ↓l_succ, ↓l_normal, l_normal, l_exit, l_ret, l_iteN, ↓h_put_get, ↓h_new_get, ↓h_del_get, h_next_put, h_next_new, h_next_del, Nat.add_assoc, Nat.add_eq_left, Nat.left_eq_add, Nat.add_left_cancel_iff, ↓s_load, m_load, ↓m_load1, m_load1, ↓m_st, m_stE, m_storeI, m_storeE, w_zero, w_succ, ↓s_alloc, ↓x_idxA, ↓x_idxS, x_idxAE, x_idxSE, x_addrE, x_idx, x_lenS, ↓s_len, ↓x_buildS, x_buildE, ↓x_P0, ↓x_P1, x_fill0, x_filli, x_fills, x_fillb, c_int, List.length_cons, List.length_nil, List.cons_append, List.drop_succ_cons, List.drop_zero, List.drop_nil, List.nil_append, Int.reduceAdd, Int.reduceToNat, Int.reduceLT, Int.reduceLE, Nat.reduceAdd, Nat.reduceMul, Nat.reduceLeDiff, Int.reduceEq, Int.reduceSub, Int.cast_ofNat_Int, s_resc, s_consR, m_load4, m_store4, s_res0, ↓s_skip, ↓s_ops, ↓s_dops, ↓s_seq, ↓s_cond, ↓s_block, ↓s_exit, ↓s_ret, ↓s_scope, ↓s_nil, ↓s_op, ↓s_opg, ↓s_wanted', ↓s_wantV, s_wantV, s_wantV0, beq_true, beq_false, ↓s_bindS, s_bindS, ↓s_bindE, s_bindE, s_bindE_ret, s_bindE_exit, s_bindE_iteN, s_norm, ↓s_condV, s_condV, s_block_ret, s_block_normal, s_block_exit, s_block_iteN, ↓s_getp, ↓s_getp0, ↓s_get, s_get0, ↓s_con, ↓s_fn, ↓s_os0, ↓s_os1, ↓s_list0, ↓s_list1, ↓s_mov, ↓s_pick, ↓s_pickE, s_pickE, ↓s_bin, ↓s_un, ↓s_minmax, ↓s_call, ↓s_callv, ↓s_callV, ↓s_ext, s_same, b_eql, b_neq, b_lss, b_leq, b_gtr, b_geq, b_add, b_sub, b_mul, b_eqlb, b_neqb, b_fnil, b_fnil', b_fnil2, b_fnil2', u_neg, u_not, m_two, s_end, s_end', s_end_iteN, s_res0, s_res1, s_tup1, s_tup2, ↓iteN_true, ↓iteN_false, iteN_true, iteN_false, Nat.zero_add, List.nil_append, List.append_nil, Nat.reduceEqDiff, reduceIte, decide_true, decide_false, Bool.not_true, Bool.not_false, List.getElem?_cons_zero, List.getElem?_cons_succ, Bool.false_eq_true, if_true, if_false, beq_self_eq_true]
    try rfl
  · rw [if_neg c1] at fe
    have d1 : decide (((cd :: r).length : Int) < ((1 + cnQ cd : Nat) : Int)) = false := decide_eq_false (by rw [List.length_cons]; omega)
    have fin : ∀ T, FI (.slice (some (bi, off)) (cd :: r).length none 1) h.next cd (cnQ cd) (cd :: r) hA 0 T hA → ∃ h', Kp h h' ∧ (match fstV (cd :: r) with
        | none => fnEnd [.cell 2 (some 2), .tmp 3, .tmp 4] (bindE (blockE 0 (loopN (evC (callX E X (N + 9)) 54 (N + 9) none L_ops_first_0) (N + 9) ⟨T, [], hA⟩)) (evC (callX E X (N + 9)) 54 (N + 9) none R_ops_first_0)) = some (.tup [.agg [.int .u8 0, .slice none 0 (some 0) 0], .int .i64 0, .bool false], h')
        | some (o, k) => ∃ a2 c2 e2, fnEnd [.cell 2 (some 2), .tmp 3, .tmp 4] (bindE (blockE 0 (loopN (evC (callX E X (N + 9)) 54 (N + 9) none L_ops_first_0) (N + 9) ⟨T, [], hA⟩)) (evC (callX E X (N + 9)) 54 (N + 9) none R_ops_first_0)) = some (.tup [.agg [.int .u8 (o.code : Int), .slice a2 o.l.length c2 e2], .int .i64 (k : Int), .bool true], h') ∧ Ow h' o.l a2 e2 ∧ ∀ q z, a2 = some (q, z) → h.next < q) := by
      intro T I
      obtain ⟨T', h', rr, J⟩ := loop_go (f := evC (callX E X (N + 9)) 54 (N + 9) none L_ops_first_0) (FI (.slice (some (bi, off)) (cd :: r).length none 1) h.next cd (cnQ cd) (cd :: r) hA) (cnQ cd) (.exit 0) (by intro h; cases h) (FI (.slice (some (bi, off)) (cd :: r).length none 1) h.next cd (cnQ cd) (cd :: r) hA (cnQ cd)) (fi_step _ _ h.next cd (cnQ cd) cn2 (cd :: r) bb (by rw [List.length_cons]; omega) bi off vs md hA gv h6) (fun T h' I => by
        obtain ⟨il, t0, t2, t5, t6, t7, t8, hh⟩ := I
        have e8 : ((cnQ cd - cnQ cd : Nat) : Int) = 0 := by omega
        rw [e8] at t8
        have c0 : decide ((0 : Int) < (0 : Int)) = false := rfl
        exact ⟨_, _, by
          simp (config := {maxSteps := 2000000}) (disch := first | omega | (simp only [List.length_cons, List.length_nil, List.length_append, List.length_drop]; omega)) only [L_ops_first_0, t8, c0, ↓b_xor32, ↓b_and32, ↓b_or32, ↓u_not32, b_xor32, b_and32, b_or32, u_not32, w32ad, ↓x_conv, x_convV, ↓x_fieldAddr, x_fieldV, ↓s_nilchk, x_nilchk, Nat.zero_add, Nat.add_zero, Nat.mul_one, ↓l_loop, ↓l_succ, ↓l_normal, l_normal, l_exit, l_ret, l_iteN, ↓h_put_get, ↓h_new_get, ↓h_del_get, h_next_put, h_next_new, h_next_del, Nat.add_assoc, Nat.add_eq_left, Nat.left_eq_add, Nat.add_left_cancel_iff, ↓s_load, m_load, ↓m_load1, m_load1, ↓m_st, m_stE, m_storeI, m_storeE, w_zero, w_succ, ↓s_alloc, ↓x_idxA, ↓x_idxS, x_idxAE, x_idxSE, x_addrE, x_idx, x_lenS, ↓s_len, ↓x_buildS, x_buildE, ↓x_P0, ↓x_P1, x_fill0, x_filli, x_fills, x_fillb, c_int, List.length_cons, List.length_nil, List.cons_append, List.drop_succ_cons, List.drop_zero, List.drop_nil, List.nil_append, Int.reduceAdd, Int.reduceToNat, Int.reduceLT, Int.reduceLE, Nat.reduceAdd, Nat.reduceMul, Nat.reduceLeDiff, Int.reduceEq, Int.reduceSub, Int.cast_ofNat_Int, s_resc, s_consR, m_load4, m_store4, s_res0, ↓s_skip, ↓s_ops, ↓s_dops, ↓s_seq, ↓s_cond, ↓s_block, ↓s_exit, ↓s_ret, ↓s_scope, ↓s_nil, ↓s_op, ↓s_opg, ↓s_wanted', ↓s_wantV, s_wantV, s_wantV0, beq_true, beq_false, ↓s_bindS, s_bindS, ↓s_bindE, s_bindE, s_bindE_ret, s_bindE_exit, s_bindE_iteN, s_norm, ↓s_condV, s_condV, s_block_ret, s_block_normal, s_block_exit, s_block_iteN, ↓s_getp, ↓s_getp0, ↓s_get, s_get0, ↓s_con, ↓s_fn, ↓s_os0, ↓s_os1, ↓s_list0, ↓s_list1, ↓s_mov, ↓s_pick, ↓s_pickE, s_pickE, ↓s_bin, ↓s_un, ↓s_minmax, ↓s_call, ↓s_callv, ↓s_callV, ↓s_ext, s_same, b_eql, b_neq, b_lss, b_leq, b_gtr, b_geq, b_add, b_sub, b_mul, b_eqlb, b_neqb, b_fnil, b_fnil', b_fnil2, b_fnil2', u_neg, u_not, m_two, s_end, s_end', s_end_iteN, s_res0, s_res1, s_tup1, s_tup2, ↓iteN_true, ↓iteN_false, iteN_true, iteN_false, Nat.zero_add, List.nil_append, List.append_nil, Nat.reduceEqDiff, reduceIte, decide_true, decide_false, Bool.not_true, Bool.not_false, List.getElem?_cons_zero, List.getElem?_cons_succ, Bool.false_eq_true, if_true, if_false, beq_self_eq_true]
          exact rfl, ⟨il, (by (simp only [s_getp, s_getp0, Nat.reduceEqDiff, decide_false, decide_true, iteN_false, iteN_true, t0]; try rfl)), (by (simp only [s_getp, s_getp0, Nat.reduceEqDiff, decide_false, decide_true, iteN_false, iteN_true, t2]; try rfl)), (by (simp only [s_getp, s_getp0, Nat.reduceEqDiff, decide_false, decide_true, iteN_false, iteN_true, t5]; try rfl)), (by (simp only [s_getp, s_getp0, Nat.reduceEqDiff, decide_false, decide_true, iteN_false, iteN_true, t6]; try rfl)), (by (simp only [s_getp, s_getp0, Nat.reduceEqDiff, decide_false, decide_true, iteN_false, iteN_true, t7]; try rfl)), by rw [e8]; exact (by (simp only [s_getp, s_getp0, Nat.reduceEqDiff, decide_false, decide_true, iteN_false, iteN_true, t8]; try rfl)), hh⟩⟩) (cnQ cd) 0 (by omega) (N + 9) (by omega) T hA I
      rw [rr]
      obtain ⟨_, t0, t2, t5, t6, t7, t8, rfl⟩ := J
      obtain ⟨V7, e7⟩ : ∃ v, (accQ (cd :: r) (cnQ cd) (cnQ cd)) = v := ⟨_, rfl⟩
      have t7' : (if cd ≤ 75 then cd else V7) = rdN cd r := by
        by_cases c5 : cd ≤ 75
        · rw [if_pos c5]; unfold rdN; rw [if_pos c5]
        · rw [if_neg c5, ← e7]; exact acc_rd cd r c5
      rw [e7] at t7
      have rdl : rdN cd r < 70000 := by
        have g0 := getD_byt (byt_tail bb) 0
        have g1 := getD_byt (byt_tail bb) 1
        unfold rdN
        split
        · omega
        · split
          · omega
          · split <;> omega
      have w2 : wr .i64 (((1 + cnQ cd : Nat) : Int) + (rdN cd r : Int)) = ((1 + cnQ cd + rdN cd r : Nat) : Int) := by rw [wr_i64 (by omega)]; omega
      have wc : wr .i64 (cd : Int) = (cd : Int) := wr_i64 (by omega)
      have hln : (cd :: r).length = r.length + 1 := rfl
      by_cases c2 : r.length < cnQ cd + rdN cd r
      · rw [if_pos c2] at fe
        rw [fe]
        refine ⟨h'.put h.next (.cells [.int .u8 0, .slice none 0 (some 0) 0] .rw), kp0, ?_⟩
        show fnEnd _ _ = _
        have d2 : decide (((cd :: r).length : Int) < ((1 + cnQ cd + rdN cd r : Nat) : Int)) = true := decide_eq_true (by rw [List.length_cons]; omega)
        generalize (cd :: r).length = n at *
        generalize 1 + cnQ cd + rdN cd r = sz at *
        generalize 1 + cnQ cd = cn1 at *
        generalize rdN cd r = rd at *
        by_cases c5 : cd ≤ 75
        · rw [if_pos c5] at t7'
          have d5 : decide ((cd : Int) ≤ 75) = true := decide_eq_true (by omega)
          rw [← t7'] at w2
          simp (config := {maxSteps := 2000000}) (disch := first | omega | (simp only [List.length_cons, List.length_nil, List.length_append, List.length_drop]; omega)) only [R_ops_first_0, t0, t2, t5, t6, t7, gA, d5, wc, w2, d2, st2, st2r, ↓x_build, x_aggO, x_P0, x_P1, ↓s_len, x_lenS, ↓b_xor32, ↓b_and32, ↓b_or32, ↓u_not32, b_xor32, b_and32, b_or32, u_not32, w32ad, ↓x_conv, x_convV, ↓x_fieldAddr, x_fieldV, ↓s_nilchk, x_nilchk, Nat.zero_add, Nat.add_zero, Nat.mul_one, ↓l_loop, ↓l_succ, ↓l_normal, l_normal, l_exit, l_ret, l_iteN, ↓h_put_get, ↓h_new_get, ↓h_del_get, h_next_put, h_next_new, h_next_del, Nat.add_assoc, Nat.add_eq_left, Nat.left_eq_add, Nat.add_left_cancel_iff, ↓s_load, m_load, ↓m_load1, m_load1, ↓m_st, m_stE, m_storeI, m_storeE, w_zero, w_succ, ↓s_alloc, ↓x_idxA, ↓x_idxS, x_idxAE, x_idxSE, x_addrE, x_idx, x_lenS, ↓s_len, ↓x_buildS, x_buildE, ↓x_P0, ↓x_P1, x_fill0, x_filli, x_fills, x_fillb, c_int, List.length_cons, List.length_nil, List.cons_append, List.drop_succ_cons, List.drop_zero, List.drop_nil, List.nil_append, Int.reduceAdd, Int.reduceToNat, Int.reduceLT, Int.reduceLE, Nat.reduceAdd, Nat.reduceMul, Nat.reduceLeDiff, Int.reduceEq, Int.reduceSub, Int.cast_ofNat_Int, s_resc, s_consR, m_load4, m_store4, s_res0, ↓s_skip, ↓s_ops, ↓s_dops, ↓s_seq, ↓s_cond, ↓s_block, ↓s_exit, ↓s_ret, ↓s_scope, ↓s_nil, ↓s_op, ↓s_opg, ↓s_wanted', ↓s_wantV, s_wantV, s_wantV0, beq_true, beq_false, ↓s_bindS, s_bindS, ↓s_bindE, s_bindE, s_bindE_ret, s_bindE_exit, s_bindE_iteN, s_norm, ↓s_condV, s_condV, s_block_ret, s_block_normal, s_block_exit, s_block_iteN, ↓s_getp, ↓s_getp0, ↓s_get, s_get0, ↓s_con, ↓s_fn, ↓s_os0, ↓s_os1, ↓s_list0, ↓s_list1, ↓s_mov, ↓s_pick, ↓s_pickE, s_pickE, ↓s_bin, ↓s_un, ↓s_minmax, ↓s_call, ↓s_callv, ↓s_callV, ↓s_ext, s_same, b_eql, b_neq, b_lss, b_leq, b_gtr, b_geq, b_add, b_sub, b_mul, b_eqlb, b_neqb, b_fnil, b_fnil', b_fnil2, b_fnil2', u_neg, u_not, m_two, s_end, s_end', s_end_iteN, s_res0, s_res1, s_tup1, s_tup2, ↓iteN_true, ↓iteN_false, iteN_true, iteN_false, Nat.zero_add, List.nil_append, List.append_nil, Nat.reduceEqDiff, reduceIte, decide_true, decide_false, Bool.not_true, Bool.not_false, List.getElem?_cons_zero, List.getElem?_cons_succ, Bool.false_eq_true, if_true, if_false, beq_self_eq_true]
          try rfl
        · rw [if_neg c5] at t7'
          have d5 : decide ((cd : Int) ≤ 75) = false := decide_eq_false (by omega)
          rw [← t7'] at w2
          simp (config := {maxSteps := 2000000}) (disch := first | omega | (simp only [List.length_cons, List.length_nil, List.length_append, List.length_drop]; omega)) only [R_ops_first_0, t0, t2, t5, t6, t7, gA, d5, wc, w2, d2, st2, st2r, ↓x_build, x_aggO, x_P0, x_P1, ↓s_len, x_lenS, ↓b_xor32, ↓b_and32, ↓b_or32, ↓u_not32, b_xor32, b_and32, b_or32, u_not32, w32ad, ↓x_conv, x_convV, ↓x_fieldAddr, x_fieldV, ↓s_nilchk, x_nilchk, Nat.zero_add, Nat.add_zero, Nat.mul_one, ↓l_loop, ↓l_succ, ↓l_normal, l_normal, l_exit, l_ret, l_iteN, ↓h_put_get, ↓h_new_get, ↓h_del_get, h_next_put, h_next_new, h_next_del, Nat.add_assoc, Nat.add_eq_left, Nat.left_eq_add, Nat.add_left_cancel_iff, ↓s_load, m_load, ↓m_load1, m_load1, ↓m_st, m_stE, m_storeI, m_storeE, w_zero, w_succ, ↓s_alloc, ↓x_idxA, ↓x_idxS, x_idxAE, x_idxSE, x_addrE, x_idx, x_lenS, ↓s_len, ↓x_buildS, x_buildE, ↓x_P0, ↓x_P1, x_fill0, x_filli, x_fills, x_fillb, c_int, List.length_cons, List.length_nil, List.cons_append, List.drop_succ_cons, List.drop_zero, List.drop_nil, List.nil_append, Int.reduceAdd, Int.reduceToNat, Int.reduceLT, Int.reduceLE, Nat.reduceAdd, Nat.reduceMul, Nat.reduceLeDiff, Int.reduceEq, Int.reduceSub, Int.cast_ofNat_Int, s_resc, s_consR, m_load4, m_store4, s_res0, ↓s_skip, ↓s_ops, ↓s_dops, ↓s_seq, ↓s_cond, ↓s_block, ↓s_exit, ↓s_ret, ↓s_scope, ↓s_nil, ↓s_op, ↓s_opg, ↓s_wanted', ↓s_wantV, s_wantV, s_wantV0, beq_true, beq_false, ↓s_bindS, s_bindS, ↓s_bindE, s_bindE, s_bindE_ret, s_bindE_exit, s_bindE_iteN, s_norm, ↓s_condV, s_condV, s_block_ret, s_block_normal, s_block_exit, s_block_iteN, ↓s_getp, ↓s_getp0, ↓s_get, s_get0, ↓s_con, ↓s_fn, ↓s_os0, ↓s_os1, ↓s_list0, ↓s_list1, ↓s_mov, ↓s_pick, ↓s_pickE, s_pickE, ↓s_bin, ↓s_un, ↓s_minmax, ↓s_call, ↓s_callv, ↓s_callV, ↓s_ext, s_same, b_eql, b_neq, b_lss, b_leq, b_gtr, b_geq, b_add, b_sub, b_mul, b_eqlb, b_neqb, b_fnil, b_fnil', b_fnil2, b_fnil2', u_neg, u_not, m_two, s_end, s_end', s_end_iteN, s_res0, s_res1, s_tup1, s_tup2, ↓iteN_true, ↓iteN_false, iteN_true, iteN_false, Nat.zero_add, List.nil_append, List.append_nil, Nat.reduceEqDiff, reduceIte, decide_true, decide_false, Bool.not_true, Bool.not_false, List.getElem?_cons_zero, List.getElem?_cons_succ, Bool.false_eq_true, if_true, if_false, beq_self_eq_true]
          try rfl
      · rw [if_neg c2] at fe
        rw [fe]
        have d2 : decide (((cd :: r).length : Int) < ((1 + cnQ cd + rdN cd r : Nat) : Int)) = false := decide_eq_false (by rw [List.length_cons]; omega)
        have sv : slcV 1 (some (.int .i64 ((1 + cnQ cd : Nat) : Int))) (some (.int .i64 ((1 + cnQ cd + rdN cd r : Nat) : Int))) none (.slice (some (bi, off)) (cd :: r).length none 1) = some (.slice (upA (some (bi, off)) (1 + cnQ cd)) (1 + cnQ cd + rdN cd r - (1 + cnQ cd)) none 1) := slcV_lhA _ _ _ _ _ _ (by rw [List.length_cons]; omega) (by omega)
        have ed : ((cd :: r).drop (1 + cnQ cd)).take (rdN cd r) = (r.drop (cnQ cd)).take (rdN cd r) := by rw [Nat.add_comm 1, List.drop_succ_cons]
        have s2 := (((src.mono kA).drop (1 + cnQ cd)).take (rdN cd r))
        rw [ed] at s2
        have ll : ((r.drop (cnQ cd)).take (rdN cd r)).length = rdN cd r := by rw [List.length_take, List.length_drop]; omega
        obtain ⟨h2, a2, c2', e2, r2, k2, sr2, ge2⟩ := cloneO_go e x (N + 8) ((r.drop (cnQ cd)).take (rdN cd r)) (by rw [ll]; omega) _ none 1 h' s2 (fun hn => s2.nn hn)
        rw [Nat.add_sub_cancel_left] at sv
        rw [ll] at r2
        obtain ⟨h4', e4⟩ : ∃ h4, h2.put h.next (.cells [.int .u8 (cd : Int), .slice a2 (rdN cd r) c2' e2] .rw) = h4 := ⟨_, rfl⟩
        have g2 : h2.get h.next = some (.cells [.int .u8 0, .slice none 0 (some 0) 0] .rw) := by rw [k2.2 _ (by omega), gA]
        have gz : ∀ q z, a2 = some (q, z) → h.next < q := fun q z eq => by have := ge2 q z eq; omega
        refine ⟨h4', by rw [← e4]; exact (kA.trans k2).put _ (Nat.le_refl _), a2, c2', e2, ?_, ?_, gz⟩
        · simp only
          rw [ll]
          generalize (cd :: r).length = n at *
          generalize 1 + cnQ cd + rdN cd r = sz at *
          generalize 1 + cnQ cd = cn1 at *
          generalize rdN cd r = rd at *
          generalize upA (some (bi, off)) cn1 = ua at *
          by_cases c5 : cd ≤ 75
          · rw [if_pos c5] at t7'
            have d5 : decide ((cd : Int) ≤ 75) = true := decide_eq_true (by omega)
            rw [← t7'] at w2 r2 e4 sv ⊢
            have g4 := h_put_same h2 h.next (.cells [.int .u8 (cd : Int), .slice a2 (cd) c2' e2] .rw)
            rw [e4] at g4
            simp (config := {maxSteps := 2000000}) (disch := first | omega | (simp only [List.length_cons, List.length_nil, List.length_append, List.length_drop]; omega)) only [R_ops_first_0, t0, t2, t5, t6, t7, gA, g2, g4, d5, wc, w2, d2, sv, r2, e4, ↓x_slcS, x_M1, x_M0, st2, st2r, ↓x_build, x_aggO, x_P0, x_P1, ↓s_len, x_lenS, ↓b_xor32, ↓b_and32, ↓b_or32, ↓u_not32, b_xor32, b_and32, b_or32, u_not32, w32ad, ↓x_conv, x_convV, ↓x_fieldAddr, x_fieldV, ↓s_nilchk, x_nilchk, Nat.zero_add, Nat.add_zero, Nat.mul_one, ↓l_loop, ↓l_succ, ↓l_normal, l_normal, l_exit, l_ret, l_iteN, ↓h_put_get, ↓h_new_get, ↓h_del_get, h_next_put, h_next_new, h_next_del, Nat.add_assoc, Nat.add_eq_left, Nat.left_eq_add, Nat.add_left_cancel_iff, ↓s_load, m_load, ↓m_load1, m_load1, ↓m_st, m_stE, m_storeI, m_storeE, w_zero, w_succ, ↓s_alloc, ↓x_idxA, ↓x_idxS, x_idxAE, x_idxSE, x_addrE, x_idx, x_lenS, ↓s_len, ↓x_buildS, x_buildE, ↓x_P0, ↓x_P1, x_fill0, x_filli, x_fills, x_fillb, c_int, List.length_cons, List.length_nil, List.cons_append, List.drop_succ_cons, List.drop_zero, List.drop_nil, List.nil_append, Int.reduceAdd, Int.reduceToNat, Int.reduceLT, Int.reduceLE, Nat.reduceAdd, Nat.reduceMul, Nat.reduceLeDiff, Int.reduceEq, Int.reduceSub, Int.cast_ofNat_Int, s_resc, s_consR, m_load4, m_store4, s_res0, ↓s_skip, ↓s_ops, ↓s_dops, ↓s_seq, ↓s_cond, ↓s_block, ↓s_exit, ↓s_ret, ↓s_scope, ↓s_nil, ↓s_op, ↓s_opg, ↓s_wanted', ↓s_wantV, s_wantV, s_wantV0, beq_true, beq_false, ↓s_bindS, s_bindS, ↓s_bindE, s_bindE, s_bindE_ret, s_bindE_exit, s_bindE_iteN, s_norm, ↓s_condV, s_condV, s_block_ret, s_block_normal, s_block_exit, s_block_iteN, ↓s_getp, ↓s_getp0, ↓s_get, s_get0, ↓s_con, ↓s_fn, ↓s_os0, ↓s_os1, ↓s_list0, ↓s_list1, ↓s_mov, ↓s_pick, ↓s_pickE, s_pickE, ↓s_bin, ↓s_un, ↓s_minmax, ↓s_call, ↓s_callv, ↓s_callV, ↓s_ext, s_same, b_eql, b_neq, b_lss, b_leq, b_gtr, b_geq, b_add, b_sub, b_mul, b_eqlb, b_neqb, b_fnil, b_fnil', b_fnil2, b_fnil2', u_neg, u_not, m_two, s_end, s_end', s_end_iteN, s_res0, s_res1, s_tup1, s_tup2, ↓iteN_true, ↓iteN_false, iteN_true, iteN_false, Nat.zero_add, List.nil_append, List.append_nil, Nat.reduceEqDiff, reduceIte, decide_true, decide_false, Bool.not_true, Bool.not_false, List.getElem?_cons_zero, List.getElem?_cons_succ, Bool.false_eq_true, if_true, if_false, beq_self_eq_true]
            try rfl

          · rw [if_neg c5] at t7'
            have d5 : decide ((cd : Int) ≤ 75) = false := decide_eq_false (by omega)
            rw [← t7'] at w2 r2 e4 sv ⊢
            have g4 := h_put_same h2 h.next (.cells [.int .u8 (cd : Int), .slice a2 (V7) c2' e2] .rw)
            rw [e4] at g4
            simp (config := {maxSteps := 2000000}) (disch := first | omega | (simp only [List.length_cons, List.length_nil, List.length_append, List.length_drop]; omega)) only [R_ops_first_0, t0, t2, t5, t6, t7, gA, g2, g4, d5, wc, w2, d2, sv, r2, e4, ↓x_slcS, x_M1, x_M0, st2, st2r, ↓x_build, x_aggO, x_P0, x_P1, ↓s_len, x_lenS, ↓b_xor32, ↓b_and32, ↓b_or32, ↓u_not32, b_xor32, b_and32, b_or32, u_not32, w32ad, ↓x_conv, x_convV, ↓x_fieldAddr, x_fieldV, ↓s_nilchk, x_nilchk, Nat.zero_add, Nat.add_zero, Nat.mul_one, ↓l_loop, ↓l_succ, ↓l_normal, l_normal, l_exit, l_ret, l_iteN, ↓h_put_get, ↓h_new_get, ↓h_del_get, h_next_put, h_next_new, h_next_del, Nat.add_assoc, Nat.add_eq_left, Nat.left_eq_add, Nat.add_left_cancel_iff, ↓s_load, m_load, ↓m_load1, m_load1, ↓m_st, m_stE, m_storeI, m_storeE, w_zero, w_succ, ↓s_alloc, ↓x_idxA, ↓x_idxS, x_idxAE, x_idxSE, x_addrE, x_idx, x_lenS, ↓s_len, ↓x_buildS, x_buildE, ↓x_P0, ↓x_P1, x_fill0, x_filli, x_fills, x_fillb, c_int, List.length_cons, List.length_nil, List.cons_append, List.drop_succ_cons, List.drop_zero, List.drop_nil, List.nil_append, Int.reduceAdd, Int.reduceToNat, Int.reduceLT, Int.reduceLE, Nat.reduceAdd, Nat.reduceMul, Nat.reduceLeDiff, Int.reduceEq, Int.reduceSub, Int.cast_ofNat_Int, s_resc, s_consR, m_load4, m_store4, s_res0, ↓s_skip, ↓s_ops, ↓s_dops, ↓s_seq, ↓s_cond, ↓s_block, ↓s_exit, ↓s_ret, ↓s_scope, ↓s_nil, ↓s_op, ↓s_opg, ↓s_wanted', ↓s_wantV, s_wantV, s_wantV0, beq_true, beq_false, ↓s_bindS, s_bindS, ↓s_bindE, s_bindE, s_bindE_ret, s_bindE_exit, s_bindE_iteN, s_norm, ↓s_condV, s_condV, s_block_ret, s_block_normal, s_block_exit, s_block_iteN, ↓s_getp, ↓s_getp0, ↓s_get, s_get0, ↓s_con, ↓s_fn, ↓s_os0, ↓s_os1, ↓s_list0, ↓s_list1, ↓s_mov, ↓s_pick, ↓s_pickE, s_pickE, ↓s_bin, ↓s_un, ↓s_minmax, ↓s_call, ↓s_callv, ↓s_callV, ↓s_ext, s_same, b_eql, b_neq, b_lss, b_leq, b_gtr, b_geq, b_add, b_sub, b_mul, b_eqlb, b_neqb, b_fnil, b_fnil', b_fnil2, b_fnil2', u_neg, u_not, m_two, s_end, s_end', s_end_iteN, s_res0, s_res1, s_tup1, s_tup2, ↓iteN_true, ↓iteN_false, iteN_true, iteN_false, Nat.zero_add, List.nil_append, List.append_nil, Nat.reduceEqDiff, reduceIte, decide_true, decide_false, Bool.not_true, Bool.not_false, List.getElem?_cons_zero, List.getElem?_cons_succ, Bool.false_eq_true, if_true, if_false, beq_self_eq_true]
            try rfl

        · simp only
          rcases sr2 with s | ⟨q', m', f1, f2, f3, f4, f5⟩
          · exact .inl s
          · exact .inr ⟨q', m', f1, f2, by rw [← e4, h_put_ne _ _ (by have := gz _ _ f1; omega), f3], f4, by rw [← e4]; exact f5⟩
    obtain ⟨R, eR⟩ : ∃ R, R_ops_first_0 = R := ⟨_, rfl⟩
    obtain ⟨Lo, eL⟩ : ∃ R, L_ops_first_0 = R := ⟨_, rfl⟩
    rw [eR, eL] at fin
    obtain ⟨T, I, ec⟩ : ∃ T, FI (.slice (some (bi, off)) (cd :: r).length none 1) h.next cd (cnQ cd) (cd :: r) hA 0 T hA ∧ callX E X (N + 10) (.fn k_ops_first) [.slice (some (bi, off)) (cd :: r).length none 1] h = fnEnd [.cell 2 (some 2), .tmp 3, .tmp 4] (bindE (blockE 0 (loopN (evC (callX E X (N + 9)) 54 (N + 9) none Lo) (N + 9) ⟨T, [], hA⟩)) (evC (callX E X (N + 9)) 54 (N + 9) none R)) := by
      rw [x_cfn e.fi _ _ (Nat.le_of_ble_eq_true rfl) (x.fi _ _)]
      obtain ⟨cn1, ecn⟩ : ∃ n, 1 + cnQ cd = n := ⟨_, rfl⟩
      obtain ⟨n, en⟩ : ∃ n, (cd :: r).length = n := ⟨_, rfl⟩
      rw [ecn] at w1 w0 d1
      rw [en] at ix0 d1
      rw [en, eL.symm, eR.symm]
      refine ⟨_, ?_, by
        rw [eL, eR]
        simp (config := {maxSteps := 2000000}) (disch := first | omega | (simp only [List.length_cons, List.length_nil, List.length_append, List.length_drop]; omega)) only [eA, gA, gv, rc, ix0, cg0, w1, w0, d1, st2, st2r, ↓x_build, x_aggO, x_P0, x_P1, ↓s_len, x_lenS, ↓b_xor32, ↓b_and32, ↓b_or32, ↓u_not32, b_xor32, b_and32, b_or32, u_not32, w32ad, ↓x_conv, x_convV, ↓x_fieldAddr, x_fieldV, ↓s_nilchk, x_nilchk, Nat.zero_add, Nat.add_zero, Nat.mul_one, ↓l_loop, ↓l_succ, ↓l_normal, l_normal, l_exit, l_ret, l_iteN, ↓h_put_get, ↓h_new_get, ↓h_del_get, h_next_put, h_next_new, h_next_del, Nat.add_assoc, Nat.add_eq_left, Nat.left_eq_add, Nat.add_left_cancel_iff, ↓s_load, m_load, ↓m_load1, m_load1, ↓m_st, m_stE, m_storeI, m_storeE, w_zero, w_succ, ↓s_alloc, ↓x_idxA, ↓x_idxS, x_idxAE, x_idxSE, x_addrE, x_idx, x_lenS, ↓s_len, ↓x_buildS, x_buildE, ↓x_P0, ↓x_P1, x_fill0, x_filli, x_fills, x_fillb, c_int, List.length_cons, List.length_nil, List.cons_append, List.drop_succ_cons, List.drop_zero, List.drop_nil, List.nil_append, Int.reduceAdd, Int.reduceToNat, Int.reduceLT, Int.reduceLE, Nat.reduceAdd, Nat.reduceMul, Nat.reduceLeDiff, Int.reduceEq, Int.reduceSub, Int.cast_ofNat_Int, s_resc, s_consR, m_load4, m_store4, s_res0, ↓s_skip, ↓s_ops, ↓s_dops, ↓s_seq, ↓s_cond, ↓s_block, ↓s_exit, ↓s_ret, ↓s_scope, ↓s_nil, ↓s_op, ↓s_opg, ↓s_wanted', ↓s_wantV, s_wantV, s_wantV0, beq_true, beq_false, ↓s_bindS, s_bindS, ↓s_bindE, s_bindE, s_bindE_ret, s_bindE_exit, s_bindE_iteN, s_norm, ↓s_condV, s_condV, s_block_ret, s_block_normal, s_block_exit, s_block_iteN, ↓s_getp, ↓s_getp0, ↓s_get, s_get0, ↓s_con, ↓s_fn, ↓s_os0, ↓s_os1, ↓s_list0, ↓s_list1, ↓s_mov, ↓s_pick, ↓s_pickE, s_pickE, ↓s_bin, ↓s_un, ↓s_minmax, ↓s_call, ↓s_callv, ↓s_callV, ↓s_ext, s_same, b_eql, b_neq, b_lss, b_leq, b_gtr, b_geq, b_add, b_sub, b_mul, b_eqlb, b_neqb, b_fnil, b_fnil', b_fnil2, b_fnil2', u_neg, u_not, m_two, s_end, s_end', s_end_iteN, s_res0, s_res1, s_tup1, s_tup2, ↓iteN_true, ↓iteN_false, iteN_true, iteN_false, Nat.zero_add, List.nil_append, List.append_nil, Nat.reduceEqDiff, reduceIte, decide_true, decide_false, Bool.not_true, Bool.not_false, List.getElem?_cons_zero, List.getElem?_cons_succ, Bool.false_eq_true, if_true, if_false, beq_self_eq_true]
        exact rfl⟩
      exact ⟨by omega, (by (simp only [s_getp, s_getp0, Nat.reduceEqDiff, decide_false, decide_true, iteN_false, iteN_true, eL]; try rfl)), (by (simp only [s_getp, s_getp0, Nat.reduceEqDiff, decide_false, decide_true, iteN_false, iteN_true, eL]; try rfl)), (by (simp only [s_getp, s_getp0, Nat.reduceEqDiff, decide_false, decide_true, iteN_false, iteN_true, eL]; try rfl)), by rw [ecn]; exact (by (simp only [s_getp, s_getp0, Nat.reduceEqDiff, decide_false, decide_true, iteN_false, iteN_true, eL]; try rfl)), (by (simp only [s_getp, s_getp0, Nat.reduceEqDiff, decide_false, decide_true, iteN_false, iteN_true, eL]; try rfl)), by rw [Nat.sub_zero]; exact (by (simp only [s_getp, s_getp0, Nat.reduceEqDiff, decide_false, decide_true, iteN_false, iteN_true, eL]; try rfl)), rfl⟩
    obtain ⟨h', k', f'⟩ := fin T I
    refine ⟨h', k', ?_⟩
    cases hf : fstV (cd :: r) with
    | none => rw [hf] at f'; exact ec.trans f'
    | some z =>
      obtain ⟨o, k⟩ := z
      rw [hf] at f'
      obtain ⟨a2, c2, e2, f1, f2, f3⟩ := f'
      exact ⟨a2, c2, e2, ec.trans f1, f2, f3⟩
end Go.Eng
namespace Go.Eng
open Go
variable {E : Nat → Option Fn} {X : Orc}
set_option linter.unusedSimpArgs false
set_option linter.unusedVariables false
/-- an operation's cells: its data lie in blocks from lo on, and not in q -/
def OqF (lo q : Nat) (h : H) (o : Oq) (p : List V) : Prop := ∃ a c e, p = [.int .u8 (o.code : Int), .slice a o.l.length c e] ∧ Ow h o.l a e ∧ (o.l ≠ [] → ∀ b z, a = some (b, z) → lo ≤ b ∧ b ≠ q)
theorem OqF.mono {lo q : Nat} {h h' : H} {o : Oq} {p : List V} (x : OqF lo q h o p) (hn : h.next ≤ h'.next) (k : ∀ i, lo ≤ i → i < h.next → i ≠ q → h'.get i = h.get i) : OqF lo q h' o p := by
  obtain ⟨a, c, e, rfl, s, d⟩ := x
  refine ⟨a, c, e, rfl, ?_, d⟩
  by_cases hl : o.l = []
  · exact .inl hl
  · rcases s with s | ⟨bi, m, h1, h2, h4, h5, h3⟩
    · exact .inl s
    · obtain ⟨d1, d2⟩ := d hl bi 0 h1
      exact .inr ⟨bi, m, h1, h2, by rw [k _ d1 h3 d2, h4], h5, Nat.lt_of_lt_of_le h3 hn⟩
/-- a row of operations that is nobody else's -/
def RowF (lo : Nat) (h : H) (dn : List Oq) (a : Option (Nat × Nat)) (c : Option Nat) (e : Nat) : Prop := (dn = [] ∧ a = none ∧ c = some 0 ∧ e = 0) ∨ (0 < dn.length ∧ ∃ q md parts, a = some (q, 0) ∧ c = none ∧ e = 2 ∧ h.get q = some (.cells parts.flatten md) ∧ Al2 (OqF lo q h) dn parts ∧ isRo md = false ∧ q < h.next ∧ lo ≤ q)
theorem RowF.mono {lo : Nat} {h h' : H} {dn : List Oq} {a : Option (Nat × Nat)} {c : Option Nat} {e : Nat} (r : RowF lo h dn a c e) (hn : h.next ≤ h'.next) (k : ∀ i, lo ≤ i → i < h.next → h'.get i = h.get i) : RowF lo h' dn a c e := by
  rcases r with r | ⟨h1, q, md, ps, e1, e2, e3, g, al, hm, hq, hl⟩
  · exact .inl r
  · exact .inr ⟨h1, q, md, ps, e1, e2, e3, by rw [k _ hl hq, g], al.imp (fun _ _ x => x.mono hn (fun i h1 h2 _ => k i h1 h2)), hm, Nat.lt_of_lt_of_le hq hn, hl⟩
theorem RowF.kp {lo : Nat} {h h' : H} {dn : List Oq} {a : Option (Nat × Nat)} {c : Option Nat} {e : Nat} (r : RowF lo h dn a c e) (k : Kp h h') : RowF lo h' dn a c e := r.mono k.1 (fun i _ hi => k.2 i hi)
theorem RowF.lt {lo : Nat} {h : H} {dn : List Oq} {a : Option (Nat × Nat)} {c : Option Nat} {e : Nat} (r : RowF lo h dn a c e) {q z : Nat} (ea : a = some (q, z)) : lo ≤ q ∧ q < h.next := by
  rcases r with ⟨_, h1, _⟩ | ⟨_, q', _, _, h1, _, _, _, _, _, hq, hl⟩
  · rw [h1] at ea; cases ea
  · rw [h1] at ea; cases ea; exact ⟨hl, hq⟩
theorem al_len2 {lo q : Nat} {h : H} {ops : List Oq} {parts : List (List V)} (al : Al2 (OqF lo q h) ops parts) : ∀ p ∈ parts, p.length = 2 := by
  induction al with
  | nil => intro p hp; cases hp
  | cons h1 _ ih => intro p hp; rcases List.mem_cons.1 hp with rfl | hp
                    · obtain ⟨a, c, e, rfl, _⟩ := h1; rfl
                    · exact ih p hp
theorem Al2.snoc {α β : Type} {p : α → β → Prop} {as : List α} {bs : List β} (h : Al2 p as bs) {a : α} {b : β} (x : p a b) : Al2 p (as ++ [a]) (bs ++ [b]) := by
  induction h with
  | nil => exact .cons x .nil
  | cons h1 _ ih => exact .cons h1 ih
theorem src_q (h : H) (k : IntKind) (x : Int) (a : Option (Nat × Nat)) (n : Nat) (c : Option Nat) (e : Nat) : srcCells (h.new (.cells [.int k x, .slice a n c e] .rw)) 2 (.slice (some (h.next, 0)) 1 (some 1) 2) = some (1, [.int k x, .slice a n c e]) := by
  rw [m_src, h_new_same]; rfl
theorem ap_row (lo : Nat) (h : H) (hlo : lo ≤ h.next) (dn : List Oq) (hd : dn.length ≤ 1000000) (a : Option (Nat × Nat)) (c : Option Nat) (e : Nat) (r : RowF lo h dn a c e) (o : Oq) (b : Option (Nat × Nat)) (cb : Option Nat) (eb : Nat) (hs : Ow h o.l b eb) (hb : o.l ≠ [] → ∀ q z, b = some (q, z) → lo ≤ q ∧ a ≠ some (q, 0)) :
    ∃ h', appendC h 2 32 (.slice a dn.length c e) (some (1, [.int .u8 (o.code : Int), .slice b o.l.length cb eb])) = some (.slice (some (h.next, 0)) (dn.length + 1) none 2, h') ∧ RowF lo h' (dn ++ [o]) (some (h.next, 0)) none 2 ∧ h'.next = h.next + 1 ∧ ∀ i, i < h.next → a ≠ some (i, 0) → h'.get i = h.get i := by
  obtain ⟨P, eP⟩ : ∃ P : List V, [.int .u8 (o.code : Int), .slice b o.l.length cb eb] = P := ⟨_, rfl⟩
  have pl : P.all plainV = true := by rw [← eP]; rfl
  have lP : P.length = 2 := by rw [← eP]; rfl
  have hbn : o.l ≠ [] → ∀ q z, b = some (q, z) → q < h.next := fun hl q z eq => by
    rcases hs with s | ⟨bi, m, h1, h2, _, _, h3⟩
    · exact absurd s hl
    · rw [h1] at eq; cases eq; exact h3
  rw [eP]
  rcases r with ⟨rfl, rfl, rfl, rfl⟩ | ⟨h1, q, md, ps, rfl, rfl, rfl, g, al, hm, hq, hl⟩
  · have k : Kp h (h.new (.cells P .rw)) := Kp.new _ _
    refine ⟨h.new (.cells P .rw), ?_, .inr ⟨by simp, h.next, .rw, [P], rfl, rfl, rfl, by rw [h_new_same]; simp, .cons ⟨b, cb, eb, eP.symm, hs.kp k, fun hl q z eq => ⟨(hb hl q z eq).1, by have := hbn hl q z eq; omega⟩⟩ .nil, rfl, Nat.lt_succ_self _, hlo⟩, rfl, fun i hi _ => h_new_ne _ _ (by omega)⟩
    unfold appendC
    simp only [List.length_nil]
    rw [pl]; rfl
  · have lp : ps.flatten.length = dn.length * 2 := by rw [flat_len (k := 2) (al_len2 al), al.len]
    have nx : ((h.del q).new (.cells (ps.flatten ++ P) .sh)).next = h.next + 1 := by simp only [h_next_new, h_next_del]
    have fr : ∀ i, i < h.next → i ≠ q → ((h.del q).new (.cells (ps.flatten ++ P) .sh)).get i = h.get i := fun i hi hne => by
      rw [h_new_ne _ _ (by rw [h_next_del]; omega), h_del_ne _ (fun e => hne e.symm)]
    have al2 : Al2 (OqF lo h.next ((h.del q).new (.cells (ps.flatten ++ P) .sh))) (dn ++ [o]) (ps ++ [P]) := by
      have one : OqF lo h.next ((h.del q).new (.cells (ps.flatten ++ P) .sh)) o P := by
        refine ⟨b, cb, eb, eP.symm, ?_, fun hl q z eq => ⟨(hb hl q z eq).1, by have := hbn hl q z eq; omega⟩⟩
        by_cases ol : o.l = []
        · exact .inl ol
        · rcases hs with s | ⟨bi, m, f1, f2, f4, f5, f3⟩
          · exact .inl s
          · exact .inr ⟨bi, m, f1, f2, by rw [fr _ f3 (fun e => (hb ol bi 0 f1).2 (by rw [e])), f4], f5, by rw [nx]; omega⟩
      have al3 : Al2 (OqF lo h.next ((h.del q).new (.cells (ps.flatten ++ P) .sh))) dn ps := al.imp (fun o' p' y => by
        obtain ⟨a', c', e', ep, s, d⟩ := y
        refine ⟨a', c', e', ep, ?_, fun hl b' z eq => ⟨(d hl b' z eq).1, ?_⟩⟩
        · by_cases ol : o'.l = []
          · exact .inl ol
          · rcases s with s | ⟨bi, m, f1, f2, f4, f5, f3⟩
            · exact .inl s
            · exact .inr ⟨bi, m, f1, f2, by rw [fr _ f3 (d ol bi 0 f1).2, f4], f5, by rw [nx]; omega⟩
        · rcases s with s | ⟨bi, m, f1, f2, f4, f5, f3⟩
          · exact absurd s hl
          · rw [f1] at eq; cases eq; omega)
      exact al3.snoc one
    refine ⟨(h.del q).new (.cells (ps.flatten ++ P) .sh), ?_, .inr ⟨by simp, h.next, .sh, ps ++ [P], rfl, rfl, rfl, by rw [h_new_same' _ _ (by rw [h_next_del])]; simp, al2, rfl, by rw [nx]; omega, hlo⟩, nx, fun i hi hne => fr i hi (fun e => hne (by rw [e]))⟩
    unfold appendC
    simp only
    have r : (roomy (dn.length + 1) 32 && (Nat.beq 2 2 || (some (q, 0) : Option (Nat × Nat)).isNone) && P.all plainV) = true := by
      rw [pl]; have : roomy (dn.length + 1) 32 = true := by simp [roomy]; omega
      rw [this]; rfl
    have f : fullC none (dn.length + 1) = false := rfl
    have rd := readN_of ps.flatten 0 (dn.length * 2) (by omega)
    rw [List.drop_zero, List.take_of_length_le (by omega)] at rd
    rw [r]
    simp only [_root_.cond_true, g, f]
    cases md with
    | ro => cases hm
    | rw => simp only [rd]
    | sh => simp only [rd]
theorem ld2 (u v : V) (m : Md) : loadE (some (.cells [u, v] m)) (some 2) 0 = some (.agg [u, v]) := rfl
theorem fl2 (y z u v : V) : fillV [y, z] [(0, 2, .agg [u, v])] = some [u, v] := rfl
/-- an operation that is told to Split -/
theorem sy_go (x : NoOp X) (M L p4 p5 D lo : Nat) (T0 : Tr V) (t4 : evO T0 (.t 4) = .ptr (some (p4, 0))) (t5 : evO T0 (.t 5) = .ptr (some (p5, 0))) (hp4 : p4 < lo) (hp5 : p5 < lo) (hL : L < lo) (z45 : p4 ≠ p5) (zL4 : L ≠ p4) (zL5 : L ≠ p5) (h : H) (hlo : lo ≤ h.next) (dn : List Oq) (hd : dn.length ≤ 1000000) (a : Option (Nat × Nat)) (c : Option Nat) (ez : Nat) (n0 : Int)
    (g4 : h.get p4 = some (.cells [.slice a dn.length c ez] .rw)) (g5 : h.get p5 = some (.cells [.int .i64 n0] .rw)) (gL : h.get L = some (.loop 0 none 22 T0 [10, 11] A_ops_Split_0 B_ops_Split_0 D)) (row : RowF lo h dn a c ez)
    (o : Oq) (b : Option (Nat × Nat)) (cb : Option Nat) (eb : Nat) (hs : Ow h o.l b eb) (hb : o.l ≠ [] → ∀ q z, b = some (q, z) → lo ≤ q ∧ a ≠ some (q, 0)) (at' : Nat) :
    ∃ h' a' c' e', callX E X (M + 1) (.yld L) [.int .i64 (at' : Int), .agg [.int .u8 (o.code : Int), .slice b o.l.length cb eb]] h = some (.bool true, h') ∧ h.next ≤ h'.next ∧ h'.get p4 = some (.cells [.slice a' (dn.length + 1) c' e'] .rw) ∧ h'.get p5 = some (.cells [.int .i64 (at' : Int)] .rw) ∧ h'.get L = some (.loop 0 none 22 T0 [10, 11] A_ops_Split_0 B_ops_Split_0 D) ∧ RowF lo h' (dn ++ [o]) a' c' e' ∧ ∀ i, i < lo → i ≠ p4 → i ≠ p5 → i ≠ L → h'.get i = h.get i := by
  have yx : callX E X (M + 1) (.yld L) [.int .i64 (at' : Int), .agg [.int .u8 (o.code : Int), .slice b o.l.length cb eb]] h = cYld (callX E X M) M L [.int .i64 (at' : Int), .agg [.int .u8 (o.code : Int), .slice b o.l.length cb eb]] h := x_yld (x.yld _ _ _)
  rw [yx]
  have y4 : (L = p4) = False := by simp; omega
  have y4' : (p4 = L) = False := by simp; omega
  have y5 : (L = p5) = False := by simp; omega
  have y5' : (p5 = L) = False := by simp; omega
  obtain ⟨hA, eA⟩ : ∃ hA, (h.new (.cells [.int .u8 0, .slice none 0 (some 0) 0] .rw)).put h.next (.cells [.int .u8 (o.code : Int), .slice b o.l.length cb eb] .rw) = hA := ⟨_, rfl⟩
  have nA : hA.next = h.next + 1 := by rw [← eA]; rfl
  have kA : Kp h hA := by rw [← eA]; (repeat (first | exact Kp.refl _ | refine Kp.put ?_ _ (by first | omega | (simp only [h_next_put, h_next_new, h_next_del]; omega)) | refine Kp.del ?_ (by first | omega | (simp only [h_next_put, h_next_new, h_next_del]; omega)) | refine Kp.trans ?_ (Kp.new _ _)))
  have gA : hA.get h.next = some (.cells [.int .u8 (o.code : Int), .slice b o.l.length cb eb] .rw) := by rw [← eA]; exact h_put_same _ _ _
  have gAL : hA.get L = some (.loop 0 none 22 T0 [10, 11] A_ops_Split_0 B_ops_Split_0 D) := by rw [kA.2 _ (by omega), gL]
  obtain ⟨hB, eB⟩ : ∃ hB, hA.put L (.loop 1 none 22 T0 [10, 11] A_ops_Split_0 B_ops_Split_0 D) = hB := ⟨_, rfl⟩
  have nB : hB.next = h.next + 1 := by rw [← eB]; exact nA
  have fB : ∀ i, i < h.next → i ≠ L → hB.get i = h.get i := fun i hi hne => by rw [← eB, h_put_ne _ _ (Ne.symm hne), kA.2 _ hi]
  have gB : hB.get h.next = some (.cells [.int .u8 (o.code : Int), .slice b o.l.length cb eb] .rw) := by rw [← eB, h_put_ne _ _ (by omega), gA]
  have gBL : hB.get L = some (.loop 1 none 22 T0 [10, 11] A_ops_Split_0 B_ops_Split_0 D) := by rw [← eB]; exact h_put_same _ _ _
  have gB4 : hB.get p4 = some (.cells [.slice a dn.length c ez] .rw) := by rw [fB _ (by omega) (Ne.symm zL4), g4]
  obtain ⟨hC, eC⟩ : ∃ hC, hB.new (.cells [.int .u8 (o.code : Int), .slice b o.l.length cb eb] .rw) = hC := ⟨_, rfl⟩
  have kC : Kp hB hC := by rw [← eC]; exact Kp.new _ _
  have nC : hC.next = h.next + 2 := by rw [← eC, h_next_new, nB]
  have rowC : RowF lo hC dn a c ez := row.mono (by omega) (fun i h1 h2 => by rw [kC.2 _ (by omega), fB _ h2 (by omega)])
  have hsC : Ow hC o.l b eb := by
    by_cases ol : o.l = []
    · exact .inl ol
    · rcases hs with s | ⟨bi, m, f1, f2, f4, f5, f3⟩
      · exact .inl s
      · exact .inr ⟨bi, m, f1, f2, by rw [kC.2 _ (by omega), fB _ f3 (by have := (hb ol bi 0 f1).1; omega), f4], f5, by omega⟩
  obtain ⟨hD, ap, rowD, nD, fD⟩ := ap_row lo hC (by omega) dn hd a c ez rowC o b cb eb hsC hb
  have scC := src_q hB .u8 (o.code : Int) b o.l.length cb eb
  rw [eC] at scC
  have na4 : a ≠ some (p4, 0) := fun e => by have := (row.lt e).1; omega
  have na5 : a ≠ some (p5, 0) := fun e => by have := (row.lt e).1; omega
  have naL : a ≠ some (L, 0) := fun e => by have := (row.lt e).1; omega
  have gD4 : hD.get p4 = some (.cells [.slice a dn.length c ez] .rw) := by rw [fD _ (by omega) na4, kC.2 _ (by omega), gB4]
  have gD5 : hD.get p5 = some (.cells [.int .i64 n0] .rw) := by rw [fD _ (by omega) na5, kC.2 _ (by omega), fB _ (by omega) (Ne.symm zL5), g5]
  have gDL : hD.get L = some (.loop 1 none 22 T0 [10, 11] A_ops_Split_0 B_ops_Split_0 D) := by rw [fD _ (by omega) naL, kC.2 _ (by omega), gBL]
  obtain ⟨hE, eE⟩ : ∃ hE, ((hD.put p4 (.cells [.slice (some (hC.next, 0)) (dn.length + 1) none 2] .rw)).put p5 (.cells [.int .i64 (at' : Int)] .rw)).put L (.loop 0 none 22 T0 [10, 11] A_ops_Split_0 B_ops_Split_0 D) = hE := ⟨_, rfl⟩
  have z1 : (h.next = L) = False := by simp; omega
  have z2 : (p4 = p5) = False := by simp; omega
  have z3 : (p5 = p4) = False := by simp; omega
  have nE : hE.next = hD.next := by rw [← eE]; rfl
  refine ⟨hE, some (hC.next, 0), none, 2, ?_, by omega, by rw [← eE]; (simp (disch := omega) only [l_loop, l_succ, l_normal, l_normal, l_exit, l_ret, l_iteN, h_put_get, h_new_get, h_del_get, h_next_put, h_next_new, h_next_del, Nat.add_assoc, Nat.add_eq_left, Nat.left_eq_add, Nat.add_left_cancel_iff, s_load, m_load, m_load1, m_load1, m_st, m_stE, m_storeI, m_storeE, w_zero, w_succ, s_alloc, x_idxA, x_idxS, x_idxAE, x_idxSE, x_addrE, x_idx, x_lenS, s_len, x_buildS, x_buildE, x_P0, x_P1, x_fill0, x_filli, x_fills, x_fillb, c_int, List.length_cons, List.length_nil, List.cons_append, List.drop_succ_cons, List.drop_zero, List.drop_nil, List.nil_append, Int.reduceAdd, Int.reduceToNat, Int.reduceLT, Int.reduceLE, Nat.reduceAdd, Nat.reduceMul, Nat.reduceLeDiff, Int.reduceEq, Int.reduceSub, Int.cast_ofNat_Int, s_resc, s_consR, m_load4, m_store4, s_res0, decide_true, decide_false, iteN_true, iteN_false, Nat.reduceEqDiff, Nat.reduceAdd, reduceCtorEq, y4, z3]; try rfl), by rw [← eE]; (simp (disch := omega) only [l_loop, l_succ, l_normal, l_normal, l_exit, l_ret, l_iteN, h_put_get, h_new_get, h_del_get, h_next_put, h_next_new, h_next_del, Nat.add_assoc, Nat.add_eq_left, Nat.left_eq_add, Nat.add_left_cancel_iff, s_load, m_load, m_load1, m_load1, m_st, m_stE, m_storeI, m_storeE, w_zero, w_succ, s_alloc, x_idxA, x_idxS, x_idxAE, x_idxSE, x_addrE, x_idx, x_lenS, s_len, x_buildS, x_buildE, x_P0, x_P1, x_fill0, x_filli, x_fills, x_fillb, c_int, List.length_cons, List.length_nil, List.cons_append, List.drop_succ_cons, List.drop_zero, List.drop_nil, List.nil_append, Int.reduceAdd, Int.reduceToNat, Int.reduceLT, Int.reduceLE, Nat.reduceAdd, Nat.reduceMul, Nat.reduceLeDiff, Int.reduceEq, Int.reduceSub, Int.cast_ofNat_Int, s_resc, s_consR, m_load4, m_store4, s_res0, decide_true, decide_false, iteN_true, iteN_false, Nat.reduceEqDiff, Nat.reduceAdd, reduceCtorEq, y5]; try rfl), by rw [← eE]; exact h_put_same _ _ _, rowD.mono (by omega) (fun i h1 h2 => by rw [← eE, h_put_ne _ _ (by omega), h_put_ne _ _ (by omega), h_put_ne _ _ (by omega)]), fun i hi n4 n5 nL => by rw [← eE, h_put_ne _ _ (Ne.symm nL), h_put_ne _ _ (Ne.symm n5), h_put_ne _ _ (Ne.symm n4), fD _ (by omega) (fun e => by have := (row.lt e).1; omega), kC.2 _ (by omega), fB _ (by omega) nL]⟩
  simp (config := {maxSteps := 2000000}) (disch := first | omega | (simp only [List.length_cons, List.length_nil, List.length_append, List.length_drop]; omega)) only [g4, g5, gL, t4, t5, y4, y4', y5, y5', z1, z2, z3, m_storeS, st2, st2r, ld2, fl2, eA, gAL, eB, gB, gB4, eC, scC, ap, gD4, gD5, gDL, eE, y_cyld, y_ready, y_set2, y_mid, y_busy, y_end, y_done, y_jn, Option.isNone_none, ↓u_A_ops_Split_0, ↓u_B_ops_Split_0, ↓s_append, ↓b_xor32, ↓b_and32, ↓b_or32, ↓u_not32, b_xor32, b_and32, b_or32, u_not32, w32ad, ↓x_conv, x_convV, ↓x_fieldAddr, x_fieldV, ↓s_nilchk, x_nilchk, Nat.zero_add, Nat.add_zero, Nat.mul_one, ↓s_evD, ↓s_dnil, ↓s_dL, ↓s_dLg, ↓s_dR, ↓s_dRg, ↓s_dRj, ↓s_dRjg, ↓s_dB, ↓s_dBg, ↓s_dAlloc, ↓s_bindD, s_bindD, s_finD, s_finDx, s_addP0, s_addP1, s_addB, s_lookP, ↓s_bump0, ↓s_bump_get, s_bump_next, s_ok0, ↓s_ok1, s_okR0, ↓s_okR1, ↓s_okE, s_okE, s_okE1, s_nth0, s_nthS, Nat.add_zero, Bool.and_self, Bool.and_true, Bool.true_and, ↓l_loop, ↓l_succ, ↓l_normal, l_normal, l_exit, l_ret, l_iteN, ↓h_put_get, ↓h_new_get, ↓h_del_get, h_next_put, h_next_new, h_next_del, Nat.add_assoc, Nat.add_eq_left, Nat.left_eq_add, Nat.add_left_cancel_iff, ↓s_load, m_load, ↓m_load1, m_load1, ↓m_st, m_stE, m_storeI, m_storeE, w_zero, w_succ, ↓s_alloc, ↓x_idxA, ↓x_idxS, x_idxAE, x_idxSE, x_addrE, x_idx, x_lenS, ↓s_len, ↓x_buildS, x_buildE, ↓x_P0, ↓x_P1, x_fill0, x_filli, x_fills, x_fillb, c_int, List.length_cons, List.length_nil, List.cons_append, List.drop_succ_cons, List.drop_zero, List.drop_nil, List.nil_append, Int.reduceAdd, Int.reduceToNat, Int.reduceLT, Int.reduceLE, Nat.reduceAdd, Nat.reduceMul, Nat.reduceLeDiff, Int.reduceEq, Int.reduceSub, Int.cast_ofNat_Int, s_resc, s_consR, m_load4, m_store4, s_res0, ↓s_skip, ↓s_ops, ↓s_dops, ↓s_seq, ↓s_cond, ↓s_block, ↓s_exit, ↓s_ret, ↓s_scope, ↓s_nil, ↓s_op, ↓s_opg, ↓s_wanted', ↓s_wantV, s_wantV, s_wantV0, beq_true, beq_false, ↓s_bindS, s_bindS, ↓s_bindE, s_bindE, s_bindE_ret, s_bindE_exit, s_bindE_iteN, s_norm, ↓s_condV, s_condV, s_block_ret, s_block_normal, s_block_exit, s_block_iteN, ↓s_getp, ↓s_getp0, ↓s_get, s_get0, ↓s_con, ↓s_fn, ↓s_os0, ↓s_os1, ↓s_list0, ↓s_list1, ↓s_mov, ↓s_pick, ↓s_pickE, s_pickE, ↓s_bin, ↓s_un, ↓s_minmax, ↓s_call, ↓s_callv, ↓s_callV, ↓s_ext, s_same, b_eql, b_neq, b_lss, b_leq, b_gtr, b_geq, b_add, b_sub, b_mul, b_eqlb, b_neqb, b_fnil, b_fnil', b_fnil2, b_fnil2', u_neg, u_not, m_two, s_end, s_end', s_end_iteN, s_res0, s_res1, s_tup1, s_tup2, ↓iteN_true, ↓iteN_false, iteN_true, iteN_false, Nat.zero_add, List.nil_append, List.append_nil, Nat.reduceEqDiff, reduceIte, decide_true, decide_false, Bool.not_true, Bool.not_false, List.getElem?_cons_zero, List.getElem?_cons_succ, Bool.false_eq_true, if_true, if_false, beq_self_eq_true]
end Go.Eng
namespace Go.Eng
open Go
variable {E : Nat → Option Fn} {X : Orc}
set_option linter.unusedSimpArgs false
set_option linter.unusedVariables false
/-- Split's cells, and what is there else -/
structure SpI (hB : H) (L p4 p5 lo D : Nat) (T0 : Tr V) (dn : List Oq) (at_ : Nat) (h : H) : Prop where
  st : ∃ a c e, h.get p4 = some (.cells [.slice a dn.length c e] .rw) ∧ RowF lo h dn a c e
  g5 : h.get p5 = some (.cells [.int .i64 (at_ : Int)] .rw)
  gL : h.get L = some (.loop 0 none 22 T0 [10, 11] A_ops_Split_0 B_ops_Split_0 D)
  nx : lo ≤ h.next
  fr : ∀ i, i < lo → i ≠ p4 → i ≠ p5 → i ≠ L → h.get i = hB.get i
theorem SpI.kp {hB : H} {L p4 p5 lo D : Nat} {T0 : Tr V} {dn : List Oq} {at_ : Nat} {h h' : H} (s : SpI hB L p4 p5 lo D T0 dn at_ h) (hp4 : p4 < lo) (hp5 : p5 < lo) (hL : L < lo) (k : Kp h h') : SpI hB L p4 p5 lo D T0 dn at_ h' := by
  obtain ⟨⟨a, c, e, g4, r⟩, g5, gL, nx, fr⟩ := s
  have := k.1
  exact ⟨⟨a, c, e, by rw [k.2 _ (by omega), g4], r.kp k⟩, by rw [k.2 _ (by omega), g5], by rw [k.2 _ (by omega), gL], by omega, fun i h1 h2 h3 h4 => by rw [k.2 _ (by omega), fr i h1 h2 h3 h4]⟩
/-- the walk over a script's operations from a place on -/
theorem walk_go (e : EnOp E) (x : NoOp X) (M : Nat) (hB : H) (L p4 p5 ps lo D : Nat) (T0 : Tr V) (t4 : evO T0 (.t 4) = .ptr (some (p4, 0))) (t5 : evO T0 (.t 5) = .ptr (some (p5, 0))) (hp4 : p4 < lo) (hp5 : p5 < lo) (hL : L < lo) (hps : ps < lo) (z45 : p4 ≠ p5) (zL4 : L ≠ p4) (zL5 : L ≠ p5) (s4 : ps ≠ p4) (s5 : ps ≠ p5) (sL : ps ≠ L)
    (s : List Nat) (bs : byt s = true) (hs : s.length ≤ 1000000) (a : Option (Nat × Nat)) (c : Option Nat) (ez : Nat) (hcn : s ≠ [] → c = none) (md : Md) (gs : hB.get ps = some (.cells [.slice a s.length c ez] md)) (src : ∀ h : H, lo ≤ h.next → (∀ i, i < lo → i ≠ p4 → i ≠ p5 → i ≠ L → h.get i = hB.get i) → SrcH h a ez s) :
    ∀ (n g : Nat) (dn : List Oq) (at_ : Nat) (T : Tr V) (h : H), s.length - at_ ≤ n → n < g → at_ ≤ s.length → dn.length ≤ at_ → evO T (.t 0) = .yld L → evO T (.t 1) = .ptr (some (ps, 0)) → evO T (.t 3) = .int .i64 (at_ : Int) → SpI hB L p4 p5 lo D T0 dn at_ h →
    ∃ ex T' h', loopN (evC (callX E X (M + 10)) 31 (M + 10) none L_ops_operations_1_0) g ⟨T, [], h⟩ = some (ex, ⟨T', [], h'⟩) ∧ (ex = .exit 0 ∨ ex = .ret) ∧ SpI hB L p4 p5 lo D T0 (dn ++ (spV n (s.drop at_)).1) (at_ + (spV n (s.drop at_)).2) h' ∧ h.next ≤ h'.next := by
  intro n
  induction n with
  | zero =>
    intro g dn at_ T h hn hg hat hdn t0 t1 t3 I
    obtain ⟨g, rfl⟩ : ∃ k, g = k + 1 := ⟨g - 1, by omega⟩
    have e0 : at_ = s.length := by omega
    have c0 : decide ((at_ : Int) < (s.length : Int)) = false := decide_eq_false (by omega)
    have gs' : h.get ps = some (.cells [.slice a s.length c ez] md) := by rw [I.fr _ hps s4 s5 sL, gs]
    rw [l_succ]
    obtain ⟨sl, esl⟩ : ∃ k, s.length = k := ⟨_, rfl⟩
    rw [esl] at gs' c0
    refine ⟨.exit 0, _, h, by
      simp (config := {maxSteps := 2000000}) (disch := first | omega | (simp only [List.length_cons, List.length_nil, List.length_append, List.length_drop]; omega)) only [L_ops_operations_1_0, t0, t1, t3, gs', c0, ↓s_len, x_lenS, ↓b_xor32, ↓b_and32, ↓b_or32, ↓u_not32, b_xor32, b_and32, b_or32, u_not32, w32ad, ↓x_conv, x_convV, ↓x_fieldAddr, x_fieldV, ↓s_nilchk, x_nilchk, Nat.zero_add, Nat.add_zero, Nat.mul_one, ↓l_loop, ↓l_succ, ↓l_normal, l_normal, l_exit, l_ret, l_iteN, ↓h_put_get, ↓h_new_get, ↓h_del_get, h_next_put, h_next_new, h_next_del, Nat.add_assoc, Nat.add_eq_left, Nat.left_eq_add, Nat.add_left_cancel_iff, ↓s_load, m_load, ↓m_load1, m_load1, ↓m_st, m_stE, m_storeI, m_storeE, w_zero, w_succ, ↓s_alloc, ↓x_idxA, ↓x_idxS, x_idxAE, x_idxSE, x_addrE, x_idx, x_lenS, ↓s_len, ↓x_buildS, x_buildE, ↓x_P0, ↓x_P1, x_fill0, x_filli, x_fills, x_fillb, c_int, List.length_cons, List.length_nil, List.cons_append, List.drop_succ_cons, List.drop_zero, List.drop_nil, List.nil_append, Int.reduceAdd, Int.reduceToNat, Int.reduceLT, Int.reduceLE, Nat.reduceAdd, Nat.reduceMul, Nat.reduceLeDiff, Int.reduceEq, Int.reduceSub, Int.cast_ofNat_Int, s_resc, s_consR, m_load4, m_store4, s_res0, ↓s_skip, ↓s_ops, ↓s_dops, ↓s_seq, ↓s_cond, ↓s_block, ↓s_exit, ↓s_ret, ↓s_scope, ↓s_nil, ↓s_op, ↓s_opg, ↓s_wanted', ↓s_wantV, s_wantV, s_wantV0, beq_true, beq_false, ↓s_bindS, s_bindS, ↓s_bindE, s_bindE, s_bindE_ret, s_bindE_exit, s_bindE_iteN, s_norm, ↓s_condV, s_condV, s_block_ret, s_block_normal, s_block_exit, s_block_iteN, ↓s_getp, ↓s_getp0, ↓s_get, s_get0, ↓s_con, ↓s_fn, ↓s_os0, ↓s_os1, ↓s_list0, ↓s_list1, ↓s_mov, ↓s_pick, ↓s_pickE, s_pickE, ↓s_bin, ↓s_un, ↓s_minmax, ↓s_call, ↓s_callv, ↓s_callV, ↓s_ext, s_same, b_eql, b_neq, b_lss, b_leq, b_gtr, b_geq, b_add, b_sub, b_mul, b_eqlb, b_neqb, b_fnil, b_fnil', b_fnil2, b_fnil2', u_neg, u_not, m_two, s_end, s_end', s_end_iteN, s_res0, s_res1, s_tup1, s_tup2, ↓iteN_true, ↓iteN_false, iteN_true, iteN_false, Nat.zero_add, List.nil_append, List.append_nil, Nat.reduceEqDiff, reduceIte, decide_true, decide_false, Bool.not_true, Bool.not_false, List.getElem?_cons_zero, List.getElem?_cons_succ, Bool.false_eq_true, if_true, if_false, beq_self_eq_true]
      exact rfl, .inl rfl, ?_, Nat.le_refl _⟩
    show SpI hB L p4 p5 lo D T0 (dn ++ []) (at_ + 0) h
    rw [List.append_nil]; exact I
  | succ n ih =>
    intro g dn at_ T h hn hg hat hdn t0 t1 t3 I
    obtain ⟨g, rfl⟩ : ∃ k, g = k + 1 := ⟨g - 1, by omega⟩
    have gs' : h.get ps = some (.cells [.slice a s.length c ez] md) := by rw [I.fr _ hps s4 s5 sL, gs]
    by_cases e0 : at_ = s.length
    · have c0 : decide ((at_ : Int) < (s.length : Int)) = false := decide_eq_false (by omega)
      rw [l_succ]
      obtain ⟨sl, esl⟩ : ∃ k, s.length = k := ⟨_, rfl⟩
      rw [esl] at gs' c0
      refine ⟨.exit 0, _, h, by
        simp (config := {maxSteps := 2000000}) (disch := first | omega | (simp only [List.length_cons, List.length_nil, List.length_append, List.length_drop]; omega)) only [L_ops_operations_1_0, t0, t1, t3, gs', c0, ↓s_len, x_lenS, ↓b_xor32, ↓b_and32, ↓b_or32, ↓u_not32, b_xor32, b_and32, b_or32, u_not32, w32ad, ↓x_conv, x_convV, ↓x_fieldAddr, x_fieldV, ↓s_nilchk, x_nilchk, Nat.zero_add, Nat.add_zero, Nat.mul_one, ↓l_loop, ↓l_succ, ↓l_normal, l_normal, l_exit, l_ret, l_iteN, ↓h_put_get, ↓h_new_get, ↓h_del_get, h_next_put, h_next_new, h_next_del, Nat.add_assoc, Nat.add_eq_left, Nat.left_eq_add, Nat.add_left_cancel_iff, ↓s_load, m_load, ↓m_load1, m_load1, ↓m_st, m_stE, m_storeI, m_storeE, w_zero, w_succ, ↓s_alloc, ↓x_idxA, ↓x_idxS, x_idxAE, x_idxSE, x_addrE, x_idx, x_lenS, ↓s_len, ↓x_buildS, x_buildE, ↓x_P0, ↓x_P1, x_fill0, x_filli, x_fills, x_fillb, c_int, List.length_cons, List.length_nil, List.cons_append, List.drop_succ_cons, List.drop_zero, List.drop_nil, List.nil_append, Int.reduceAdd, Int.reduceToNat, Int.reduceLT, Int.reduceLE, Nat.reduceAdd, Nat.reduceMul, Nat.reduceLeDiff, Int.reduceEq, Int.reduceSub, Int.cast_ofNat_Int, s_resc, s_consR, m_load4, m_store4, s_res0, ↓s_skip, ↓s_ops, ↓s_dops, ↓s_seq, ↓s_cond, ↓s_block, ↓s_exit, ↓s_ret, ↓s_scope, ↓s_nil, ↓s_op, ↓s_opg, ↓s_wanted', ↓s_wantV, s_wantV, s_wantV0, beq_true, beq_false, ↓s_bindS, s_bindS, ↓s_bindE, s_bindE, s_bindE_ret, s_bindE_exit, s_bindE_iteN, s_norm, ↓s_condV, s_condV, s_block_ret, s_block_normal, s_block_exit, s_block_iteN, ↓s_getp, ↓s_getp0, ↓s_get, s_get0, ↓s_con, ↓s_fn, ↓s_os0, ↓s_os1, ↓s_list0, ↓s_list1, ↓s_mov, ↓s_pick, ↓s_pickE, s_pickE, ↓s_bin, ↓s_un, ↓s_minmax, ↓s_call, ↓s_callv, ↓s_callV, ↓s_ext, s_same, b_eql, b_neq, b_lss, b_leq, b_gtr, b_geq, b_add, b_sub, b_mul, b_eqlb, b_neqb, b_fnil, b_fnil', b_fnil2, b_fnil2', u_neg, u_not, m_two, s_end, s_end', s_end_iteN, s_res0, s_res1, s_tup1, s_tup2, ↓iteN_true, ↓iteN_false, iteN_true, iteN_false, Nat.zero_add, List.nil_append, List.append_nil, Nat.reduceEqDiff, reduceIte, decide_true, decide_false, Bool.not_true, Bool.not_false, List.getElem?_cons_zero, List.getElem?_cons_succ, Bool.false_eq_true, if_true, if_false, beq_self_eq_true]
        exact rfl, .inl rfl, ?_, Nat.le_refl _⟩
      rw [e0, List.drop_length]
      show SpI hB L p4 p5 lo D T0 (dn ++ []) (s.length + 0) h
      rw [List.append_nil, Nat.add_zero, ← e0]; exact I
    · have c0 : decide ((at_ : Int) < (s.length : Int)) = true := decide_eq_true (by omega)
      have hne : s ≠ [] := fun h => by rw [h] at e0 hat; simp at e0 hat; omega
      obtain rfl := hcn hne
      have sr := src h I.nx I.fr
      obtain rfl : ez = 1 := by
        rcases sr with s | ⟨_, _, _, _, _, f2, _⟩
        · exact absurd s hne
        · exact f2
      have sv : slcV 1 (some (.int .i64 (at_ : Int))) none none (.slice a s.length none 1) = some (.slice (upA a at_) (s.length - at_) none 1) := slcV_loA _ _ _ _ hat
      have hd : s.drop at_ ≠ [] := fun h => by have := congrArg List.length h; rw [List.length_drop] at this; simp at this; omega
      have bd : byt (s.drop at_) = true := byt_drop bs _
      obtain ⟨h1, k1, fr⟩ := first_go e x M (s.drop at_) bd hd (by rw [List.length_drop]; omega) (upA a at_) h (sr.drop at_)
      rw [List.length_drop] at fr
      have I1 := I.kp hp4 hp5 hL k1
      have gs1 : h1.get ps = some (.cells [.slice a s.length none 1] md) := by rw [I1.fr _ hps s4 s5 sL, gs]
      rw [sp_succ]
      cases hf : fstV (s.drop at_) with
      | none =>
        rw [hf] at fr
        replace fr : callX E X (M + 10) (.fn k_ops_first) [.slice (upA a at_) (s.length - at_) none 1] h = some (.tup [.agg [.int .u8 0, .slice none 0 (some 0) 0], .int .i64 0, .bool false], h1) := fr
        have wz : wr .i64 ((at_ : Int) + 0) = (at_ : Int) := by rw [wr_i64 (by omega)]; omega
        rw [l_succ]
        obtain ⟨sd, esd⟩ : ∃ k, s.length - at_ = k := ⟨_, rfl⟩
        rw [esd] at sv fr
        obtain ⟨sl, esl⟩ : ∃ k, s.length = k := ⟨_, rfl⟩
        rw [esl] at gs' gs1 c0 sv
        refine ⟨.ret, _, _, by
          simp (config := {maxSteps := 2000000}) (disch := first | omega | (simp only [List.length_cons, List.length_nil, List.length_append, List.length_drop]; omega)) only [L_ops_operations_1_0, t0, t1, t3, gs', gs1, sv, fr, wz, c0, st2, st2r, ld2, ↓x_slcS, x_M1, x_M0, ↓s_len, x_lenS, ↓b_xor32, ↓b_and32, ↓b_or32, ↓u_not32, b_xor32, b_and32, b_or32, u_not32, w32ad, ↓x_conv, x_convV, ↓x_fieldAddr, x_fieldV, ↓s_nilchk, x_nilchk, Nat.zero_add, Nat.add_zero, Nat.mul_one, ↓s_evD, ↓s_dnil, ↓s_dL, ↓s_dLg, ↓s_dR, ↓s_dRg, ↓s_dRj, ↓s_dRjg, ↓s_dB, ↓s_dBg, ↓s_dAlloc, ↓s_bindD, s_bindD, s_finD, s_finDx, s_addP0, s_addP1, s_addB, s_lookP, ↓s_bump0, ↓s_bump_get, s_bump_next, s_ok0, ↓s_ok1, s_okR0, ↓s_okR1, ↓s_okE, s_okE, s_okE1, s_nth0, s_nthS, Nat.add_zero, Bool.and_self, Bool.and_true, Bool.true_and, ↓l_loop, ↓l_succ, ↓l_normal, l_normal, l_exit, l_ret, l_iteN, ↓h_put_get, ↓h_new_get, ↓h_del_get, h_next_put, h_next_new, h_next_del, Nat.add_assoc, Nat.add_eq_left, Nat.left_eq_add, Nat.add_left_cancel_iff, ↓s_load, m_load, ↓m_load1, m_load1, ↓m_st, m_stE, m_storeI, m_storeE, w_zero, w_succ, ↓s_alloc, ↓x_idxA, ↓x_idxS, x_idxAE, x_idxSE, x_addrE, x_idx, x_lenS, ↓s_len, ↓x_buildS, x_buildE, ↓x_P0, ↓x_P1, x_fill0, x_filli, x_fills, x_fillb, c_int, List.length_cons, List.length_nil, List.cons_append, List.drop_succ_cons, List.drop_zero, List.drop_nil, List.nil_append, Int.reduceAdd, Int.reduceToNat, Int.reduceLT, Int.reduceLE, Nat.reduceAdd, Nat.reduceMul, Nat.reduceLeDiff, Int.reduceEq, Int.reduceSub, Int.cast_ofNat_Int, s_resc, s_consR, m_load4, m_store4, s_res0, ↓s_skip, ↓s_ops, ↓s_dops, ↓s_seq, ↓s_cond, ↓s_block, ↓s_exit, ↓s_ret, ↓s_scope, ↓s_nil, ↓s_op, ↓s_opg, ↓s_wanted', ↓s_wantV, s_wantV, s_wantV0, beq_true, beq_false, ↓s_bindS, s_bindS, ↓s_bindE, s_bindE, s_bindE_ret, s_bindE_exit, s_bindE_iteN, s_norm, ↓s_condV, s_condV, s_block_ret, s_block_normal, s_block_exit, s_block_iteN, ↓s_getp, ↓s_getp0, ↓s_get, s_get0, ↓s_con, ↓s_fn, ↓s_os0, ↓s_os1, ↓s_list0, ↓s_list1, ↓s_mov, ↓s_pick, ↓s_pickE, s_pickE, ↓s_bin, ↓s_un, ↓s_minmax, ↓s_call, ↓s_callv, ↓s_callV, ↓s_ext, s_same, b_eql, b_neq, b_lss, b_leq, b_gtr, b_geq, b_add, b_sub, b_mul, b_eqlb, b_neqb, b_fnil, b_fnil', b_fnil2, b_fnil2', u_neg, u_not, m_two, s_end, s_end', s_end_iteN, s_res0, s_res1, s_tup1, s_tup2, ↓iteN_true, ↓iteN_false, iteN_true, iteN_false, Nat.zero_add, List.nil_append, List.append_nil, Nat.reduceEqDiff, reduceIte, decide_true, decide_false, Bool.not_true, Bool.not_false, List.getElem?_cons_zero, List.getElem?_cons_succ, Bool.false_eq_true, if_true, if_false, beq_self_eq_true]
          exact rfl, .inr rfl, ?_, ?_⟩
        · simp only
          rw [List.append_nil, Nat.add_zero]
          exact I1.kp hp4 hp5 hL (by (repeat (first | exact Kp.refl _ | refine Kp.put ?_ _ (by first | omega | (simp only [h_next_put, h_next_new, h_next_del]; omega)) | refine Kp.del ?_ (by first | omega | (simp only [h_next_put, h_next_new, h_next_del]; omega)) | refine Kp.trans ?_ (Kp.new _ _))))
        · have := k1.1; simp only [h_next_put, h_next_new]; omega
      | some z =>
        obtain ⟨o, k⟩ := z
        rw [hf] at fr
        obtain ⟨a2, c2, e2, r1, s2, ge2⟩ := fr
        obtain ⟨f1, f2, f3, f4, f5, f6⟩ := fst_of _ bd o k hf
        rw [List.length_drop] at f3
        have wk : wr .i64 ((at_ : Int) + (k : Int)) = ((at_ + k : Nat) : Int) := by rw [wr_i64 (by omega)]; omega
        obtain ⟨h2, eh2⟩ : ∃ h2, (h1.new (.cells [.int .u8 0, .slice none 0 (some 0) 0] .rw)).put h1.next (.cells [.int .u8 (o.code : Int), .slice a2 o.l.length c2 e2] .rw) = h2 := ⟨_, rfl⟩
        have k2 : Kp h1 h2 := by rw [← eh2]; (repeat (first | exact Kp.refl _ | refine Kp.put ?_ _ (by first | omega | (simp only [h_next_put, h_next_new, h_next_del]; omega)) | refine Kp.del ?_ (by first | omega | (simp only [h_next_put, h_next_new, h_next_del]; omega)) | refine Kp.trans ?_ (Kp.new _ _)))
        have g2 : h2.get h1.next = some (.cells [.int .u8 (o.code : Int), .slice a2 o.l.length c2 e2] .rw) := by rw [← eh2]; exact h_put_same _ _ _
        have I2 := I1.kp hp4 hp5 hL k2
        obtain ⟨⟨ar, cr, er, gr4, row⟩, gr5, grL, grn, grf⟩ := I2
        have rl := I.st
        obtain ⟨a0, c0', e0', ga0, row0⟩ := rl
        have ear : ar = a0 := by
          have h4 : h2.get p4 = h.get p4 := by rw [k2.2 _ (by have := I1.nx; omega), k1.2 _ (by have := I.nx; omega)]
          rw [h4, ga0] at gr4
          cases gr4; rfl
        obtain ⟨h3, a3, c3, e3, yr, yn, y4, y5, yL, yrow, yfr⟩ := sy_go (E := E) x (M + 9) L p4 p5 D lo T0 t4 t5 hp4 hp5 hL z45 zL4 zL5 h2 grn dn (by omega) ar cr er (at_ : Int) gr4 gr5 grL row o a2 c2 e2 (s2.kp k2) (fun _ q z eq => ⟨by have := ge2 q z eq; have := I.nx; omega, fun e => by
          rw [ear] at e
          have := (row0.lt e).2
          have := ge2 q z eq
          omega⟩) (at_ + k)
        have I3 : SpI hB L p4 p5 lo D T0 (dn ++ [o]) (at_ + k) h3 := ⟨⟨a3, c3, e3, by rw [y4, List.length_append]; rfl, yrow⟩, y5, yL, by omega, fun i h1 h2 h3 h4 => by rw [yfr i h1 h2 h3 h4, grf i h1 h2 h3 h4]⟩
        have hnx : h.next ≤ h3.next := by have := k1.1; have := k2.1; omega
        obtain ⟨T1, eT, u0, u1, u3⟩ : ∃ T1, evC (callX E X (M + 10)) 31 (M + 10) none L_ops_operations_1_0 ⟨T, [], h⟩ = some (.normal, ⟨T1, [], h3⟩) ∧ evO T1 (.t 0) = .yld L ∧ evO T1 (.t 1) = .ptr (some (ps, 0)) ∧ evO T1 (.t 3) = .int .i64 ((at_ + k : Nat) : Int) := by
          obtain ⟨sd, esd⟩ : ∃ k, s.length - at_ = k := ⟨_, rfl⟩
          rw [esd] at sv r1
          obtain ⟨sl, esl⟩ : ∃ k, s.length = k := ⟨_, rfl⟩
          rw [esl] at gs' gs1 c0 sv
          obtain ⟨ak, eak⟩ : ∃ q, at_ + k = q := ⟨_, rfl⟩
          rw [eak] at wk yr ⊢
          refine ⟨_, by
            simp (config := {maxSteps := 2000000}) (disch := first | omega | (simp only [List.length_cons, List.length_nil, List.length_append, List.length_drop]; omega)) only [L_ops_operations_1_0, t0, t1, t3, gs', sv, r1, wk, c0, eh2, g2, yr, st2, st2r, ld2, s_callVy, ↓x_slcS, x_M1, x_M0, ↓s_len, x_lenS, ↓b_xor32, ↓b_and32, ↓b_or32, ↓u_not32, b_xor32, b_and32, b_or32, u_not32, w32ad, ↓x_conv, x_convV, ↓x_fieldAddr, x_fieldV, ↓s_nilchk, x_nilchk, Nat.zero_add, Nat.add_zero, Nat.mul_one, ↓s_evD, ↓s_dnil, ↓s_dL, ↓s_dLg, ↓s_dR, ↓s_dRg, ↓s_dRj, ↓s_dRjg, ↓s_dB, ↓s_dBg, ↓s_dAlloc, ↓s_bindD, s_bindD, s_finD, s_finDx, s_addP0, s_addP1, s_addB, s_lookP, ↓s_bump0, ↓s_bump_get, s_bump_next, s_ok0, ↓s_ok1, s_okR0, ↓s_okR1, ↓s_okE, s_okE, s_okE1, s_nth0, s_nthS, Nat.add_zero, Bool.and_self, Bool.and_true, Bool.true_and, ↓l_loop, ↓l_succ, ↓l_normal, l_normal, l_exit, l_ret, l_iteN, ↓h_put_get, ↓h_new_get, ↓h_del_get, h_next_put, h_next_new, h_next_del, Nat.add_assoc, Nat.add_eq_left, Nat.left_eq_add, Nat.add_left_cancel_iff, ↓s_load, m_load, ↓m_load1, m_load1, ↓m_st, m_stE, m_storeI, m_storeE, w_zero, w_succ, ↓s_alloc, ↓x_idxA, ↓x_idxS, x_idxAE, x_idxSE, x_addrE, x_idx, x_lenS, ↓s_len, ↓x_buildS, x_buildE, ↓x_P0, ↓x_P1, x_fill0, x_filli, x_fills, x_fillb, c_int, List.length_cons, List.length_nil, List.cons_append, List.drop_succ_cons, List.drop_zero, List.drop_nil, List.nil_append, Int.reduceAdd, Int.reduceToNat, Int.reduceLT, Int.reduceLE, Nat.reduceAdd, Nat.reduceMul, Nat.reduceLeDiff, Int.reduceEq, Int.reduceSub, Int.cast_ofNat_Int, s_resc, s_consR, m_load4, m_store4, s_res0, ↓s_skip, ↓s_ops, ↓s_dops, ↓s_seq, ↓s_cond, ↓s_block, ↓s_exit, ↓s_ret, ↓s_scope, ↓s_nil, ↓s_op, ↓s_opg, ↓s_wanted', ↓s_wantV, s_wantV, s_wantV0, beq_true, beq_false, ↓s_bindS, s_bindS, ↓s_bindE, s_bindE, s_bindE_ret, s_bindE_exit, s_bindE_iteN, s_norm, ↓s_condV, s_condV, s_block_ret, s_block_normal, s_block_exit, s_block_iteN, ↓s_getp, ↓s_getp0, ↓s_get, s_get0, ↓s_con, ↓s_fn, ↓s_os0, ↓s_os1, ↓s_list0, ↓s_list1, ↓s_mov, ↓s_pick, ↓s_pickE, s_pickE, ↓s_bin, ↓s_un, ↓s_minmax, ↓s_call, ↓s_callv, ↓s_callV, ↓s_ext, s_same, b_eql, b_neq, b_lss, b_leq, b_gtr, b_geq, b_add, b_sub, b_mul, b_eqlb, b_neqb, b_fnil, b_fnil', b_fnil2, b_fnil2', u_neg, u_not, m_two, s_end, s_end', s_end_iteN, s_res0, s_res1, s_tup1, s_tup2, ↓iteN_true, ↓iteN_false, iteN_true, iteN_false, Nat.zero_add, List.nil_append, List.append_nil, Nat.reduceEqDiff, reduceIte, decide_true, decide_false, Bool.not_true, Bool.not_false, List.getElem?_cons_zero, List.getElem?_cons_succ, Bool.false_eq_true, if_true, if_false, beq_self_eq_true]
            exact rfl, (by (simp only [s_getp, s_getp0, Nat.reduceEqDiff, decide_false, decide_true, iteN_false, iteN_true, t0]; try rfl)), (by (simp only [s_getp, s_getp0, Nat.reduceEqDiff, decide_false, decide_true, iteN_false, iteN_true, t1]; try rfl)), (by (simp only [s_getp, s_getp0, Nat.reduceEqDiff, decide_false, decide_true, iteN_false, iteN_true, t3]; try rfl))⟩
        obtain ⟨ex, T', h', r, q1, q2, q3⟩ := ih g (dn ++ [o]) (at_ + k) T1 h3 (by omega) (by omega) (by omega) (by rw [List.length_append]; simp; omega) u0 u1 u3 I3
        refine ⟨ex, T', h', by rw [l_succ, eT, l_normal]; exact r, q1, ?_, by omega⟩
        simp only
        rw [List.append_assoc] at q2
        rw [List.drop_drop]
        rw [show [o] ++ (spV n (s.drop (at_ + k))).1 = o :: (spV n (s.drop (at_ + k))).1 from rfl, Nat.add_assoc] at q2
        exact q2
end Go.Eng
namespace Go.Eng
open Go
variable {E : Nat → Option Fn} {X : Orc}
set_option linter.unusedSimpArgs false
set_option linter.unusedVariables false
theorem ops_go (e : EnOp E) (x : NoOp X) (N : Nat) (a : Option (Nat × Nat)) (n : Nat) (c : Option Nat) (ez : Nat) (h : H) :
    callX E X (N + 1) (.fn k_ops_operations) [.slice a n c ez] h = some (.fn k_ops_operations_1 [] [.ptr (some (h.next, 0))], h.new (.cells [.slice a n c ez] .rw)) := by
  rw [x_cfn e.op _ _ (Nat.le_of_ble_eq_true rfl) (x.op _ _)]
  have c1 : (V.slice a n c ez).cells = [.slice a n c ez] := rfl
  simp (config := {maxSteps := 2000000}) (disch := first | omega | (simp only [List.length_cons, List.length_nil, List.length_append, List.length_drop]; omega)) only [c1, ↓s_box, ↓s_mkfn, ↓b_xor32, ↓b_and32, ↓b_or32, ↓u_not32, b_xor32, b_and32, b_or32, u_not32, w32ad, ↓x_conv, x_convV, ↓x_fieldAddr, x_fieldV, ↓s_nilchk, x_nilchk, Nat.zero_add, Nat.add_zero, Nat.mul_one, ↓l_loop, ↓l_succ, ↓l_normal, l_normal, l_exit, l_ret, l_iteN, ↓h_put_get, ↓h_new_get, ↓h_del_get, h_next_put, h_next_new, h_next_del, Nat.add_assoc, Nat.add_eq_left, Nat.left_eq_add, Nat.add_left_cancel_iff, ↓s_load, m_load, ↓m_load1, m_load1, ↓m_st, m_stE, m_storeI, m_storeE, w_zero, w_succ, ↓s_alloc, ↓x_idxA, ↓x_idxS, x_idxAE, x_idxSE, x_addrE, x_idx, x_lenS, ↓s_len, ↓x_buildS, x_buildE, ↓x_P0, ↓x_P1, x_fill0, x_filli, x_fills, x_fillb, c_int, List.length_cons, List.length_nil, List.cons_append, List.drop_succ_cons, List.drop_zero, List.drop_nil, List.nil_append, Int.reduceAdd, Int.reduceToNat, Int.reduceLT, Int.reduceLE, Nat.reduceAdd, Nat.reduceMul, Nat.reduceLeDiff, Int.reduceEq, Int.reduceSub, Int.cast_ofNat_Int, s_resc, s_consR, m_load4, m_store4, s_res0, ↓s_skip, ↓s_ops, ↓s_dops, ↓s_seq, ↓s_cond, ↓s_block, ↓s_exit, ↓s_ret, ↓s_scope, ↓s_nil, ↓s_op, ↓s_opg, ↓s_wanted', ↓s_wantV, s_wantV, s_wantV0, beq_true, beq_false, ↓s_bindS, s_bindS, ↓s_bindE, s_bindE, s_bindE_ret, s_bindE_exit, s_bindE_iteN, s_norm, ↓s_condV, s_condV, s_block_ret, s_block_normal, s_block_exit, s_block_iteN, ↓s_getp, ↓s_getp0, ↓s_get, s_get0, ↓s_con, ↓s_fn, ↓s_os0, ↓s_os1, ↓s_list0, ↓s_list1, ↓s_mov, ↓s_pick, ↓s_pickE, s_pickE, ↓s_bin, ↓s_un, ↓s_minmax, ↓s_call, ↓s_callv, ↓s_callV, ↓s_ext, s_same, b_eql, b_neq, b_lss, b_leq, b_gtr, b_geq, b_add, b_sub, b_mul, b_eqlb, b_neqb, b_fnil, b_fnil', b_fnil2, b_fnil2', u_neg, u_not, m_two, s_end, s_end', s_end_iteN, s_res0, s_res1, s_tup1, s_tup2, ↓iteN_true, ↓iteN_false, iteN_true, iteN_false, Nat.zero_add, List.nil_append, List.append_nil, Nat.reduceEqDiff, reduceIte, decide_true, decide_false, Bool.not_true, Bool.not_false, List.getElem?_cons_zero, List.getElem?_cons_succ, Bool.false_eq_true, if_true, if_false, beq_self_eq_true]
theorem ops1_go (e : EnOp E) (x : NoOp X) (M : Nat) (hB : H) (L p4 p5 ps lo D : Nat) (T0 : Tr V) (t4 : evO T0 (.t 4) = .ptr (some (p4, 0))) (t5 : evO T0 (.t 5) = .ptr (some (p5, 0))) (hp4 : p4 < lo) (hp5 : p5 < lo) (hL : L < lo) (hps : ps < lo) (z45 : p4 ≠ p5) (zL4 : L ≠ p4) (zL5 : L ≠ p5) (s4 : ps ≠ p4) (s5 : ps ≠ p5) (sL : ps ≠ L)
    (s : List Nat) (bs : byt s = true) (hs : s.length ≤ 1000000) (hM : s.length < M) (a : Option (Nat × Nat)) (c : Option Nat) (ez : Nat) (hcn : s ≠ [] → c = none) (md : Md) (gs : hB.get ps = some (.cells [.slice a s.length c ez] md)) (src : ∀ h : H, lo ≤ h.next → (∀ i, i < lo → i ≠ p4 → i ≠ p5 → i ≠ L → h.get i = hB.get i) → SrcH h a ez s) (I : SpI hB L p4 p5 lo D T0 [] 0 hB) :
    ∃ h', callX E X (M + 11) (.fn k_ops_operations_1) [.yld L, .ptr (some (ps, 0))] hB = some (.tup [], h') ∧ SpI hB L p4 p5 lo D T0 (spV s.length s).1 (spV s.length s).2 h' ∧ hB.next ≤ h'.next := by
  rw [x_cfn e.op1 _ _ (Nat.le_of_ble_eq_true rfl) (x.op1 _ _)]
  have fin : ∀ T, evO T (.t 0) = .yld L → evO T (.t 1) = .ptr (some (ps, 0)) → evO T (.t 3) = .int .i64 0 → ∃ h', fnEnd [] (blockE 0 (loopN (evC (callX E X (M + 10)) 31 (M + 10) none L_ops_operations_1_0) (M + 10) ⟨T, [], hB⟩)) = some (.tup [], h') ∧ SpI hB L p4 p5 lo D T0 (spV s.length s).1 (spV s.length s).2 h' ∧ hB.next ≤ h'.next := by
    intro T t0 t1 t3
    obtain ⟨ex, T', h', r, q1, q2, q3⟩ := walk_go e x M hB L p4 p5 ps lo D T0 t4 t5 hp4 hp5 hL hps z45 zL4 zL5 s4 s5 sL s bs hs a c ez hcn md gs src s.length (M + 10) [] 0 T hB (by omega) (by omega) (by omega) (by simp) t0 t1 t3 I
    rw [List.drop_zero, List.nil_append, Nat.zero_add] at q2
    refine ⟨h', ?_, q2, q3⟩
    rw [r]
    rcases q1 with rfl | rfl
    · rfl
    · rfl
  obtain ⟨Lo, eL⟩ : ∃ R, L_ops_operations_1_0 = R := ⟨_, rfl⟩
  rw [eL] at fin ⊢
  simp (config := {maxSteps := 2000000}) (disch := first | omega | (simp only [List.length_cons, List.length_nil, List.length_append, List.length_drop]; omega)) only [↓b_xor32, ↓b_and32, ↓b_or32, ↓u_not32, b_xor32, b_and32, b_or32, u_not32, w32ad, ↓x_conv, x_convV, ↓x_fieldAddr, x_fieldV, ↓s_nilchk, x_nilchk, Nat.zero_add, Nat.add_zero, Nat.mul_one, ↓l_loop, ↓l_succ, ↓l_normal, l_normal, l_exit, l_ret, l_iteN, ↓h_put_get, ↓h_new_get, ↓h_del_get, h_next_put, h_next_new, h_next_del, Nat.add_assoc, Nat.add_eq_left, Nat.left_eq_add, Nat.add_left_cancel_iff, ↓s_load, m_load, ↓m_load1, m_load1, ↓m_st, m_stE, m_storeI, m_storeE, w_zero, w_succ, ↓s_alloc, ↓x_idxA, ↓x_idxS, x_idxAE, x_idxSE, x_addrE, x_idx, x_lenS, ↓s_len, ↓x_buildS, x_buildE, ↓x_P0, ↓x_P1, x_fill0, x_filli, x_fills, x_fillb, c_int, List.length_cons, List.length_nil, List.cons_append, List.drop_succ_cons, List.drop_zero, List.drop_nil, List.nil_append, Int.reduceAdd, Int.reduceToNat, Int.reduceLT, Int.reduceLE, Nat.reduceAdd, Nat.reduceMul, Nat.reduceLeDiff, Int.reduceEq, Int.reduceSub, Int.cast_ofNat_Int, s_resc, s_consR, m_load4, m_store4, s_res0, ↓s_skip, ↓s_ops, ↓s_dops, ↓s_seq, ↓s_cond, ↓s_block, ↓s_exit, ↓s_ret, ↓s_scope, ↓s_nil, ↓s_op, ↓s_opg, ↓s_wanted', ↓s_wantV, s_wantV, s_wantV0, beq_true, beq_false, ↓s_bindS, s_bindS, ↓s_bindE, s_bindE, s_bindE_ret, s_bindE_exit, s_bindE_iteN, s_norm, ↓s_condV, s_condV, s_block_ret, s_block_normal, s_block_exit, s_block_iteN, ↓s_getp, ↓s_getp0, ↓s_get, s_get0, ↓s_con, ↓s_fn, ↓s_os0, ↓s_os1, ↓s_list0, ↓s_list1, ↓s_mov, ↓s_pick, ↓s_pickE, s_pickE, ↓s_bin, ↓s_un, ↓s_minmax, ↓s_call, ↓s_callv, ↓s_callV, ↓s_ext, s_same, b_eql, b_neq, b_lss, b_leq, b_gtr, b_geq, b_add, b_sub, b_mul, b_eqlb, b_neqb, b_fnil, b_fnil', b_fnil2, b_fnil2', u_neg, u_not, m_two, s_end, s_end', s_end_iteN, s_res0, s_res1, s_tup1, s_tup2, ↓iteN_true, ↓iteN_false, iteN_true, iteN_false, Nat.zero_add, List.nil_append, List.append_nil, Nat.reduceEqDiff, reduceIte, decide_true, decide_false, Bool.not_true, Bool.not_false, List.getElem?_cons_zero, List.getElem?_cons_succ, Bool.false_eq_true, if_true, if_false, beq_self_eq_true]
  exact fin _ (by (simp only [s_getp, s_getp0, Nat.reduceEqDiff, decide_false, decide_true, iteN_false, iteN_true, eL]; try rfl)) (by (simp only [s_getp, s_getp0, Nat.reduceEqDiff, decide_false, decide_true, iteN_false, iteN_true, eL]; try rfl)) (by (simp only [s_getp, s_getp0, Nat.reduceEqDiff, decide_false, decide_true, iteN_false, iteN_true, eL]; try rfl))
/-- what Split answers -/
def spR (s : List Nat) : List Oq × Nat := if (spV s.length s).2 < s.length then ([], 100) else ((spV s.length s).1, 0)
theorem split_go (e : EnOp E) (x : NoOp X) (M : Nat) (s : List Nat) (bs : byt s = true) (hs : s.length ≤ 1000000) (hM : s.length < M) (a : Option (Nat × Nat)) (c : Option Nat) (ez : Nat) (hcn : s ≠ [] → c = none) (h : H) (src : SrcH h a ez s) :
    ∃ h' ar cr er, callX E X (M + 13) (.fn k_ops_Split) [.slice a s.length c ez] h = some (.tup [.slice ar (spR s).1.length cr er, .int .i64 ((spR s).2 : Int)], h') ∧ Kp h h' ∧ RowF h.next h' (spR s).1 ar cr er := by
  rw [x_cfn e.sp _ _ (Nat.le_of_ble_eq_true rfl) (x.sp _ _)]
  have hg := fun h => ops_go e x (M + 11) a s.length c ez h
  obtain ⟨hA, eA⟩ : ∃ hA, (((h.new (.cells [.slice none 0 (some 0) 0] .rw)).new (.cells [.int .i64 0] .rw)).put (h.next + 1) (.cells [.int .i64 0] .rw)).new (.cells [.slice a s.length c ez] .rw) = hA := ⟨_, rfl⟩
  have nA : hA.next = h.next + 3 := by rw [← eA]; rfl
  have gA0 : hA.get h.next = some (.cells [.slice none 0 (some 0) 0] .rw) := by rw [← eA]; (simp (disch := omega) only [l_loop, l_succ, l_normal, l_normal, l_exit, l_ret, l_iteN, h_put_get, h_new_get, h_del_get, h_next_put, h_next_new, h_next_del, Nat.add_assoc, Nat.add_eq_left, Nat.left_eq_add, Nat.add_left_cancel_iff, s_load, m_load, m_load1, m_load1, m_st, m_stE, m_storeI, m_storeE, w_zero, w_succ, s_alloc, x_idxA, x_idxS, x_idxAE, x_idxSE, x_addrE, x_idx, x_lenS, s_len, x_buildS, x_buildE, x_P0, x_P1, x_fill0, x_filli, x_fills, x_fillb, c_int, List.length_cons, List.length_nil, List.cons_append, List.drop_succ_cons, List.drop_zero, List.drop_nil, List.nil_append, Int.reduceAdd, Int.reduceToNat, Int.reduceLT, Int.reduceLE, Nat.reduceAdd, Nat.reduceMul, Nat.reduceLeDiff, Int.reduceEq, Int.reduceSub, Int.cast_ofNat_Int, s_resc, s_consR, m_load4, m_store4, s_res0, decide_true, decide_false, iteN_true, iteN_false, Nat.reduceEqDiff, Nat.reduceAdd, reduceCtorEq, ]; try rfl)
  have gA1 : hA.get (h.next + 1) = some (.cells [.int .i64 0] .rw) := by rw [← eA]; (simp (disch := omega) only [l_loop, l_succ, l_normal, l_normal, l_exit, l_ret, l_iteN, h_put_get, h_new_get, h_del_get, h_next_put, h_next_new, h_next_del, Nat.add_assoc, Nat.add_eq_left, Nat.left_eq_add, Nat.add_left_cancel_iff, s_load, m_load, m_load1, m_load1, m_st, m_stE, m_storeI, m_storeE, w_zero, w_succ, s_alloc, x_idxA, x_idxS, x_idxAE, x_idxSE, x_addrE, x_idx, x_lenS, s_len, x_buildS, x_buildE, x_P0, x_P1, x_fill0, x_filli, x_fills, x_fillb, c_int, List.length_cons, List.length_nil, List.cons_append, List.drop_succ_cons, List.drop_zero, List.drop_nil, List.nil_append, Int.reduceAdd, Int.reduceToNat, Int.reduceLT, Int.reduceLE, Nat.reduceAdd, Nat.reduceMul, Nat.reduceLeDiff, Int.reduceEq, Int.reduceSub, Int.cast_ofNat_Int, s_resc, s_consR, m_load4, m_store4, s_res0, decide_true, decide_false, iteN_true, iteN_false, Nat.reduceEqDiff, Nat.reduceAdd, reduceCtorEq, ]; try rfl)
  have gA2 : hA.get (h.next + 2) = some (.cells [.slice a s.length c ez] .rw) := by rw [← eA]; (simp (disch := omega) only [l_loop, l_succ, l_normal, l_normal, l_exit, l_ret, l_iteN, h_put_get, h_new_get, h_del_get, h_next_put, h_next_new, h_next_del, Nat.add_assoc, Nat.add_eq_left, Nat.left_eq_add, Nat.add_left_cancel_iff, s_load, m_load, m_load1, m_load1, m_st, m_stE, m_storeI, m_storeE, w_zero, w_succ, s_alloc, x_idxA, x_idxS, x_idxAE, x_idxSE, x_addrE, x_idx, x_lenS, s_len, x_buildS, x_buildE, x_P0, x_P1, x_fill0, x_filli, x_fills, x_fillb, c_int, List.length_cons, List.length_nil, List.cons_append, List.drop_succ_cons, List.drop_zero, List.drop_nil, List.nil_append, Int.reduceAdd, Int.reduceToNat, Int.reduceLT, Int.reduceLE, Nat.reduceAdd, Nat.reduceMul, Nat.reduceLeDiff, Int.reduceEq, Int.reduceSub, Int.cast_ofNat_Int, s_resc, s_consR, m_load4, m_store4, s_res0, decide_true, decide_false, iteN_true, iteN_false, Nat.reduceEqDiff, Nat.reduceAdd, reduceCtorEq, ]; try rfl)
  have kA : Kp h hA := by rw [← eA]; (repeat (first | exact Kp.refl _ | refine Kp.put ?_ _ (by first | omega | (simp only [h_next_put, h_next_new, h_next_del]; omega)) | refine Kp.del ?_ (by first | omega | (simp only [h_next_put, h_next_new, h_next_del]; omega)) | refine Kp.trans ?_ (Kp.new _ _)))
  have fin : ∀ T0, evO T0 (.t 0) = .slice a s.length c ez → evO T0 (.t 4) = .ptr (some (h.next, 0)) → evO T0 (.t 5) = .ptr (some (h.next + 1, 0)) → ∃ h' ar cr er, fnEnd [.tmp 2, .tmp 3] (bindE (blockE 0 (rangeEnd (h.next + 4) T0 [h.next + 3] (callF (callX E X (M + 12)) (.yld (h.next + 4)) (.fn k_ops_operations_1 [] [.ptr (some (h.next + 2, 0))]) ((hA.new .defers).new (.loop 0 none 22 T0 [10, 11] A_ops_Split_0 B_ops_Split_0 (h.next + 3)))))) (evC (callX E X (M + 12)) 22 (M + 12) none R_ops_Split_0)) = some (.tup [.slice ar (spR s).1.length cr er, .int .i64 ((spR s).2 : Int)], h') ∧ Kp h h' ∧ RowF h.next h' (spR s).1 ar cr er := by
    intro T0 t0 t4 t5
    obtain ⟨hB, eB⟩ : ∃ hB, (hA.new .defers).new (.loop 0 none 22 T0 [10, 11] A_ops_Split_0 B_ops_Split_0 (h.next + 3)) = hB := ⟨_, rfl⟩
    have nB : hB.next = h.next + 5 := by rw [← eB]; simp only [h_next_new, nA]
    have kB : Kp hA hB := by rw [← eB]; exact (Kp.new _ _).trans (Kp.new _ _)
    have gB3 : hB.get (h.next + 3) = some .defers := by rw [← eB, h_new_ne _ _ (by rw [h_next_new, nA]; omega)]; exact h_new_same' _ _ nA
    have gB4 : hB.get (h.next + 4) = some (.loop 0 none 22 T0 [10, 11] A_ops_Split_0 B_ops_Split_0 (h.next + 3)) := by rw [← eB]; exact h_new_same' _ _ (by rw [h_next_new, nA])
    have gB0 : hB.get h.next = some (.cells [.slice none 0 (some 0) 0] .rw) := by rw [kB.2 _ (by omega), gA0]
    have gB1 : hB.get (h.next + 1) = some (.cells [.int .i64 0] .rw) := by rw [kB.2 _ (by omega), gA1]
    have gB2 : hB.get (h.next + 2) = some (.cells [.slice a s.length c ez] .rw) := by rw [kB.2 _ (by omega), gA2]
    obtain ⟨hC, r, I, nC⟩ := ops1_go e x (M + 1) hB (h.next + 4) h.next (h.next + 1) (h.next + 2) (h.next + 5) (h.next + 3) T0 t4 t5 (by omega) (by omega) (by omega) (by omega) (by omega) (by omega) (by omega) (by omega) (by omega) (by omega) s bs hs (by omega) a c ez hcn .rw gB2 (fun h2 n2 f2 => by
      rcases src with s0 | ⟨bi, off, vs, m, h1, h2', h3, h4, h5, h6⟩
      · exact .inl s0
      · exact .inr ⟨bi, off, vs, m, h1, h2', by omega, by rw [f2 _ (by omega) (by omega) (by omega) (by omega), kB.2 _ (by omega), kA.2 _ h3, h4], h5, h6⟩) ⟨⟨none, some 0, 0, gB0, .inl ⟨rfl, rfl, rfl, rfl⟩⟩, gB1, gB4, by omega, fun _ _ _ _ _ => rfl⟩
    obtain ⟨⟨ar, cr, er, gC0, row⟩, gC1, gC4, _, fr⟩ := I
    have gC3 : hC.get (h.next + 3) = some .defers := by rw [fr _ (by omega) (by omega) (by omega) (by omega), gB3]
    have z2 : (h.next + 4 = h.next + 3) = False := by simp
    have z2' : (h.next + 3 = h.next + 4) = False := by simp
    have z3 : (h.next + 4 = h.next + 1) = False := by simp
    have z4 : (h.next + 3 = h.next + 1) = False := by simp
    have z5 : (h.next + 4 = h.next) = False := by simp
    have z6 : (h.next + 3 = h.next) = False := by simp
    rw [eB]
    replace r : callX E X (M + 12) (.fn k_ops_operations_1) [.yld (h.next + 4), .ptr (some (h.next + 2, 0))] hB = some (.tup [], hC) := r
    obtain ⟨hD, eD⟩ : ∃ hD, (hC.del (h.next + 4)).del (h.next + 3) = hD := ⟨_, rfl⟩
    have nD : hD.next = hC.next := by rw [← eD]; rfl
    have fD : ∀ i, i ≠ h.next + 4 → i ≠ h.next + 3 → hD.get i = hC.get i := fun i h1 h2 => by rw [← eD, h_del_ne _ (Ne.symm h2), h_del_ne _ (Ne.symm h1)]
    have gD0 : hD.get h.next = some (.cells [.slice ar (spV s.length s).1.length cr er] .rw) := by rw [fD _ (by omega) (by omega), gC0]
    have gD1 : hD.get (h.next + 1) = some (.cells [.int .i64 ((spV s.length s).2 : Int)] .rw) := by rw [fD _ (by omega) (by omega), gC1]
    have kD : Kp h hD := ⟨by omega, fun i hi => by rw [fD _ (by omega) (by omega), fr _ (by omega) (by omega) (by omega) (by omega), kB.2 _ (by omega), kA.2 _ hi]⟩
    have rowD : RowF h.next hD (spV s.length s).1 ar cr er := by
      rcases row with r | ⟨h1, q, md, ps, e1, e2, e3, g, al, hm, hq, hl⟩
      · exact .inl r
      · exact .inr ⟨h1, q, md, ps, e1, e2, e3, by rw [fD _ (by omega) (by omega), g], al.imp (fun o p y => by
          obtain ⟨a', c', e', ep, sr, d⟩ := y
          refine ⟨a', c', e', ep, ?_, fun hl b z eq => ⟨by have := (d hl b z eq).1; omega, (d hl b z eq).2⟩⟩
          by_cases ol : o.l = []
          · exact .inl ol
          · rcases sr with s | ⟨bi, m, f1, f2, f4, f5, f3⟩
            · exact .inl s
            · exact .inr ⟨bi, m, f1, f2, by rw [fD _ (by have := (d ol bi 0 f1).1; omega) (by have := (d ol bi 0 f1).1; omega), f4], f5, by omega⟩), hm, by omega, by omega⟩
    unfold spR
    by_cases cw : (spV s.length s).2 < s.length
    · rw [if_pos cw]
      have c0 : decide (((spV s.length s).2 : Int) < (s.length : Int)) = true := decide_eq_true (by omega)
      refine ⟨hD, none, some 0, 0, ?_, kD, .inl ⟨rfl, rfl, rfl, rfl⟩⟩
      generalize (spV s.length s).2 = w at *
      generalize (spV s.length s).1 = dn at *
      generalize s.length = sl at *
      simp (config := {maxSteps := 2000000}) (disch := first | omega | (simp only [List.length_cons, List.length_nil, List.length_append, List.length_drop]; omega)) only [s_callF, List.nil_append, List.cons_append, r, t0, t4, t5, gC3, gC4, z2, z2', eD, gC0, gC1, c0, R_ops_Split_0, e_tup0, r_end, r_0, r_jn, e_ret, d_cons, d_yes, d_nil, e_some, ↓s_len, x_lenS, ↓b_xor32, ↓b_and32, ↓b_or32, ↓u_not32, b_xor32, b_and32, b_or32, u_not32, w32ad, ↓x_conv, x_convV, ↓x_fieldAddr, x_fieldV, ↓s_nilchk, x_nilchk, Nat.zero_add, Nat.add_zero, Nat.mul_one, ↓l_loop, ↓l_succ, ↓l_normal, l_normal, l_exit, l_ret, l_iteN, ↓h_put_get, ↓h_new_get, ↓h_del_get, h_next_put, h_next_new, h_next_del, Nat.add_assoc, Nat.add_eq_left, Nat.left_eq_add, Nat.add_left_cancel_iff, ↓s_load, m_load, ↓m_load1, m_load1, ↓m_st, m_stE, m_storeI, m_storeE, w_zero, w_succ, ↓s_alloc, ↓x_idxA, ↓x_idxS, x_idxAE, x_idxSE, x_addrE, x_idx, x_lenS, ↓s_len, ↓x_buildS, x_buildE, ↓x_P0, ↓x_P1, x_fill0, x_filli, x_fills, x_fillb, c_int, List.length_cons, List.length_nil, List.cons_append, List.drop_succ_cons, List.drop_zero, List.drop_nil, List.nil_append, Int.reduceAdd, Int.reduceToNat, Int.reduceLT, Int.reduceLE, Nat.reduceAdd, Nat.reduceMul, Nat.reduceLeDiff, Int.reduceEq, Int.reduceSub, Int.cast_ofNat_Int, s_resc, s_consR, m_load4, m_store4, s_res0, ↓s_skip, ↓s_ops, ↓s_dops, ↓s_seq, ↓s_cond, ↓s_block, ↓s_exit, ↓s_ret, ↓s_scope, ↓s_nil, ↓s_op, ↓s_opg, ↓s_wanted', ↓s_wantV, s_wantV, s_wantV0, beq_true, beq_false, ↓s_bindS, s_bindS, ↓s_bindE, s_bindE, s_bindE_ret, s_bindE_exit, s_bindE_iteN, s_norm, ↓s_condV, s_condV, s_block_ret, s_block_normal, s_block_exit, s_block_iteN, ↓s_getp, ↓s_getp0, ↓s_get, s_get0, ↓s_con, ↓s_fn, ↓s_os0, ↓s_os1, ↓s_list0, ↓s_list1, ↓s_mov, ↓s_pick, ↓s_pickE, s_pickE, ↓s_bin, ↓s_un, ↓s_minmax, ↓s_call, ↓s_callv, ↓s_callV, ↓s_ext, s_same, b_eql, b_neq, b_lss, b_leq, b_gtr, b_geq, b_add, b_sub, b_mul, b_eqlb, b_neqb, b_fnil, b_fnil', b_fnil2, b_fnil2', u_neg, u_not, m_two, s_end, s_end', s_end_iteN, s_res0, s_res1, s_tup1, s_tup2, ↓iteN_true, ↓iteN_false, iteN_true, iteN_false, Nat.zero_add, List.nil_append, List.append_nil, Nat.reduceEqDiff, reduceIte, decide_true, decide_false, Bool.not_true, Bool.not_false, List.getElem?_cons_zero, List.getElem?_cons_succ, Bool.false_eq_true, if_true, if_false, beq_self_eq_true]
      try rfl
    · rw [if_neg cw]
      have c0 : decide (((spV s.length s).2 : Int) < (s.length : Int)) = false := decide_eq_false (by omega)
      refine ⟨hD, ar, cr, er, ?_, kD, rowD⟩
      generalize (spV s.length s).2 = w at *
      generalize (spV s.length s).1 = dn at *
      generalize s.length = sl at *
      simp only
      generalize dn.length = dl at *
      simp (config := {maxSteps := 2000000}) (disch := first | omega | (simp only [List.length_cons, List.length_nil, List.length_append, List.length_drop]; omega)) only [s_callF, List.nil_append, List.cons_append, r, t0, t4, t5, gC3, gC4, z2, z2', eD, gC0, gC1, c0, R_ops_Split_0, e_tup0, r_end, r_0, r_jn, e_ret, d_cons, d_yes, d_nil, e_some, ↓s_len, x_lenS, ↓b_xor32, ↓b_and32, ↓b_or32, ↓u_not32, b_xor32, b_and32, b_or32, u_not32, w32ad, ↓x_conv, x_convV, ↓x_fieldAddr, x_fieldV, ↓s_nilchk, x_nilchk, Nat.zero_add, Nat.add_zero, Nat.mul_one, ↓l_loop, ↓l_succ, ↓l_normal, l_normal, l_exit, l_ret, l_iteN, ↓h_put_get, ↓h_new_get, ↓h_del_get, h_next_put, h_next_new, h_next_del, Nat.add_assoc, Nat.add_eq_left, Nat.left_eq_add, Nat.add_left_cancel_iff, ↓s_load, m_load, ↓m_load1, m_load1, ↓m_st, m_stE, m_storeI, m_storeE, w_zero, w_succ, ↓s_alloc, ↓x_idxA, ↓x_idxS, x_idxAE, x_idxSE, x_addrE, x_idx, x_lenS, ↓s_len, ↓x_buildS, x_buildE, ↓x_P0, ↓x_P1, x_fill0, x_filli, x_fills, x_fillb, c_int, List.length_cons, List.length_nil, List.cons_append, List.drop_succ_cons, List.drop_zero, List.drop_nil, List.nil_append, Int.reduceAdd, Int.reduceToNat, Int.reduceLT, Int.reduceLE, Nat.reduceAdd, Nat.reduceMul, Nat.reduceLeDiff, Int.reduceEq, Int.reduceSub, Int.cast_ofNat_Int, s_resc, s_consR, m_load4, m_store4, s_res0, ↓s_skip, ↓s_ops, ↓s_dops, ↓s_seq, ↓s_cond, ↓s_block, ↓s_exit, ↓s_ret, ↓s_scope, ↓s_nil, ↓s_op, ↓s_opg, ↓s_wanted', ↓s_wantV, s_wantV, s_wantV0, beq_true, beq_false, ↓s_bindS, s_bindS, ↓s_bindE, s_bindE, s_bindE_ret, s_bindE_exit, s_bindE_iteN, s_norm, ↓s_condV, s_condV, s_block_ret, s_block_normal, s_block_exit, s_block_iteN, ↓s_getp, ↓s_getp0, ↓s_get, s_get0, ↓s_con, ↓s_fn, ↓s_os0, ↓s_os1, ↓s_list0, ↓s_list1, ↓s_mov, ↓s_pick, ↓s_pickE, s_pickE, ↓s_bin, ↓s_un, ↓s_minmax, ↓s_call, ↓s_callv, ↓s_callV, ↓s_ext, s_same, b_eql, b_neq, b_lss, b_leq, b_gtr, b_geq, b_add, b_sub, b_mul, b_eqlb, b_neqb, b_fnil, b_fnil', b_fnil2, b_fnil2', u_neg, u_not, m_two, s_end, s_end', s_end_iteN, s_res0, s_res1, s_tup1, s_tup2, ↓iteN_true, ↓iteN_false, iteN_true, iteN_false, Nat.zero_add, List.nil_append, List.append_nil, Nat.reduceEqDiff, reduceIte, decide_true, decide_false, Bool.not_true, Bool.not_false, List.getElem?_cons_zero, List.getElem?_cons_succ, Bool.false_eq_true, if_true, if_false, beq_self_eq_true]
      try rfl
  obtain ⟨R, eR⟩ : ∃ R, R_ops_Split_0 = R := ⟨_, rfl⟩
  rw [eR] at fin ⊢
  obtain ⟨sl, esl⟩ : ∃ n, s.length = n := ⟨_, rfl⟩
  rw [esl] at hg eA fin ⊢
  simp (config := {maxSteps := 2000000}) (disch := first | omega | (simp only [List.length_cons, List.length_nil, List.length_append, List.length_drop]; omega)) only [hg, eA, nA, ↓s_box, ↓s_range, c_ptr, ↓b_xor32, ↓b_and32, ↓b_or32, ↓u_not32, b_xor32, b_and32, b_or32, u_not32, w32ad, ↓x_conv, x_convV, ↓x_fieldAddr, x_fieldV, ↓s_nilchk, x_nilchk, Nat.zero_add, Nat.add_zero, Nat.mul_one, ↓l_loop, ↓l_succ, ↓l_normal, l_normal, l_exit, l_ret, l_iteN, ↓h_put_get, ↓h_new_get, ↓h_del_get, h_next_put, h_next_new, h_next_del, Nat.add_assoc, Nat.add_eq_left, Nat.left_eq_add, Nat.add_left_cancel_iff, ↓s_load, m_load, ↓m_load1, m_load1, ↓m_st, m_stE, m_storeI, m_storeE, w_zero, w_succ, ↓s_alloc, ↓x_idxA, ↓x_idxS, x_idxAE, x_idxSE, x_addrE, x_idx, x_lenS, ↓s_len, ↓x_buildS, x_buildE, ↓x_P0, ↓x_P1, x_fill0, x_filli, x_fills, x_fillb, c_int, List.length_cons, List.length_nil, List.cons_append, List.drop_succ_cons, List.drop_zero, List.drop_nil, List.nil_append, Int.reduceAdd, Int.reduceToNat, Int.reduceLT, Int.reduceLE, Nat.reduceAdd, Nat.reduceMul, Nat.reduceLeDiff, Int.reduceEq, Int.reduceSub, Int.cast_ofNat_Int, s_resc, s_consR, m_load4, m_store4, s_res0, ↓s_skip, ↓s_ops, ↓s_dops, ↓s_seq, ↓s_cond, ↓s_block, ↓s_exit, ↓s_ret, ↓s_scope, ↓s_nil, ↓s_op, ↓s_opg, ↓s_wanted', ↓s_wantV, s_wantV, s_wantV0, beq_true, beq_false, ↓s_bindS, s_bindS, ↓s_bindE, s_bindE, s_bindE_ret, s_bindE_exit, s_bindE_iteN, s_norm, ↓s_condV, s_condV, s_block_ret, s_block_normal, s_block_exit, s_block_iteN, ↓s_getp, ↓s_getp0, ↓s_get, s_get0, ↓s_con, ↓s_fn, ↓s_os0, ↓s_os1, ↓s_list0, ↓s_list1, ↓s_mov, ↓s_pick, ↓s_pickE, s_pickE, ↓s_bin, ↓s_un, ↓s_minmax, ↓s_call, ↓s_callv, ↓s_callV, ↓s_ext, s_same, b_eql, b_neq, b_lss, b_leq, b_gtr, b_geq, b_add, b_sub, b_mul, b_eqlb, b_neqb, b_fnil, b_fnil', b_fnil2, b_fnil2', u_neg, u_not, m_two, s_end, s_end', s_end_iteN, s_res0, s_res1, s_tup1, s_tup2, ↓iteN_true, ↓iteN_false, iteN_true, iteN_false, Nat.zero_add, List.nil_append, List.append_nil, Nat.reduceEqDiff, reduceIte, decide_true, decide_false, Bool.not_true, Bool.not_false, List.getElem?_cons_zero, List.getElem?_cons_succ, Bool.false_eq_true, if_true, if_false, beq_self_eq_true]
  exact fin _ (by (simp only [s_getp, s_getp0, Nat.reduceEqDiff, decide_false, decide_true, iteN_false, iteN_true, nA]; try rfl)) (by (simp only [s_getp, s_getp0, Nat.reduceEqDiff, decide_false, decide_true, iteN_false, iteN_true, nA]; try rfl)) (by (simp only [s_getp, s_getp0, Nat.reduceEqDiff, decide_false, decide_true, iteN_false, iteN_true, nA]; try rfl))
end Go.Eng
