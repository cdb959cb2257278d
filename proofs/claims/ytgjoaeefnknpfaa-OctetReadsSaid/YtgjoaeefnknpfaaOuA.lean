/- What functions of the program come to: own work. -/
import Derived.Test.YtgjoaeefnknpfaaOcA
namespace Go.Eng
open Go
variable {E : Nat → Option Fn} {X : Orc}
set_option linter.unusedSimpArgs false
set_option linter.unusedVariables false
noncomputable def alX (k : Nat) : Orc := pureX k aliveS
theorem al_wid : NoWid (alX k_purserlaw01_alive) := ⟨fun _ _ => rfl, fun _ _ => rfl, fun _ _ => rfl, fun _ _ _ => rfl⟩
theorem al_put : NoPut (alX k_purserlaw01_alive) := ⟨fun _ _ => rfl, al_wid⟩
theorem al_fix : NoFix (alX k_purserlaw01_alive) := ⟨fun _ _ => rfl, fun _ _ => rfl, al_put⟩
theorem al_size : NoSize (alX k_purserlaw01_alive) := ⟨fun _ _ => rfl, fun _ _ => rfl, fun _ _ => rfl, al_put⟩
theorem al_eye : NoEye (alX k_purserlaw01_alive) := ⟨fun _ _ => rfl, fun _ _ => rfl, fun _ _ => rfl, fun _ _ => rfl, fun _ _ => rfl, fun _ _ => rfl, fun _ _ => rfl, fun _ _ => rfl, fun _ _ => rfl, fun _ _ => rfl, fun _ _ => rfl, fun _ _ => rfl, fun _ _ => rfl, al_wid⟩
structure EnPen (E : Nat → Option Fn) : Prop where
  fi : EnFix E
  si : EnSize E
  by_ : E k_octet_Pen_Bytes = some f_octet_Pen_Bytes
  rw_ : E k_octet_Pen_Raw = some f_octet_Pen_Raw
  al : E k_octet_Pen_All = some f_octet_Pen_All
end Go.Eng
namespace Go.Eng
open Go
variable {E : Nat → Option Fn} {X : Orc}
set_option linter.unusedSimpArgs false
set_option linter.unusedVariables false
/-! arguments of any shape, as read-only blocks -/
structure LayB (bl : List (Nat × List V)) (lo hi : Nat) : Prop where
  le : lo ≤ hi
  rg : ∀ x ∈ bl, lo ≤ x.1 ∧ x.1 < hi
  nd : (bl.map (·.1)).Nodup
theorem LayB.nil (lo : Nat) : LayB [] lo lo := ⟨Nat.le_refl _, (fun x hx => by cases hx), List.nodup_nil⟩
theorem LayB.up {bl : List (Nat × List V)} {lo hi hi' : Nat} (b : LayB bl lo hi) (h : hi ≤ hi') : LayB bl lo hi' := ⟨Nat.le_trans b.le h, fun x hx => ⟨(b.rg x hx).1, Nat.lt_of_lt_of_le (b.rg x hx).2 h⟩, b.nd⟩
theorem LayB.app {a b : List (Nat × List V)} {x y z : Nat} (ha : LayB a x y) (hb : LayB b y z) : LayB (a ++ b) x z := by
  refine ⟨Nat.le_trans ha.le hb.le, fun q hq => ?_, ?_⟩
  · rcases List.mem_append.1 hq with h | h
    · exact ⟨(ha.rg q h).1, Nat.lt_of_lt_of_le (ha.rg q h).2 hb.le⟩
    · exact ⟨Nat.le_trans ha.le (hb.rg q h).1, (hb.rg q h).2⟩
  · rw [List.map_append, List.nodup_append]
    refine ⟨ha.nd, hb.nd, fun p hp q hq e => ?_⟩
    obtain ⟨u, hu, rfl⟩ := List.mem_map.1 hp
    obtain ⟨v, hv, rfl⟩ := List.mem_map.1 hq
    have := (ha.rg u hu).2
    have := (hb.rg v hv).1
    omega
theorem LayB.one {b : List (Nat × List V)} {lo hi : Nat} (v : List V) (hb : LayB b (lo + 1) hi) : LayB ((lo, v) :: b) lo hi := by
  have h1 : LayB [(lo, v)] lo (lo + 1) := ⟨by omega, (fun x hx => by rcases List.mem_singleton.1 hx with rfl; exact ⟨Nat.le_refl _, Nat.lt_succ_self _⟩), by simp⟩
  exact h1.app hb
/-- blocks that are there -/
def Has (h : H) (bl : List (Nat × List V)) : Prop := ∀ x ∈ bl, h.get x.1 = some (.cells x.2 .ro) ∧ x.1 < h.next
theorem Has.l {h : H} {a b : List (Nat × List V)} (x : Has h (a ++ b)) : Has h a := fun y hy => x y (List.mem_append_left _ hy)
theorem Has.r {h : H} {a b : List (Nat × List V)} (x : Has h (a ++ b)) : Has h b := fun y hy => x y (List.mem_append_right _ hy)
theorem mkB_skip' : ∀ (bl : List (Nat × List V)) (r : List (Nat × List V)) (i : Nat), (∀ x ∈ bl, x.1 ≠ i) → (mkB (bl ++ r)).get i = (mkB r).get i := by
  intro bl
  induction bl with
  | nil => intro r i _; rfl
  | cons x s ih =>
    intro r i h
    show ((mkB (s ++ r)).set x.1 _).get i = _
    rw [Tr.get_set, if_neg (h x (List.mem_cons_self ..)), ih r i (fun y hy => h y (List.mem_cons_of_mem _ hy))]
theorem has_mk {bl : List (Nat × List V)} {lo nx : Nat} (b : LayB bl lo nx) : Has (mkH bl nx) bl := by
  intro x hx
  refine ⟨?_, (b.rg x hx).2⟩
  obtain ⟨s, t, rfl⟩ := List.append_of_mem hx
  show (mkB (s ++ x :: t)).get x.1 = _
  have nd := b.nd
  rw [List.map_append, List.nodup_append] at nd
  rw [mkB_skip' _ _ _ (fun y hy e => nd.2.2 y.1 (List.mem_map.2 ⟨y, hy, rfl⟩) x.1 (by simp) e)]
  show ((mkB t).set x.1 _).get x.1 = _
  rw [Tr.get_set, if_pos rfl]
/-- a reading: cells, and what is said of them where the blocks are there -/
def Rd (r : Nat → Option Abs) (R : H → List V → Prop) : Prop := ∀ nx, ∃ vs bl n1, r nx = some (vs, bl, n1) ∧ LayB bl nx n1 ∧ ∀ h, Has h bl → R h vs
inductive Al2 {α β : Type} (p : α → β → Prop) : List α → List β → Prop where
  | nil : Al2 p [] []
  | cons {a : α} {b : β} {as : List α} {bs : List β} : p a b → Al2 p as bs → Al2 p (a :: as) (b :: bs)
theorem Al2.len {α β : Type} {p : α → β → Prop} {as : List α} {bs : List β} (h : Al2 p as bs) : as.length = bs.length := by
  induction h with
  | nil => rfl
  | cons _ _ ih => simp [ih]
theorem Al2.imp {α β : Type} {p q : α → β → Prop} {as : List α} {bs : List β} (h : Al2 p as bs) (i : ∀ a b, p a b → q a b) : Al2 q as bs := by
  induction h with
  | nil => exact .nil
  | cons h _ ih => exact .cons (i _ _ h) ih
theorem Al2.get {α β : Type} {p : α → β → Prop} {as : List α} {bs : List β} (h : Al2 p as bs) : ∀ (i : Nat) (a : α), as[i]? = some a → ∃ b, bs[i]? = some b ∧ p a b := by
  induction h with
  | nil => intro i a h; simp at h
  | cons h1 _ ih =>
    intro i a h
    cases i with
    | zero => simp at h; subst h; exact ⟨_, rfl, h1⟩
    | succ i => simp at h; simpa using ih i a h
theorem Al2.comp {α β γ : Type} {p : α → β → Prop} {q : α → γ → Prop} {r : β → γ → Prop} {as : List α} {bs : List β} {cs : List γ} (h : Al2 p as bs) (k : Al2 q as cs) (f : ∀ a b c, p a b → q a c → r b c) : Al2 r bs cs := by
  induction h generalizing cs with
  | nil => cases k; exact .nil
  | cons h1 _ ih => cases k with | cons k1 k2 => exact .cons (f _ _ _ h1 k1) (ih k2)
theorem al2_map {α β γ : Type} {p : γ → β → Prop} (f : α → γ) {as : List α} {bs : List β} : Al2 (fun a b => p (f a) b) as bs → Al2 p (as.map f) bs := by
  intro h
  induction h with
  | nil => exact .nil
  | cons h _ ih => exact .cons h ih
theorem gather {α β : Type} {p : α → β → Prop} : ∀ (as : List α), (∀ a ∈ as, ∃ b, p a b) → ∃ bs, Al2 p as bs := by
  intro as
  induction as with
  | nil => intro _; exact ⟨[], .nil⟩
  | cons a as ih =>
    intro h
    obtain ⟨b, hb⟩ := h a (List.mem_cons_self ..)
    obtain ⟨bs, hbs⟩ := ih (fun x hx => h x (List.mem_cons_of_mem _ hx))
    exact ⟨b :: bs, .cons hb hbs⟩
theorem rd_list {α : Type} {r : α → Nat → Option Abs} {ds : List α} {Rs : List (H → List V → Prop)} (a : Al2 (fun d R => Rd (r d) R) ds Rs) : Rd (absL r ds) (fun h vs => ∃ parts, vs = parts.flatten ∧ Al2 (fun R p => R h p) Rs parts) := by
  induction a with
  | nil => intro nx; exact ⟨[], [], nx, rfl, .nil _, fun h _ => ⟨[], rfl, .nil⟩⟩
  | cons h1 _ ih =>
    intro nx
    obtain ⟨vs, bl, n1, e1, l1, k1⟩ := h1 nx
    obtain ⟨vs2, bl2, n2, e2, l2, k2⟩ := ih n1
    refine ⟨vs ++ vs2, bl ++ bl2, n2, by simp only [absL, e1, e2], l1.app l2, fun h hh => ?_⟩
    obtain ⟨ps, e, al⟩ := k2 h hh.r
    exact ⟨vs :: ps, by rw [e]; rfl, .cons (k1 h hh.l) al⟩
section
variable {Hh : Type} {enc : TypeId × Value → Hh} {P : Program} {W : World} {spare : Nat → Bool} {held : Bool} {base : Nat}
theorem rd_int (n : Nat) {t : TypeId} {k : IntKind} (hu : P.underlying t = some (.int k)) (x : Int) : Rd (absD (H := Hh) P (n + 1) t (.lit (.int k x))) (fun _ vs => vs = [.int k x]) := fun nx => ⟨_, [], nx, by simp only [absD, hu], .nil _, fun _ _ => rfl⟩
theorem rd_boolD (n : Nat) {t : TypeId} (hu : P.underlying t = some .bool) (x : Bool) : Rd (absD (H := Hh) P (n + 1) t (.lit (.bool x))) (fun _ vs => vs = [.bool x]) := fun nx => ⟨_, [], nx, by simp only [absD, hu], .nil _, fun _ _ => rfl⟩
theorem rd_struct (n : Nat) {t : TypeId} {fs : Array Field} (hu : P.underlying t = some (.struct fs)) (ds : List (DataW Hh)) (hl : fs.size = ds.length) {Rs : List (H → List V → Prop)} (a : Al2 (fun (x : Field × DataW Hh) R => Rd (absD P n x.1.type x.2) R) (fs.toList.zip ds) Rs) : Rd (absD P (n + 1) t (.agg ds)) (fun h vs => ∃ parts, vs = parts.flatten ∧ Al2 (fun R p => R h p) Rs parts) := by
  intro nx
  obtain ⟨vs, bl, n1, e, l, k⟩ := rd_list a nx
  refine ⟨vs, bl, n1, ?_, l, k⟩
  unfold absD
  rw [hu]
  simp only [hl, if_true]
  exact e
theorem rd_nil (n : Nat) {t e : TypeId} (hu : P.underlying t = some (.slice e)) : Rd (absD (H := Hh) P (n + 1) t .nil) (fun _ vs => vs = [.slice none 0 none (P.cellsOf e)]) := fun nx => ⟨_, [], nx, by simp only [absD, hu], .nil _, fun _ _ => rfl⟩
theorem rd_slice (n : Nat) {t e : TypeId} (hu : P.underlying t = some (.slice e)) (A B : List (DataW Hh)) {Rs : List (H → List V → Prop)} (a : Al2 (fun d R => Rd (absD P n e d) R) A Rs) :
    Rd (absD P (n + 1) t (.slice A B)) (fun h vs => ∃ ad parts, vs = [.slice ad A.length none (P.cellsOf e)] ∧ Al2 (fun R p => R h p) Rs parts ∧ (A = [] ∨ ∃ k, ad = some (k, 0) ∧ k < h.next ∧ h.get k = some (.cells parts.flatten .ro))) := by
  intro nx
  obtain ⟨vs, bl, n1, e1, l, k⟩ := rd_list a (nx + 1)
  cases hn : A.length + B.length with
  | zero =>
    have h0 : A = [] := List.length_eq_zero_iff.1 (by omega)
    subst h0
    cases a
    refine ⟨_, [], n1, ?_, ⟨by have := l.le; omega, (fun x hx => by cases hx), List.nodup_nil⟩, fun h _ => ⟨some (nx, 0), [], rfl, .nil, .inl rfl⟩⟩
    rw [absD_slc' n hu, e1]
    simp only [hn]
    rfl
  | succ m =>
    refine ⟨[.slice (some (nx, 0)) A.length none (P.cellsOf e)], (nx, vs) :: bl, n1, ?_, l.one vs, fun h hh => ?_⟩
    · rw [absD_slc' n hu, e1]
      simp only [hn]
    · obtain ⟨ps, ev, al⟩ := k h (fun x hx => hh x (List.mem_cons_of_mem _ hx))
      obtain ⟨g, gl⟩ := hh (nx, vs) (List.mem_cons_self ..)
      exact ⟨some (nx, 0), ps, rfl, al, .inr ⟨nx, rfl, gl, by rw [← ev]; exact g⟩⟩
/-- bytes -/
def BytR (l : List Nat) (h : H) (vs : List V) : Prop := ∃ a, vs = [.slice a l.length none 1] ∧ SrcH h a 1 l
theorem trod_u8s' {t e : TypeId} (ht : P.underlying t = some (.slice e)) (he : P.underlying e = some (.int .u8)) (hc : P.cellsOf e = 1) {f : Nat} {cs : List Value} {x : DataW Hh × List MemPlace} (h : DataW.trod enc P W base spare held f t cs = some x) :
    ∃ l : List Nat, byt l = true ∧ (P.bytesOf e = 1 → ∀ B, (∀ n ∈ x.1.weights P t, n ≤ B) → l.length ≤ B) ∧ ∀ n, Rd (absD P (n + 2) t x.1) (BytR l) := by
  have go : ∀ (ys : List (DataW Hh × List MemPlace)), (∀ y ∈ ys, ∃ (g : Nat) (c : List Value), DataW.trod enc P W base spare held g e c = some y) → ∃ l : List Nat, byt l = true ∧ ys.map (·.1) = l.map (fun (z : Nat) => DataW.lit (.int .u8 (z : Int))) := by
    intro ys
    induction ys with
    | nil => intro _; exact ⟨[], rfl, rfl⟩
    | cons y r ih =>
      intro hy
      obtain ⟨l, b, e1⟩ := ih (fun z hz => hy z (List.mem_cons_of_mem _ hz))
      obtain ⟨g, c, hg⟩ := hy y (List.mem_cons_self ..)
      obtain ⟨n, _, e2, w⟩ := DataW.trod_int he hg
      simp [Lit.wf, IntKind.min, IntKind.max, IntKind.signed, IntKind.bits] at w
      obtain ⟨z, rfl⟩ := Int.eq_ofNat_of_zero_le w.1
      refine ⟨z :: l, ?_, by rw [List.map_cons, List.map_cons, e1, e2]⟩
      rw [byt_iff] at b ⊢
      intro q hq
      rcases List.mem_cons.1 hq with rfl | hq
      · have := w.2; omega
      · exact b q hq
  have lits : ∀ (l : List Nat) (n : Nat), Rd (absL (absD (H := Hh) P (n + 1) e) (l.map (fun (z : Nat) => DataW.lit (.int .u8 (z : Int))))) (fun _ vs => vs = ofI .u8 l) := by
    intro l n
    induction l with
    | nil => intro nx; exact ⟨[], [], nx, rfl, .nil _, fun _ _ => rfl⟩
    | cons y r ih =>
      intro nx
      obtain ⟨vs, bl, n1, e1, l1, k1⟩ := rd_int (Hh := Hh) n he (y : Int) nx
      obtain ⟨vs2, bl2, n2, e2, l2, k2⟩ := ih n1
      refine ⟨vs ++ vs2, bl ++ bl2, n2, by rw [List.map_cons]; simp only [absL, e1, e2], l1.app l2, fun h hh => ?_⟩
      rw [k1 h hh.l, k2 h hh.r]; rfl
  rcases DataW.trod_slice ht h with ⟨_, hx⟩ | ⟨ad, len, cap, elems, rest, n, _, _, hx, _, _, _, hl, hi, _, _⟩
  · refine ⟨[], rfl, (fun _ _ _ => Nat.zero_le _), fun n nx => ?_⟩
    rw [hx]
    obtain ⟨vs, bl, n1, e1, l1, k1⟩ := rd_nil (Hh := Hh) (n + 1) ht nx
    exact ⟨vs, bl, n1, e1, l1, fun h hh => ⟨none, by rw [k1 h hh, hc]; rfl, .inl rfl⟩⟩
  · obtain ⟨l, b, el⟩ := go elems (fun y hy => by
      obtain ⟨i, hi1, hi2⟩ := List.getElem_of_mem hy
      have hi3 : elems[i]? = some y := by rw [List.getElem?_eq_getElem hi1, hi2]
      have h4 := (hi i (by omega)).trans hi3
      simp only [Option.bind_eq_some_iff] at h4
      obtain ⟨cs, _, h5⟩ := h4
      exact ⟨_, _, h5⟩)
    refine ⟨l, b, fun hby B hB => ?_, fun n nx => ?_⟩
    · have ll : (elems.map (·.1)).length = l.length := by rw [el, List.length_map]
      have := hB (((elems.map (·.1)).length + (rest.map (·.1)).length) * P.bytesOf e) (by rw [hx]; simp [DataW.weights, ht])
      rw [hby] at this; omega
    rw [hx]
    show ∃ vs bl n1, absD P (n + 2) t (.slice (elems.map (·.1)) (rest.map (·.1))) nx = _ ∧ _
    obtain ⟨vs, bl, n1, e1, l1, k1⟩ := lits l n (nx + 1)
    have ll : (elems.map (·.1)).length = l.length := by rw [el, List.length_map]
    rw [← el] at e1
    cases hn : (elems.map (·.1)).length + (rest.map (·.1)).length with
    | zero =>
      have h0 : l = [] := List.length_eq_zero_iff.1 (by omega)
      refine ⟨[.slice (some (nx, 0)) 0 none 1], [], n1, ?_, ⟨by have := l1.le; omega, (fun x hx => by cases hx), List.nodup_nil⟩, fun h _ => ⟨some (nx, 0), by rw [h0]; rfl, .inl h0⟩⟩
      rw [absD_slc' (n + 1) ht, e1]
      simp only [hn, hc]
    | succ m =>
      refine ⟨[.slice (some (nx, 0)) (elems.map (·.1)).length none 1], (nx, vs) :: bl, n1, ?_, l1.one vs, fun h hh => ⟨some (nx, 0), by rw [← ll], ?_⟩⟩
      · rw [absD_slc' (n + 1) ht, e1]
        simp only [hn, hc]
      · obtain ⟨g, gl⟩ := hh (nx, vs) (List.mem_cons_self ..)
        have ev := k1 h (fun x hx => hh x (List.mem_cons_of_mem _ hx))
        simp only at g gl
        rw [ev] at g
        exact .inr ⟨nx, 0, _, .ro, rfl, rfl, gl, g, by rw [ofI_len]; omega, by rw [List.drop_zero]; exact List.take_of_length_le (by rw [ofI_len]; exact Nat.le_refl _)⟩
end
/-- cells in pieces of k -/
theorem flat_len {k : Nat} : ∀ {ps : List (List V)}, (∀ p ∈ ps, p.length = k) → ps.flatten.length = ps.length * k := by
  intro ps
  induction ps with
  | nil => intro _; simp
  | cons p r ih => intro h; rw [List.flatten_cons, List.length_append, ih (fun q hq => h q (List.mem_cons_of_mem _ hq)), h p (List.mem_cons_self ..), List.length_cons, Nat.succ_mul]; omega
theorem flat_get {k : Nat} : ∀ {ps : List (List V)}, (∀ p ∈ ps, p.length = k) → ∀ (i : Nat) (p : List V), ps[i]? = some p → (ps.flatten.drop (i * k)).take k = p := by
  intro ps
  induction ps with
  | nil => intro _ i p h; simp at h
  | cons q r ih =>
    intro h i p hp
    have hq := h q (List.mem_cons_self ..)
    cases i with
    | zero => simp at hp; subst hp; rw [Nat.zero_mul, List.drop_zero, List.flatten_cons, List.take_left' hq]
    | succ i =>
      rw [List.flatten_cons, Nat.succ_mul, Nat.add_comm, ← List.drop_drop, List.drop_left' hq]
      exact ih (fun x hx => h x (List.mem_cons_of_mem _ hx)) i p (by simpa using hp)
theorem flat_cell {k : Nat} {ps : List (List V)} (hk : ∀ p ∈ ps, p.length = k) (i : Nat) (p : List V) (hp : ps[i]? = some p) (j : Nat) (hj : j < k) : ps.flatten[i * k + j]? = p[j]? := by
  have := flat_get hk i p hp
  rw [← this, List.getElem?_take_of_lt hj, List.getElem?_drop]
end Go.Eng
namespace Go.Eng
open Go
set_option linter.unusedSimpArgs false
set_option linter.unusedVariables false
structure OpP where
  kind : Int
  size : Int
  n : Nat
  l : List Nat
structure OpP.ok (o : OpP) : Prop where
  s0 : -9223372036854775808 ≤ o.size
  s1 : o.size < 9223372036854775808
  nl : o.n < 18446744073709551616
  bl : byt o.l = true
def opC (o : OpP) (a : Option (Nat × Nat)) : List V := [.int .i64 o.kind, .int .i64 o.size, .int .u64 (o.n : Int), .slice a o.l.length none 1]
def OpAt (h : H) (o : OpP) (p : List V) : Prop := ∃ a, p = opC o a ∧ SrcH h a 1 o.l
/-- a row of calls -/
def OpsH (h : H) (a : Option (Nat × Nat)) (ops : List OpP) : Prop := ∃ parts, Al2 (OpAt h) ops parts ∧ (ops = [] ∨ ∃ k md, a = some (k, 0) ∧ k < h.next ∧ h.get k = some (.cells parts.flatten md))
def OpsR (ops : List OpP) (h : H) (vs : List V) : Prop := ∃ a, vs = [.slice a ops.length none 4] ∧ OpsH h a ops
theorem xs4 {α : Type} {xs : List α} (h : xs.length = 4) : ∃ a b c d, xs = [a, b, c, d] := by
  match xs, h with
  | [a, b, c, d], _ => exact ⟨a, b, c, d, rfl⟩
section
variable {Hh : Type} {enc : TypeId × Value → Hh} {P : Program} {W : World} {spare : Nat → Bool} {held : Bool} {base : Nat}
theorem trod_ops {t e eb : TypeId} {f0 f1 f2 f3 : Field} (ht : P.underlying t = some (.slice e)) (he : P.underlying e = some (.struct #[f0, f1, f2, f3])) (h0 : P.underlying f0.type = some (.int .i64)) (h1 : P.underlying f1.type = some (.int .i64)) (h2 : P.underlying f2.type = some (.int .u64)) (h3 : P.underlying f3.type = some (.slice eb)) (hb : P.underlying eb = some (.int .u8)) (hc : P.cellsOf eb = 1) (hce : P.cellsOf e = 4)
    {v : Value} {d : DataW Hh} {p : List MemPlace} (h : DataW.Trod enc P W base spare held t v d p) :
    ∃ ops : List OpP, (∀ o ∈ ops, o.ok) ∧ (P.bytesOf e = 48 → P.bytesOf eb = 1 → ∀ B, (∀ n ∈ d.weights P t, n ≤ B) → ops.length ≤ B ∧ ∀ o ∈ ops, o.l.length ≤ B) ∧ ∀ n, Rd (absD P (n + 4) t d) (OpsR ops) := by
  have one : ∀ (g : Nat) (cs : List Value) (x : DataW Hh × List MemPlace), DataW.trod enc P W base spare held g e cs = some x → ∃ o : OpP, (o.ok ∧ (P.bytesOf eb = 1 → ∀ B, (∀ n ∈ x.1.weights P e, n ≤ B) → o.l.length ≤ B)) ∧ ∀ n, Rd (absD P (n + 3) e x.1) (fun h vs => OpAt h o vs) := by
    intro g cs x hx
    obtain ⟨xs, m, _, rfl, _, hl, hf⟩ := DataW.trod_struct he hx
    obtain ⟨x0, x1, x2, x3, rfl⟩ := xs4 hl
    obtain ⟨k, _, e0, _⟩ := DataW.trod_int h0 (hf 0 f0 rfl)
    obtain ⟨s, _, e1, w1⟩ := DataW.trod_int h1 (hf 1 f1 rfl)
    obtain ⟨nn, _, e2, w2⟩ := DataW.trod_int h2 (hf 2 f2 rfl)
    obtain ⟨l, bl, wt, r3⟩ := trod_u8s' h3 hb hc (hf 3 f3 rfl)
    simp [Lit.wf, IntKind.min, IntKind.max, IntKind.signed, IntKind.bits] at w1 w2
    obtain ⟨n, rfl⟩ := Int.eq_ofNat_of_zero_le w2.1
    refine ⟨⟨k, s, n, l⟩, ⟨⟨w1.1, by have := w1.2; show s < _; omega, by have := w2.2; show n < _; omega, bl⟩, fun h1' B hB => wt h1' B (fun m hm => hB m ?_)⟩, fun j => ?_⟩
    · show m ∈ DataW.weights P e (.agg [x0.1, x1.1, x2.1, x3.1])
      simp only [DataW.weights, he, List.map_cons, List.map_nil, DataW.weightsEach, List.mem_append]
      exact .inr (.inr (.inr (.inl hm)))
    have hz := rd_struct (Hh := Hh) (j + 2) he [x0.1, x1.1, x2.1, x3.1] rfl (Rs := [_, _, _, _]) (.cons (by rw [e0]; exact rd_int (j + 1) h0 k) (.cons (by rw [e1]; exact rd_int (j + 1) h1 s) (.cons (by rw [e2]; exact rd_int (j + 1) h2 (n : Int)) (.cons (r3 j) .nil))))
    intro nx
    obtain ⟨vs, bls, n1, q1, q2, q3⟩ := hz nx
    refine ⟨vs, bls, n1, q1, q2, fun h hh => ?_⟩
    obtain ⟨parts, rfl, al⟩ := q3 h hh
    cases al with | cons a0 al => cases al with | cons a1 al => cases al with | cons a2 al => cases al with | cons a3 al =>
    cases al
    obtain ⟨a, e3, sr⟩ := a3
    exact ⟨a, by rw [a0, a1, a2, e3]; rfl, sr⟩
  obtain ⟨f, hf⟩ := h
  rcases DataW.trod_slice ht hf with ⟨_, hx⟩ | ⟨ad, len, cap, elems, rest, n, _, _, hx, _, _, _, hl, hi, _, _⟩
  · have hd : d = .nil := congrArg Prod.fst hx
    subst hd
    refine ⟨[], (fun o ho => by cases ho), (fun _ _ _ _ => ⟨Nat.zero_le _, fun o ho => by cases ho⟩), fun n nx => ?_⟩
    obtain ⟨vs, bl, n1, e1, l1, k1⟩ := rd_nil (Hh := Hh) (n + 3) ht nx
    exact ⟨vs, bl, n1, e1, l1, fun h hh => ⟨none, by rw [k1 h hh, hce]; rfl, [], .nil, .inl rfl⟩⟩
  · have hd : d = .slice (elems.map (·.1)) (rest.map (·.1)) := congrArg Prod.fst hx
    obtain ⟨ops, al⟩ := gather (p := fun (x : DataW Hh × List MemPlace) (o : OpP) => (o.ok ∧ (P.bytesOf eb = 1 → ∀ B, (∀ n ∈ x.1.weights P e, n ≤ B) → o.l.length ≤ B)) ∧ ∀ n, Rd (absD P (n + 3) e x.1) (fun h vs => OpAt h o vs)) elems (fun y hy => by
      obtain ⟨i, hi1, hi2⟩ := List.getElem_of_mem hy
      have hi3 : elems[i]? = some y := by rw [List.getElem?_eq_getElem hi1, hi2]
      have h4 := (hi i (by omega)).trans hi3
      simp only [Option.bind_eq_some_iff] at h4
      obtain ⟨cs, _, h5⟩ := h4
      exact one _ _ _ h5)
    refine ⟨ops, fun o ho => ?_, fun h48 hb1 B hB => ?_, fun n nx => ?_⟩
    · clear hl hi hx hd hf
      induction al with
      | nil => cases ho
      | cons h1 _ ih => rcases List.mem_cons.1 ho with rfl | ho
                        · exact h1.1.1
                        · exact ih ho
    · have hB' : ∀ n ∈ ((elems.map (·.1)).length + (rest.map (·.1)).length) * P.bytesOf e :: DataW.weightsAll P e (elems.map (·.1)), n ≤ B := by
        intro n hn
        apply hB n
        rw [hd]
        simp only [DataW.weights, ht, List.mem_cons, List.mem_append] at hn ⊢
        rcases hn with h | h
        · exact .inl h
        · exact .inr (.inl h)
      refine ⟨?_, fun o ho => ?_⟩
      · have := hB' _ (List.mem_cons_self ..)
        rw [h48, List.length_map, al.len] at this; omega
      · have hB2 : ∀ n ∈ DataW.weightsAll P e (elems.map (·.1)), n ≤ B := fun n hn => hB' n (List.mem_cons_of_mem _ hn)
        clear hl hi hx hd hf hB hB'
        induction al with
        | nil => cases ho
        | cons h1 _ ih =>
          simp only [List.map_cons, DataW.weightsAll, List.mem_append] at hB2
          rcases List.mem_cons.1 ho with rfl | ho
          · exact h1.1.2 hb1 B (fun n hn => hB2 n (.inl hn))
          · exact ih ho (fun n hn => hB2 n (.inr hn))
    · have al2 : Al2 (fun (dd : DataW Hh) R => Rd (absD P (n + 3) e dd) R) (elems.map (·.1)) (ops.map (fun o h vs => OpAt h o vs)) := by
        clear hl hi hx hd hf
        induction al with
        | nil => exact .nil
        | cons h1 _ ih => exact .cons (h1.2 n) ih
      obtain ⟨vs, bl, n1, e1, l1, k1⟩ := rd_slice (Hh := Hh) (n + 3) ht (elems.map (·.1)) (rest.map (·.1)) al2 nx
      rw [hd]
      refine ⟨vs, bl, n1, e1, l1, fun h hh => ?_⟩
      obtain ⟨ad2, parts, ev, al3, t⟩ := k1 h hh
      have le : (elems.map (·.1)).length = ops.length := by rw [List.length_map]; exact al.len
      refine ⟨ad2, by rw [ev, le, hce], parts, ?_, ?_⟩
      · have conv : ∀ (os : List OpP) (ps : List (List V)), Al2 (fun (R : H → List V → Prop) p => R h p) (os.map (fun o h vs => OpAt h o vs)) ps → Al2 (OpAt h) os ps := by
          intro os
          induction os with
          | nil => intro ps a; cases a; exact .nil
          | cons o os ih => intro ps a; cases a with | cons a1 a2 => exact .cons a1 (ih _ a2)
        exact conv _ _ al3
      · rcases t with t | ⟨k, t1, t2, t3⟩
        · left
          rw [t] at le
          exact List.length_eq_zero_iff.1 le.symm
        · exact .inr ⟨k, .ro, t1, t2, t3⟩
end
theorem OpAt.mono {h h' : H} {o : OpP} {p : List V} (x : OpAt h o p) (k : Kp h h') : OpAt h' o p := by
  obtain ⟨a, e, s⟩ := x
  exact ⟨a, e, s.mono k⟩
theorem OpAt.len {h : H} {o : OpP} {p : List V} (x : OpAt h o p) : p.length = 4 := by
  obtain ⟨a, rfl, s⟩ := x; rfl
theorem al_len {h : H} {ops : List OpP} {parts : List (List V)} (al : Al2 (OpAt h) ops parts) : ∀ p ∈ parts, p.length = 4 := by
  induction al with
  | nil => intro p hp; cases hp
  | cons h1 _ ih => intro p hp; rcases List.mem_cons.1 hp with rfl | hp
                    · exact h1.len
                    · exact ih p hp
theorem OpsH.mono {h h' : H} {a : Option (Nat × Nat)} {ops : List OpP} (x : OpsH h a ops) (k : Kp h h') : OpsH h' a ops := by
  obtain ⟨parts, al, t⟩ := x
  refine ⟨parts, al.imp (fun o p h => h.mono k), ?_⟩
  rcases t with t | ⟨b, md, t1, t2, t3⟩
  · exact .inl t
  · exact .inr ⟨b, md, t1, Nat.lt_of_lt_of_le t2 k.1, by rw [k.2 _ t2, t3]⟩
/-- the i-th of them: where it lies, and its cells -/
theorem OpsH.at {h : H} {a : Option (Nat × Nat)} {ops : List OpP} (x : OpsH h a ops) (i : Nat) (o : OpP) (ho : ops[i]? = some o) : ∃ k md vs b, a = some (k, 0) ∧ k < h.next ∧ h.get k = some (.cells vs md) ∧ vs.length = ops.length * 4 ∧ (vs.drop (i * 4)).take 4 = opC o b ∧ vs[i * 4 + 3]? = some (.slice b o.l.length none 1) ∧ SrcH h b 1 o.l := by
  obtain ⟨parts, al, t⟩ := x
  obtain ⟨p, hp, b, rfl, s⟩ := al.get i o ho
  rcases t with t | ⟨k, md, t1, t2, t3⟩
  · rw [t] at ho; simp at ho
  · exact ⟨k, md, _, b, t1, t2, t3, by rw [flat_len (al_len al), al.len], flat_get (al_len al) i _ hp, by rw [flat_cell (al_len al) i _ hp 3 (by omega)]; rfl, s⟩
end Go.Eng
namespace Go.Eng
open Go
variable {E : Nat → Option Fn} {X : Orc}
set_option linter.unusedSimpArgs false
set_option linter.unusedVariables false
/-! statements over rows of calls -/
def opOk (o : OpP) : Bool := if o.kind = 0 then decide (fixE o.size o.n = 0) else true
def opB (o : OpP) : List Nat := if o.kind = 0 then fixB o.size o.n else if o.kind = 1 then sizV o.n else if o.kind = 2 then sizV o.l.length ++ o.l else o.l
def gs : List OpP → Nat
  | [] => 0
  | o :: r => o.l.length + gs r
theorem gs_take (ops : List OpP) (i : Nat) (o : OpP) (h : ops[i]? = some o) : gs (ops.take (i + 1)) = gs (ops.take i) + o.l.length := by
  induction ops generalizing i with
  | nil => simp at h
  | cons a r ih =>
    cases i with
    | zero => simp at h; subst h; simp [gs]
    | succ i => simp at h; rw [List.take_succ_cons, List.take_succ_cons]; simp only [gs]; rw [ih i h]; omega
theorem gs_le (ops : List OpP) (B : Nat) (h : ∀ o ∈ ops, o.l.length ≤ B) : gs ops ≤ ops.length * B := by
  induction ops with
  | nil => simp [gs]
  | cons a r ih =>
    have h1 := ih (fun o ho => h o (List.mem_cons_of_mem _ ho))
    have h2 := h a (List.mem_cons_self ..)
    simp only [gs, List.length_cons, Nat.succ_mul]; omega
structure GrI (a : Option (Nat × Nat)) (ops : List OpP) (h0 : H) (i : Nat) (T : Tr V) (h : H) : Prop where
  il : i ≤ ops.length
  t0 : evO T (.t 0) = .slice a ops.length none 4
  t3 : ∃ s : Int, evO T (.t 3) = .int .i64 s ∧ (ops.length ≤ 100 → s = (gs (ops.take i) : Nat))
  t6 : evO T (.t 6) = .int .i64 (ops.length : Int)
  t7 : evO T (.t 7) = .int .i64 (i : Int)
  hh : h = h0
theorem gr_step (Q : Orc) (m : Nat) (a : Option (Nat × Nat)) (ops : List OpP) (B : Nat) (hB : B ≤ 140737488351232) (hl : ops.length ≤ B) (hs : ∀ o ∈ ops, o.l.length ≤ B) (h0 : H) (oh : OpsH h0 a ops) : ∀ i T h, i < ops.length → GrI a ops h0 i T h → ∃ T' h', evC Q 26 m none L_purserlaw01_great_0 ⟨T, [], h⟩ = some (.normal, ⟨T', [], h'⟩) ∧ GrI a ops h0 (i + 1) T' h' := by
  intro i T h hi ⟨_, t0, ⟨s, t3, e3⟩, t6, t7, hh⟩
  subst hh
  have c0 : decide ((i : Int) < (ops.length : Int)) = true := decide_eq_true (by omega)
  have wi : wr .i64 ((i : Int) + 1) = ((i + 1 : Nat) : Int) := by rw [wr_i64 (by omega)]; omega
  have ix : idx (i : Int) ops.length = some i := idxn hi
  obtain ⟨o, ho⟩ : ∃ o, ops[i]? = some o := ⟨_, List.getElem?_eq_getElem hi⟩
  have om := List.mem_of_getElem? ho
  obtain ⟨k, md, vs, b, rfl, k1, g, _, _, cg, _⟩ := oh.at i o ho
  have gt := gs_take ops i o ho
  have g1 : ops.length ≤ 100 → gs (ops.take (i + 1)) ≤ 100 * B := fun h => by
    have := gs_le (ops.take (i + 1)) B (fun x hx => hs x (List.mem_of_mem_take hx))
    have h2 : (ops.take (i + 1)).length ≤ 100 := by rw [List.length_take]; omega
    exact Nat.le_trans this (Nat.mul_le_mul_right _ h2)
  obtain ⟨w, ew⟩ : ∃ w, wr .i64 (s + (o.l.length : Int)) = w := ⟨_, rfl⟩
  have e4 : ops.length ≤ 100 → w = (gs (ops.take (i + 1)) : Nat) := fun h => by
    have := g1 h
    have := e3 h
    rw [← ew, this, gt]
    rw [wr_i64 (by omega)]; omega
  have i1 : i + 1 ≤ ops.length := hi
  obtain ⟨n, en⟩ : ∃ n, ops.length = n := ⟨_, rfl⟩
  rw [en] at t0 t6 c0 ix
  refine ⟨_, _, by
    simp (config := {maxSteps := 2000000}) (disch := first | omega | (simp only [List.length_cons, List.length_nil, List.length_append, List.length_drop]; omega)) only [L_purserlaw01_great_0, t0, t3, t6, t7, g, cg, c0, wi, ix, ew, ↓s_len, x_lenS, ↓b_xor32, ↓b_and32, ↓b_or32, ↓u_not32, b_xor32, b_and32, b_or32, u_not32, w32ad, ↓x_conv, x_convV, ↓x_fieldAddr, x_fieldV, ↓s_nilchk, x_nilchk, Nat.zero_add, Nat.add_zero, Nat.mul_one, ↓l_loop, ↓l_succ, ↓l_normal, l_normal, l_exit, l_ret, l_iteN, ↓h_put_get, ↓h_new_get, ↓h_del_get, h_next_put, h_next_new, h_next_del, Nat.add_assoc, Nat.add_eq_left, Nat.left_eq_add, Nat.add_left_cancel_iff, ↓s_load, m_load, ↓m_load1, m_load1, ↓m_st, m_stE, m_storeI, m_storeE, w_zero, w_succ, ↓s_alloc, ↓x_idxA, ↓x_idxS, x_idxAE, x_idxSE, x_addrE, x_idx, x_lenS, ↓s_len, ↓x_buildS, x_buildE, ↓x_P0, ↓x_P1, x_fill0, x_filli, x_fills, x_fillb, c_int, List.length_cons, List.length_nil, List.cons_append, List.drop_succ_cons, List.drop_zero, List.drop_nil, List.nil_append, Int.reduceAdd, Int.reduceToNat, Int.reduceLT, Int.reduceLE, Nat.reduceAdd, Nat.reduceMul, Nat.reduceLeDiff, Int.reduceEq, Int.reduceSub, Int.cast_ofNat_Int, s_resc, s_consR, m_load4, m_store4, s_res0, ↓s_skip, ↓s_ops, ↓s_dops, ↓s_seq, ↓s_cond, ↓s_block, ↓s_exit, ↓s_ret, ↓s_scope, ↓s_nil, ↓s_op, ↓s_opg, ↓s_wanted', ↓s_wantV, s_wantV, s_wantV0, beq_true, beq_false, ↓s_bindS, s_bindS, ↓s_bindE, s_bindE, s_bindE_ret, s_bindE_exit, s_bindE_iteN, s_norm, ↓s_condV, s_condV, s_block_ret, s_block_normal, s_block_exit, s_block_iteN, ↓s_getp, ↓s_getp0, ↓s_get, s_get0, ↓s_con, ↓s_fn, ↓s_os0, ↓s_os1, ↓s_list0, ↓s_list1, ↓s_mov, ↓s_pick, ↓s_pickE, s_pickE, ↓s_bin, ↓s_un, ↓s_minmax, ↓s_call, ↓s_callv, ↓s_callV, ↓s_ext, s_same, b_eql, b_neq, b_lss, b_leq, b_gtr, b_geq, b_add, b_sub, b_mul, b_eqlb, b_neqb, b_fnil, b_fnil', b_fnil2, b_fnil2', u_neg, u_not, m_two, s_end, s_end', s_end_iteN, s_res0, s_res1, s_tup1, s_tup2, ↓iteN_true, ↓iteN_false, iteN_true, iteN_false, Nat.zero_add, List.nil_append, List.append_nil, Nat.reduceEqDiff, reduceIte, decide_true, decide_false, Bool.not_true, Bool.not_false, List.getElem?_cons_zero, List.getElem?_cons_succ, Bool.false_eq_true, if_true, if_false, beq_self_eq_true]
    exact rfl, ⟨i1, by rw [en]; exact (by (simp only [s_getp, s_getp0, Nat.reduceEqDiff, decide_false, decide_true, iteN_false, iteN_true, t0]; try rfl)), ⟨w, (by (simp only [s_getp, s_getp0, Nat.reduceEqDiff, decide_false, decide_true, iteN_false, iteN_true, t3]; try rfl)), e4⟩, by rw [en]; exact (by (simp only [s_getp, s_getp0, Nat.reduceEqDiff, decide_false, decide_true, iteN_false, iteN_true, t6]; try rfl)), (by (simp only [s_getp, s_getp0, Nat.reduceEqDiff, decide_false, decide_true, iteN_false, iteN_true, t7]; try rfl)), rfl⟩⟩
def greatV (ops : List OpP) : Bool := decide (100 < ops.length) || decide (100000 < gs ops)
theorem great_go (e : E k_purserlaw01_great = some f_purserlaw01_great) (x : ∀ a h, X (.fn k_purserlaw01_great) a h = none) (N : Nat) (a : Option (Nat × Nat)) (ops : List OpP) (B : Nat) (hB : B ≤ 140737488351232) (hl : ops.length ≤ B) (hs : ∀ o ∈ ops, o.l.length ≤ B) (h : H) (oh : OpsH h a ops) :
    callX E X (N + ops.length + 26) (.fn k_purserlaw01_great) [.slice a ops.length none 4] h = some (.bool (greatV ops), h) := by
  rw [x_cfn e _ _ (Nat.le_of_ble_eq_true rfl) (x _ _)]
  have fin : ∀ T, GrI a ops h 0 T h → fnEnd [.tmp 2] (bindE (blockE 0 (loopN (evC (callX E X (N + ops.length + 25)) 26 (N + ops.length + 25) none L_purserlaw01_great_0) (N + ops.length + 25) ⟨T, [], h⟩)) (evC (callX E X (N + ops.length + 25)) 26 (N + ops.length + 25) none R_purserlaw01_great_0)) = some (.bool (greatV ops), h) := by
    intro T I
    obtain ⟨T', h', r, t0, ⟨s, t3, e3⟩, hh⟩ := loop_go (f := evC (callX E X (N + ops.length + 25)) 26 (N + ops.length + 25) none L_purserlaw01_great_0) (GrI a ops h) ops.length (.exit 0) (by intro h; cases h) (fun T h' => evO T (.t 0) = .slice a ops.length none 4 ∧ (∃ s : Int, evO T (.t 3) = .int .i64 s ∧ (ops.length ≤ 100 → s = (gs ops : Nat))) ∧ h' = h) (gr_step _ _ a ops B hB hl hs h oh) (fun T h' I => by
      obtain ⟨il, t0, ⟨s, t3, e3⟩, t6, t7, hh⟩ := I
      rw [List.take_length] at e3
      have c0 : decide ((ops.length : Int) < (ops.length : Int)) = false := decide_eq_false (by omega)
      refine ⟨_, _, by
        simp (config := {maxSteps := 2000000}) (disch := first | omega | (simp only [List.length_cons, List.length_nil, List.length_append, List.length_drop]; omega)) only [L_purserlaw01_great_0, t6, t7, c0, ↓b_xor32, ↓b_and32, ↓b_or32, ↓u_not32, b_xor32, b_and32, b_or32, u_not32, w32ad, ↓x_conv, x_convV, ↓x_fieldAddr, x_fieldV, ↓s_nilchk, x_nilchk, Nat.zero_add, Nat.add_zero, Nat.mul_one, ↓l_loop, ↓l_succ, ↓l_normal, l_normal, l_exit, l_ret, l_iteN, ↓h_put_get, ↓h_new_get, ↓h_del_get, h_next_put, h_next_new, h_next_del, Nat.add_assoc, Nat.add_eq_left, Nat.left_eq_add, Nat.add_left_cancel_iff, ↓s_load, m_load, ↓m_load1, m_load1, ↓m_st, m_stE, m_storeI, m_storeE, w_zero, w_succ, ↓s_alloc, ↓x_idxA, ↓x_idxS, x_idxAE, x_idxSE, x_addrE, x_idx, x_lenS, ↓s_len, ↓x_buildS, x_buildE, ↓x_P0, ↓x_P1, x_fill0, x_filli, x_fills, x_fillb, c_int, List.length_cons, List.length_nil, List.cons_append, List.drop_succ_cons, List.drop_zero, List.drop_nil, List.nil_append, Int.reduceAdd, Int.reduceToNat, Int.reduceLT, Int.reduceLE, Nat.reduceAdd, Nat.reduceMul, Nat.reduceLeDiff, Int.reduceEq, Int.reduceSub, Int.cast_ofNat_Int, s_resc, s_consR, m_load4, m_store4, s_res0, ↓s_skip, ↓s_ops, ↓s_dops, ↓s_seq, ↓s_cond, ↓s_block, ↓s_exit, ↓s_ret, ↓s_scope, ↓s_nil, ↓s_op, ↓s_opg, ↓s_wanted', ↓s_wantV, s_wantV, s_wantV0, beq_true, beq_false, ↓s_bindS, s_bindS, ↓s_bindE, s_bindE, s_bindE_ret, s_bindE_exit, s_bindE_iteN, s_norm, ↓s_condV, s_condV, s_block_ret, s_block_normal, s_block_exit, s_block_iteN, ↓s_getp, ↓s_getp0, ↓s_get, s_get0, ↓s_con, ↓s_fn, ↓s_os0, ↓s_os1, ↓s_list0, ↓s_list1, ↓s_mov, ↓s_pick, ↓s_pickE, s_pickE, ↓s_bin, ↓s_un, ↓s_minmax, ↓s_call, ↓s_callv, ↓s_callV, ↓s_ext, s_same, b_eql, b_neq, b_lss, b_leq, b_gtr, b_geq, b_add, b_sub, b_mul, b_eqlb, b_neqb, b_fnil, b_fnil', b_fnil2, b_fnil2', u_neg, u_not, m_two, s_end, s_end', s_end_iteN, s_res0, s_res1, s_tup1, s_tup2, ↓iteN_true, ↓iteN_false, iteN_true, iteN_false, Nat.zero_add, List.nil_append, List.append_nil, Nat.reduceEqDiff, reduceIte, decide_true, decide_false, Bool.not_true, Bool.not_false, List.getElem?_cons_zero, List.getElem?_cons_succ, Bool.false_eq_true, if_true, if_false, beq_self_eq_true]
        exact rfl, (by (simp only [s_getp, s_getp0, Nat.reduceEqDiff, decide_false, decide_true, iteN_false, iteN_true, t0]; try rfl)), ⟨s, (by (simp only [s_getp, s_getp0, Nat.reduceEqDiff, decide_false, decide_true, iteN_false, iteN_true, t3]; try rfl)), e3⟩, hh⟩) ops.length 0 (by omega) (N + ops.length + 25) (by omega) T h I
    rw [r, hh]
    unfold greatV
    by_cases c : 100 < ops.length
    · have c1 : decide ((100 : Int) < (ops.length : Int)) = true := decide_eq_true (by omega)
      rw [decide_eq_true c, Bool.true_or]
      simp (config := {maxSteps := 2000000}) (disch := first | omega | (simp only [List.length_cons, List.length_nil, List.length_append, List.length_drop]; omega)) only [R_purserlaw01_great_0, t0, t3, c1, ↓s_len, x_lenS, ↓b_xor32, ↓b_and32, ↓b_or32, ↓u_not32, b_xor32, b_and32, b_or32, u_not32, w32ad, ↓x_conv, x_convV, ↓x_fieldAddr, x_fieldV, ↓s_nilchk, x_nilchk, Nat.zero_add, Nat.add_zero, Nat.mul_one, ↓l_loop, ↓l_succ, ↓l_normal, l_normal, l_exit, l_ret, l_iteN, ↓h_put_get, ↓h_new_get, ↓h_del_get, h_next_put, h_next_new, h_next_del, Nat.add_assoc, Nat.add_eq_left, Nat.left_eq_add, Nat.add_left_cancel_iff, ↓s_load, m_load, ↓m_load1, m_load1, ↓m_st, m_stE, m_storeI, m_storeE, w_zero, w_succ, ↓s_alloc, ↓x_idxA, ↓x_idxS, x_idxAE, x_idxSE, x_addrE, x_idx, x_lenS, ↓s_len, ↓x_buildS, x_buildE, ↓x_P0, ↓x_P1, x_fill0, x_filli, x_fills, x_fillb, c_int, List.length_cons, List.length_nil, List.cons_append, List.drop_succ_cons, List.drop_zero, List.drop_nil, List.nil_append, Int.reduceAdd, Int.reduceToNat, Int.reduceLT, Int.reduceLE, Nat.reduceAdd, Nat.reduceMul, Nat.reduceLeDiff, Int.reduceEq, Int.reduceSub, Int.cast_ofNat_Int, s_resc, s_consR, m_load4, m_store4, s_res0, ↓s_skip, ↓s_ops, ↓s_dops, ↓s_seq, ↓s_cond, ↓s_block, ↓s_exit, ↓s_ret, ↓s_scope, ↓s_nil, ↓s_op, ↓s_opg, ↓s_wanted', ↓s_wantV, s_wantV, s_wantV0, beq_true, beq_false, ↓s_bindS, s_bindS, ↓s_bindE, s_bindE, s_bindE_ret, s_bindE_exit, s_bindE_iteN, s_norm, ↓s_condV, s_condV, s_block_ret, s_block_normal, s_block_exit, s_block_iteN, ↓s_getp, ↓s_getp0, ↓s_get, s_get0, ↓s_con, ↓s_fn, ↓s_os0, ↓s_os1, ↓s_list0, ↓s_list1, ↓s_mov, ↓s_pick, ↓s_pickE, s_pickE, ↓s_bin, ↓s_un, ↓s_minmax, ↓s_call, ↓s_callv, ↓s_callV, ↓s_ext, s_same, b_eql, b_neq, b_lss, b_leq, b_gtr, b_geq, b_add, b_sub, b_mul, b_eqlb, b_neqb, b_fnil, b_fnil', b_fnil2, b_fnil2', u_neg, u_not, m_two, s_end, s_end', s_end_iteN, s_res0, s_res1, s_tup1, s_tup2, ↓iteN_true, ↓iteN_false, iteN_true, iteN_false, Nat.zero_add, List.nil_append, List.append_nil, Nat.reduceEqDiff, reduceIte, decide_true, decide_false, Bool.not_true, Bool.not_false, List.getElem?_cons_zero, List.getElem?_cons_succ, Bool.false_eq_true, if_true, if_false, beq_self_eq_true]
    · have c1 : decide ((100 : Int) < (ops.length : Int)) = false := decide_eq_false (by omega)
      rw [decide_eq_false c, Bool.false_or]
      have e4 := e3 (by omega)
      have c2 : decide ((100000 : Int) < s) = decide (100000 < gs ops) := by rw [decide_eq_decide]; omega
      generalize decide (100000 < gs ops) = q at *
      simp (config := {maxSteps := 2000000}) (disch := first | omega | (simp only [List.length_cons, List.length_nil, List.length_append, List.length_drop]; omega)) only [R_purserlaw01_great_0, t0, t3, c1, c2, ↓s_len, x_lenS, ↓b_xor32, ↓b_and32, ↓b_or32, ↓u_not32, b_xor32, b_and32, b_or32, u_not32, w32ad, ↓x_conv, x_convV, ↓x_fieldAddr, x_fieldV, ↓s_nilchk, x_nilchk, Nat.zero_add, Nat.add_zero, Nat.mul_one, ↓l_loop, ↓l_succ, ↓l_normal, l_normal, l_exit, l_ret, l_iteN, ↓h_put_get, ↓h_new_get, ↓h_del_get, h_next_put, h_next_new, h_next_del, Nat.add_assoc, Nat.add_eq_left, Nat.left_eq_add, Nat.add_left_cancel_iff, ↓s_load, m_load, ↓m_load1, m_load1, ↓m_st, m_stE, m_storeI, m_storeE, w_zero, w_succ, ↓s_alloc, ↓x_idxA, ↓x_idxS, x_idxAE, x_idxSE, x_addrE, x_idx, x_lenS, ↓s_len, ↓x_buildS, x_buildE, ↓x_P0, ↓x_P1, x_fill0, x_filli, x_fills, x_fillb, c_int, List.length_cons, List.length_nil, List.cons_append, List.drop_succ_cons, List.drop_zero, List.drop_nil, List.nil_append, Int.reduceAdd, Int.reduceToNat, Int.reduceLT, Int.reduceLE, Nat.reduceAdd, Nat.reduceMul, Nat.reduceLeDiff, Int.reduceEq, Int.reduceSub, Int.cast_ofNat_Int, s_resc, s_consR, m_load4, m_store4, s_res0, ↓s_skip, ↓s_ops, ↓s_dops, ↓s_seq, ↓s_cond, ↓s_block, ↓s_exit, ↓s_ret, ↓s_scope, ↓s_nil, ↓s_op, ↓s_opg, ↓s_wanted', ↓s_wantV, s_wantV, s_wantV0, beq_true, beq_false, ↓s_bindS, s_bindS, ↓s_bindE, s_bindE, s_bindE_ret, s_bindE_exit, s_bindE_iteN, s_norm, ↓s_condV, s_condV, s_block_ret, s_block_normal, s_block_exit, s_block_iteN, ↓s_getp, ↓s_getp0, ↓s_get, s_get0, ↓s_con, ↓s_fn, ↓s_os0, ↓s_os1, ↓s_list0, ↓s_list1, ↓s_mov, ↓s_pick, ↓s_pickE, s_pickE, ↓s_bin, ↓s_un, ↓s_minmax, ↓s_call, ↓s_callv, ↓s_callV, ↓s_ext, s_same, b_eql, b_neq, b_lss, b_leq, b_gtr, b_geq, b_add, b_sub, b_mul, b_eqlb, b_neqb, b_fnil, b_fnil', b_fnil2, b_fnil2', u_neg, u_not, m_two, s_end, s_end', s_end_iteN, s_res0, s_res1, s_tup1, s_tup2, ↓iteN_true, ↓iteN_false, iteN_true, iteN_false, Nat.zero_add, List.nil_append, List.append_nil, Nat.reduceEqDiff, reduceIte, decide_true, decide_false, Bool.not_true, Bool.not_false, List.getElem?_cons_zero, List.getElem?_cons_succ, Bool.false_eq_true, if_true, if_false, beq_self_eq_true]
  obtain ⟨R, eR⟩ : ∃ R, R_purserlaw01_great_0 = R := ⟨_, rfl⟩
  obtain ⟨Lo, eL⟩ : ∃ R, L_purserlaw01_great_0 = R := ⟨_, rfl⟩
  rw [eR, eL] at fin ⊢
  simp (config := {maxSteps := 2000000}) (disch := first | omega | (simp only [List.length_cons, List.length_nil, List.length_append, List.length_drop]; omega)) only [↓s_len, x_lenS, ↓b_xor32, ↓b_and32, ↓b_or32, ↓u_not32, b_xor32, b_and32, b_or32, u_not32, w32ad, ↓x_conv, x_convV, ↓x_fieldAddr, x_fieldV, ↓s_nilchk, x_nilchk, Nat.zero_add, Nat.add_zero, Nat.mul_one, ↓l_loop, ↓l_succ, ↓l_normal, l_normal, l_exit, l_ret, l_iteN, ↓h_put_get, ↓h_new_get, ↓h_del_get, h_next_put, h_next_new, h_next_del, Nat.add_assoc, Nat.add_eq_left, Nat.left_eq_add, Nat.add_left_cancel_iff, ↓s_load, m_load, ↓m_load1, m_load1, ↓m_st, m_stE, m_storeI, m_storeE, w_zero, w_succ, ↓s_alloc, ↓x_idxA, ↓x_idxS, x_idxAE, x_idxSE, x_addrE, x_idx, x_lenS, ↓s_len, ↓x_buildS, x_buildE, ↓x_P0, ↓x_P1, x_fill0, x_filli, x_fills, x_fillb, c_int, List.length_cons, List.length_nil, List.cons_append, List.drop_succ_cons, List.drop_zero, List.drop_nil, List.nil_append, Int.reduceAdd, Int.reduceToNat, Int.reduceLT, Int.reduceLE, Nat.reduceAdd, Nat.reduceMul, Nat.reduceLeDiff, Int.reduceEq, Int.reduceSub, Int.cast_ofNat_Int, s_resc, s_consR, m_load4, m_store4, s_res0, ↓s_skip, ↓s_ops, ↓s_dops, ↓s_seq, ↓s_cond, ↓s_block, ↓s_exit, ↓s_ret, ↓s_scope, ↓s_nil, ↓s_op, ↓s_opg, ↓s_wanted', ↓s_wantV, s_wantV, s_wantV0, beq_true, beq_false, ↓s_bindS, s_bindS, ↓s_bindE, s_bindE, s_bindE_ret, s_bindE_exit, s_bindE_iteN, s_norm, ↓s_condV, s_condV, s_block_ret, s_block_normal, s_block_exit, s_block_iteN, ↓s_getp, ↓s_getp0, ↓s_get, s_get0, ↓s_con, ↓s_fn, ↓s_os0, ↓s_os1, ↓s_list0, ↓s_list1, ↓s_mov, ↓s_pick, ↓s_pickE, s_pickE, ↓s_bin, ↓s_un, ↓s_minmax, ↓s_call, ↓s_callv, ↓s_callV, ↓s_ext, s_same, b_eql, b_neq, b_lss, b_leq, b_gtr, b_geq, b_add, b_sub, b_mul, b_eqlb, b_neqb, b_fnil, b_fnil', b_fnil2, b_fnil2', u_neg, u_not, m_two, s_end, s_end', s_end_iteN, s_res0, s_res1, s_tup1, s_tup2, ↓iteN_true, ↓iteN_false, iteN_true, iteN_false, Nat.zero_add, List.nil_append, List.append_nil, Nat.reduceEqDiff, reduceIte, decide_true, decide_false, Bool.not_true, Bool.not_false, List.getElem?_cons_zero, List.getElem?_cons_succ, Bool.false_eq_true, if_true, if_false, beq_self_eq_true]
  exact fin _ ⟨by omega, (by (simp only [s_getp, s_getp0, Nat.reduceEqDiff, decide_false, decide_true, iteN_false, iteN_true, eL]; try rfl)), ⟨0, (by (simp only [s_getp, s_getp0, Nat.reduceEqDiff, decide_false, decide_true, iteN_false, iteN_true, eL]; try rfl)), fun _ => rfl⟩, (by (simp only [s_getp, s_getp0, Nat.reduceEqDiff, decide_false, decide_true, iteN_false, iteN_true, eL]; try rfl)), (by (simp only [s_getp, s_getp0, Nat.reduceEqDiff, decide_false, decide_true, iteN_false, iteN_true, eL]; try rfl)), rfl⟩
theorem byt_eyByt (m : Int) (l : List Nat) (bl : byt l = true) (at_ : Nat) : byt (eyByt m l at_).1 = true := by
  unfold eyByt
  split
  · split
    · rfl
    · exact byt_take (byt_drop bl _) _
  · rfl
theorem byt_eyRaw (m : Int) (l : List Nat) (bl : byt l = true) (at_ : Nat) : byt (eyRaw m l at_).1 = true := by
  unfold eyRaw
  split
  · rfl
  · split
    · exact byt_take (byt_drop bl _) _
    · rfl
end Go.Eng
namespace Go.Eng
open Go
variable {E : Nat → Option Fn} {X : Orc}
set_option linter.unusedSimpArgs false
set_option linter.unusedVariables false
theorem wid_pow (n k : Nat) (hn : n < 18446744073709551616) (hk : k = 1 ∨ k = 2 ∨ k = 4 ∨ k = 8) : widV n ≤ k ↔ n < 256 ^ k := by
  unfold widV
  rcases hk with rfl | rfl | rfl | rfl
  · show _ ↔ n < 256
    (repeat' split) <;> omega
  · show _ ↔ n < 65536
    (repeat' split) <;> omega
  · show _ ↔ n < 4294967296
    (repeat' split) <;> omega
  · show _ ↔ n < 18446744073709551616
    (repeat' split) <;> omega
theorem fix_ok (s : Int) (n : Nat) (hn : n < 18446744073709551616) (h : fixE s n = 0) : ∃ k : Nat, s = (k : Int) ∧ sizedI s = true ∧ n < 256 ^ k ∧ fixB s n = leN k n ∧ k ≤ 8 := by
  have h0 := h
  unfold fixE at h
  cases hs : sizedI s with
  | false => rw [hs, if_neg (by simp)] at h; cases h
  | true =>
    rw [hs, if_pos rfl] at h
    obtain ⟨k, rfl, k0, k8, kk⟩ := sizedI_nat hs
    by_cases hw : (widV n : Int) ≤ (k : Int)
    · refine ⟨k, rfl, rfl, (wid_pow n k hn kk).1 (by omega), ?_, k8⟩
      unfold fixB
      rw [if_pos h0, Int.toNat_natCast]
    · rw [if_neg hw] at h; cases h
theorem opB_le (o : OpP) : (opB o).length ≤ 9 + o.l.length := by
  unfold opB
  split
  · unfold fixB
    split
    · rw [leN_len]
      rename_i h
      unfold fixE at h
      cases hs : sizedI o.size with
      | false => rw [hs, if_neg (by simp)] at h; cases h
      | true => obtain ⟨k, e, _, _, _⟩ := sizedI_nat hs; rw [e, Int.toNat_natCast]; omega
    · simp
  · split
    · have := sizV_le o.n; omega
    · split
      · rw [List.length_append]; have := sizV_le o.l.length; omega
      · omega
theorem opB_byt (o : OpP) (ok : o.ok) : byt (opB o) = true := by
  unfold opB
  split
  · unfold fixB
    split
    · exact leN_byt _ _
    · rfl
  · split
    · exact sizV_byt _
    · split
      · exact byt_app (sizV_byt _) ok.bl
      · exact ok.bl
/-- all that calls write -/
def wA (ops : List OpP) : List Nat := (ops.map opB).flatten
theorem wA_app (a b : List OpP) : wA (a ++ b) = wA a ++ wA b := by unfold wA; rw [List.map_append, List.flatten_append]
theorem wA_one (o : OpP) : wA [o] = opB o := by unfold wA; simp
theorem wA_le (ops : List OpP) : (wA ops).length ≤ 9 * ops.length + gs ops := by
  induction ops with
  | nil => simp [wA, gs]
  | cons o r ih =>
    have : wA (o :: r) = opB o ++ wA r := rfl
    rw [this, List.length_append]
    have := opB_le o
    simp only [gs, List.length_cons]; omega
theorem wA_byt (ops : List OpP) (h : ∀ o ∈ ops, o.ok) : byt (wA ops) = true := by
  induction ops with
  | nil => rfl
  | cons o r ih => exact byt_app (opB_byt o (h o (List.mem_cons_self ..))) (ih (fun x hx => h x (List.mem_cons_of_mem _ hx)))
theorem gs_filter (p : OpP → Bool) (ops : List OpP) : gs (ops.filter p) ≤ gs ops := by
  induction ops with
  | nil => simp [gs]
  | cons o r ih =>
    rw [List.filter_cons]
    split
    · simp only [gs]; omega
    · simp only [gs]; omega
theorem gs_take_le (ops : List OpP) (i : Nat) : gs (ops.take i) ≤ gs ops := by
  induction ops generalizing i with
  | nil => simp [gs]
  | cons o r ih =>
    cases i with
    | zero => simp [gs]
    | succ i => rw [List.take_succ_cons]; simp only [gs]; have := ih i; omega
end Go.Eng
namespace Go.Eng
open Go
variable {E : Nat → Option Fn} {X : Orc}
set_option linter.unusedSimpArgs false
set_option linter.unusedVariables false
theorem gs_mem (ops : List OpP) (o : OpP) (h : o ∈ ops) : o.l.length ≤ gs ops := by
  induction ops with
  | nil => cases h
  | cons a r ih =>
    simp only [gs]
    rcases List.mem_cons.1 h with rfl | h
    · omega
    · have := ih h; omega
theorem SrcH.kq {p : Nat} {h h' : H} {a : Option (Nat × Nat)} {e : Nat} {l : List Nat} (s : SrcH h a e l) (k : Kq p h h') (nb : l ≠ [] → ∀ q z, a = some (q, z) → q ≠ p) : SrcH h' a e l := by
  rcases s with s | ⟨bi, off, vs, m, e1, e2, e3, e4, e5⟩
  · exact .inl s
  · by_cases hw : l = []
    · exact .inl hw
    · exact .inr ⟨bi, off, vs, m, e1, e2, Nat.lt_of_lt_of_le e3 k.1, by rw [k.2 _ e3 (nb hw _ _ e1), e4], e5⟩
end Go.Eng
namespace Go.Eng
open Go
variable {E : Nat → Option Fn} {X : Orc}
set_option linter.unusedSimpArgs false
set_option linter.unusedVariables false
/-! the document's own answers of layer 1 -/
structure EnRf (E : Nat → Option Fn) : Prop where
  pw : E k_purserref01_power = some f_purserref01_power
  fx : E k_purserref01_Fixed = some f_purserref01_Fixed
  sz : E k_purserref01_Size = some f_purserref01_Size
  by_ : E k_purserref01_Bytes = some f_purserref01_Bytes
  tw : E k_purserref01_Twin = some f_purserref01_Twin
structure NoRf (X : Orc) : Prop where
  pw : ∀ a h, X (.fn k_purserref01_power) a h = none
  fx : ∀ a h, X (.fn k_purserref01_Fixed) a h = none
  sz : ∀ a h, X (.fn k_purserref01_Size) a h = none
  by_ : ∀ a h, X (.fn k_purserref01_Bytes) a h = none
  tw : ∀ a h, X (.fn k_purserref01_Twin) a h = none
theorem pow256 (k : Nat) : 256 ^ k = 2 ^ (8 * k) := by rw [Nat.pow_mul]
structure PwI (n : Nat) (h0 : H) (i : Nat) (T : Tr V) (h : H) : Prop where
  il : i ≤ n
  t0 : evO T (.t 0) = .int .i64 (n : Int)
  t3 : evO T (.t 3) = .int .u64 ((256 ^ i : Nat) : Int)
  t4 : evO T (.t 4) = .int .i64 (i : Int)
  hh : h = h0
theorem power_go (e : E k_purserref01_power = some f_purserref01_power) (x : ∀ a h, X (.fn k_purserref01_power) a h = none) (N n : Nat) (hn : n ≤ 7) (h : H) : callX E X (N + 10) (.fn k_purserref01_power) [.int .i64 (n : Int)] h = some (.int .u64 ((256 ^ n : Nat) : Int), h) := by
  rw [x_cfn e _ _ (Nat.le_of_ble_eq_true rfl) (x _ _)]
  have fin : ∀ T, PwI n h 0 T h → fnEnd [.tmp 2] (bindE (blockE 0 (loopN (evC (callX E X (N + 9)) 13 (N + 9) none L_purserref01_power_0) (N + 9) ⟨T, [], h⟩)) (evC (callX E X (N + 9)) 13 (N + 9) none R_purserref01_power_0)) = some (.int .u64 ((256 ^ n : Nat) : Int), h) := by
    intro T I
    obtain ⟨T', h', r, t3, hh⟩ := loop_go (f := evC (callX E X (N + 9)) 13 (N + 9) none L_purserref01_power_0) (PwI n h) n (.exit 0) (by intro h; cases h) (fun T h' => evO T (.t 3) = .int .u64 ((256 ^ n : Nat) : Int) ∧ h' = h) (fun i T h' hi I => by
      obtain ⟨_, t0, t3, t4, hh⟩ := I
      have c0 : decide ((i : Int) < (n : Int)) = true := decide_eq_true (by omega)
      have wi : wr .i64 ((i : Int) + 1) = ((i + 1 : Nat) : Int) := by rw [wr_i64 (by omega)]; omega
      have pl : 256 ^ (i + 1) ≤ 256 ^ 7 := Nat.pow_le_pow_right (by omega) (by omega)
      have ps : 256 ^ (i + 1) = 256 ^ i * 256 := Nat.pow_succ ..
      have pl2 : 256 ^ (i + 1) ≤ 72057594037927936 := pl
      clear pl
      have i1 : i + 1 ≤ n := hi
      obtain ⟨p', ep'⟩ : ∃ p', 256 ^ (i + 1) = p' := ⟨_, rfl⟩
      obtain ⟨p, ep⟩ : ∃ p, 256 ^ i = p := ⟨_, rfl⟩
      rw [ep'] at ps pl2
      rw [ep] at ps t3
      have w1 : wr .u64 ((p : Int) * 256) = (p' : Int) := by rw [show (p : Int) * 256 = ((p' : Nat) : Int) by omega]; exact u64n _ (by omega)
      refine ⟨_, h', by
        simp (config := {maxSteps := 2000000}) (disch := first | omega | (simp only [List.length_cons, List.length_nil, List.length_append, List.length_drop]; omega)) only [L_purserref01_power_0, t0, t3, t4, c0, wi, w1, ↓b_xor32, ↓b_and32, ↓b_or32, ↓u_not32, b_xor32, b_and32, b_or32, u_not32, w32ad, ↓x_conv, x_convV, ↓x_fieldAddr, x_fieldV, ↓s_nilchk, x_nilchk, Nat.zero_add, Nat.add_zero, Nat.mul_one, ↓l_loop, ↓l_succ, ↓l_normal, l_normal, l_exit, l_ret, l_iteN, ↓h_put_get, ↓h_new_get, ↓h_del_get, h_next_put, h_next_new, h_next_del, Nat.add_assoc, Nat.add_eq_left, Nat.left_eq_add, Nat.add_left_cancel_iff, ↓s_load, m_load, ↓m_load1, m_load1, ↓m_st, m_stE, m_storeI, m_storeE, w_zero, w_succ, ↓s_alloc, ↓x_idxA, ↓x_idxS, x_idxAE, x_idxSE, x_addrE, x_idx, x_lenS, ↓s_len, ↓x_buildS, x_buildE, ↓x_P0, ↓x_P1, x_fill0, x_filli, x_fills, x_fillb, c_int, List.length_cons, List.length_nil, List.cons_append, List.drop_succ_cons, List.drop_zero, List.drop_nil, List.nil_append, Int.reduceAdd, Int.reduceToNat, Int.reduceLT, Int.reduceLE, Nat.reduceAdd, Nat.reduceMul, Nat.reduceLeDiff, Int.reduceEq, Int.reduceSub, Int.cast_ofNat_Int, s_resc, s_consR, m_load4, m_store4, s_res0, ↓s_skip, ↓s_ops, ↓s_dops, ↓s_seq, ↓s_cond, ↓s_block, ↓s_exit, ↓s_ret, ↓s_scope, ↓s_nil, ↓s_op, ↓s_opg, ↓s_wanted', ↓s_wantV, s_wantV, s_wantV0, beq_true, beq_false, ↓s_bindS, s_bindS, ↓s_bindE, s_bindE, s_bindE_ret, s_bindE_exit, s_bindE_iteN, s_norm, ↓s_condV, s_condV, s_block_ret, s_block_normal, s_block_exit, s_block_iteN, ↓s_getp, ↓s_getp0, ↓s_get, s_get0, ↓s_con, ↓s_fn, ↓s_os0, ↓s_os1, ↓s_list0, ↓s_list1, ↓s_mov, ↓s_pick, ↓s_pickE, s_pickE, ↓s_bin, ↓s_un, ↓s_minmax, ↓s_call, ↓s_callv, ↓s_callV, ↓s_ext, s_same, b_eql, b_neq, b_lss, b_leq, b_gtr, b_geq, b_add, b_sub, b_mul, b_eqlb, b_neqb, b_fnil, b_fnil', b_fnil2, b_fnil2', u_neg, u_not, m_two, s_end, s_end', s_end_iteN, s_res0, s_res1, s_tup1, s_tup2, ↓iteN_true, ↓iteN_false, iteN_true, iteN_false, Nat.zero_add, List.nil_append, List.append_nil, Nat.reduceEqDiff, reduceIte, decide_true, decide_false, Bool.not_true, Bool.not_false, List.getElem?_cons_zero, List.getElem?_cons_succ, Bool.false_eq_true, if_true, if_false, beq_self_eq_true]
        exact rfl, ⟨i1, (by (simp only [s_getp, s_getp0, Nat.reduceEqDiff, decide_false, decide_true, iteN_false, iteN_true, t0]; try rfl)), by rw [ep']; exact (by (simp only [s_getp, s_getp0, Nat.reduceEqDiff, decide_false, decide_true, iteN_false, iteN_true, t3]; try rfl)), (by (simp only [s_getp, s_getp0, Nat.reduceEqDiff, decide_false, decide_true, iteN_false, iteN_true, t4]; try rfl)), hh⟩⟩) (fun T h' I => by
      obtain ⟨il, t0, t3, t4, hh⟩ := I
      have c0 : decide ((n : Int) < (n : Int)) = false := decide_eq_false (by omega)
      refine ⟨_, _, by
        simp (config := {maxSteps := 2000000}) (disch := first | omega | (simp only [List.length_cons, List.length_nil, List.length_append, List.length_drop]; omega)) only [L_purserref01_power_0, t0, t4, c0, ↓b_xor32, ↓b_and32, ↓b_or32, ↓u_not32, b_xor32, b_and32, b_or32, u_not32, w32ad, ↓x_conv, x_convV, ↓x_fieldAddr, x_fieldV, ↓s_nilchk, x_nilchk, Nat.zero_add, Nat.add_zero, Nat.mul_one, ↓l_loop, ↓l_succ, ↓l_normal, l_normal, l_exit, l_ret, l_iteN, ↓h_put_get, ↓h_new_get, ↓h_del_get, h_next_put, h_next_new, h_next_del, Nat.add_assoc, Nat.add_eq_left, Nat.left_eq_add, Nat.add_left_cancel_iff, ↓s_load, m_load, ↓m_load1, m_load1, ↓m_st, m_stE, m_storeI, m_storeE, w_zero, w_succ, ↓s_alloc, ↓x_idxA, ↓x_idxS, x_idxAE, x_idxSE, x_addrE, x_idx, x_lenS, ↓s_len, ↓x_buildS, x_buildE, ↓x_P0, ↓x_P1, x_fill0, x_filli, x_fills, x_fillb, c_int, List.length_cons, List.length_nil, List.cons_append, List.drop_succ_cons, List.drop_zero, List.drop_nil, List.nil_append, Int.reduceAdd, Int.reduceToNat, Int.reduceLT, Int.reduceLE, Nat.reduceAdd, Nat.reduceMul, Nat.reduceLeDiff, Int.reduceEq, Int.reduceSub, Int.cast_ofNat_Int, s_resc, s_consR, m_load4, m_store4, s_res0, ↓s_skip, ↓s_ops, ↓s_dops, ↓s_seq, ↓s_cond, ↓s_block, ↓s_exit, ↓s_ret, ↓s_scope, ↓s_nil, ↓s_op, ↓s_opg, ↓s_wanted', ↓s_wantV, s_wantV, s_wantV0, beq_true, beq_false, ↓s_bindS, s_bindS, ↓s_bindE, s_bindE, s_bindE_ret, s_bindE_exit, s_bindE_iteN, s_norm, ↓s_condV, s_condV, s_block_ret, s_block_normal, s_block_exit, s_block_iteN, ↓s_getp, ↓s_getp0, ↓s_get, s_get0, ↓s_con, ↓s_fn, ↓s_os0, ↓s_os1, ↓s_list0, ↓s_list1, ↓s_mov, ↓s_pick, ↓s_pickE, s_pickE, ↓s_bin, ↓s_un, ↓s_minmax, ↓s_call, ↓s_callv, ↓s_callV, ↓s_ext, s_same, b_eql, b_neq, b_lss, b_leq, b_gtr, b_geq, b_add, b_sub, b_mul, b_eqlb, b_neqb, b_fnil, b_fnil', b_fnil2, b_fnil2', u_neg, u_not, m_two, s_end, s_end', s_end_iteN, s_res0, s_res1, s_tup1, s_tup2, ↓iteN_true, ↓iteN_false, iteN_true, iteN_false, Nat.zero_add, List.nil_append, List.append_nil, Nat.reduceEqDiff, reduceIte, decide_true, decide_false, Bool.not_true, Bool.not_false, List.getElem?_cons_zero, List.getElem?_cons_succ, Bool.false_eq_true, if_true, if_false, beq_self_eq_true]
        exact rfl, (by (simp only [s_getp, s_getp0, Nat.reduceEqDiff, decide_false, decide_true, iteN_false, iteN_true, t3]; try rfl)), hh⟩) n 0 (by omega) (N + 9) (by omega) T h I
    rw [r, hh]
    generalize 256 ^ n = p at *
    simp (config := {maxSteps := 2000000}) (disch := first | omega | (simp only [List.length_cons, List.length_nil, List.length_append, List.length_drop]; omega)) only [R_purserref01_power_0, t3, ↓b_xor32, ↓b_and32, ↓b_or32, ↓u_not32, b_xor32, b_and32, b_or32, u_not32, w32ad, ↓x_conv, x_convV, ↓x_fieldAddr, x_fieldV, ↓s_nilchk, x_nilchk, Nat.zero_add, Nat.add_zero, Nat.mul_one, ↓l_loop, ↓l_succ, ↓l_normal, l_normal, l_exit, l_ret, l_iteN, ↓h_put_get, ↓h_new_get, ↓h_del_get, h_next_put, h_next_new, h_next_del, Nat.add_assoc, Nat.add_eq_left, Nat.left_eq_add, Nat.add_left_cancel_iff, ↓s_load, m_load, ↓m_load1, m_load1, ↓m_st, m_stE, m_storeI, m_storeE, w_zero, w_succ, ↓s_alloc, ↓x_idxA, ↓x_idxS, x_idxAE, x_idxSE, x_addrE, x_idx, x_lenS, ↓s_len, ↓x_buildS, x_buildE, ↓x_P0, ↓x_P1, x_fill0, x_filli, x_fills, x_fillb, c_int, List.length_cons, List.length_nil, List.cons_append, List.drop_succ_cons, List.drop_zero, List.drop_nil, List.nil_append, Int.reduceAdd, Int.reduceToNat, Int.reduceLT, Int.reduceLE, Nat.reduceAdd, Nat.reduceMul, Nat.reduceLeDiff, Int.reduceEq, Int.reduceSub, Int.cast_ofNat_Int, s_resc, s_consR, m_load4, m_store4, s_res0, ↓s_skip, ↓s_ops, ↓s_dops, ↓s_seq, ↓s_cond, ↓s_block, ↓s_exit, ↓s_ret, ↓s_scope, ↓s_nil, ↓s_op, ↓s_opg, ↓s_wanted', ↓s_wantV, s_wantV, s_wantV0, beq_true, beq_false, ↓s_bindS, s_bindS, ↓s_bindE, s_bindE, s_bindE_ret, s_bindE_exit, s_bindE_iteN, s_norm, ↓s_condV, s_condV, s_block_ret, s_block_normal, s_block_exit, s_block_iteN, ↓s_getp, ↓s_getp0, ↓s_get, s_get0, ↓s_con, ↓s_fn, ↓s_os0, ↓s_os1, ↓s_list0, ↓s_list1, ↓s_mov, ↓s_pick, ↓s_pickE, s_pickE, ↓s_bin, ↓s_un, ↓s_minmax, ↓s_call, ↓s_callv, ↓s_callV, ↓s_ext, s_same, b_eql, b_neq, b_lss, b_leq, b_gtr, b_geq, b_add, b_sub, b_mul, b_eqlb, b_neqb, b_fnil, b_fnil', b_fnil2, b_fnil2', u_neg, u_not, m_two, s_end, s_end', s_end_iteN, s_res0, s_res1, s_tup1, s_tup2, ↓iteN_true, ↓iteN_false, iteN_true, iteN_false, Nat.zero_add, List.nil_append, List.append_nil, Nat.reduceEqDiff, reduceIte, decide_true, decide_false, Bool.not_true, Bool.not_false, List.getElem?_cons_zero, List.getElem?_cons_succ, Bool.false_eq_true, if_true, if_false, beq_self_eq_true]
  obtain ⟨R, eR⟩ : ∃ R, R_purserref01_power_0 = R := ⟨_, rfl⟩
  obtain ⟨Lo, eL⟩ : ∃ R, L_purserref01_power_0 = R := ⟨_, rfl⟩
  rw [eR, eL] at fin ⊢
  generalize e256 : 256 ^ n = p at *
  simp (config := {maxSteps := 2000000}) (disch := first | omega | (simp only [List.length_cons, List.length_nil, List.length_append, List.length_drop]; omega)) only [↓b_xor32, ↓b_and32, ↓b_or32, ↓u_not32, b_xor32, b_and32, b_or32, u_not32, w32ad, ↓x_conv, x_convV, ↓x_fieldAddr, x_fieldV, ↓s_nilchk, x_nilchk, Nat.zero_add, Nat.add_zero, Nat.mul_one, ↓l_loop, ↓l_succ, ↓l_normal, l_normal, l_exit, l_ret, l_iteN, ↓h_put_get, ↓h_new_get, ↓h_del_get, h_next_put, h_next_new, h_next_del, Nat.add_assoc, Nat.add_eq_left, Nat.left_eq_add, Nat.add_left_cancel_iff, ↓s_load, m_load, ↓m_load1, m_load1, ↓m_st, m_stE, m_storeI, m_storeE, w_zero, w_succ, ↓s_alloc, ↓x_idxA, ↓x_idxS, x_idxAE, x_idxSE, x_addrE, x_idx, x_lenS, ↓s_len, ↓x_buildS, x_buildE, ↓x_P0, ↓x_P1, x_fill0, x_filli, x_fills, x_fillb, c_int, List.length_cons, List.length_nil, List.cons_append, List.drop_succ_cons, List.drop_zero, List.drop_nil, List.nil_append, Int.reduceAdd, Int.reduceToNat, Int.reduceLT, Int.reduceLE, Nat.reduceAdd, Nat.reduceMul, Nat.reduceLeDiff, Int.reduceEq, Int.reduceSub, Int.cast_ofNat_Int, s_resc, s_consR, m_load4, m_store4, s_res0, ↓s_skip, ↓s_ops, ↓s_dops, ↓s_seq, ↓s_cond, ↓s_block, ↓s_exit, ↓s_ret, ↓s_scope, ↓s_nil, ↓s_op, ↓s_opg, ↓s_wanted', ↓s_wantV, s_wantV, s_wantV0, beq_true, beq_false, ↓s_bindS, s_bindS, ↓s_bindE, s_bindE, s_bindE_ret, s_bindE_exit, s_bindE_iteN, s_norm, ↓s_condV, s_condV, s_block_ret, s_block_normal, s_block_exit, s_block_iteN, ↓s_getp, ↓s_getp0, ↓s_get, s_get0, ↓s_con, ↓s_fn, ↓s_os0, ↓s_os1, ↓s_list0, ↓s_list1, ↓s_mov, ↓s_pick, ↓s_pickE, s_pickE, ↓s_bin, ↓s_un, ↓s_minmax, ↓s_call, ↓s_callv, ↓s_callV, ↓s_ext, s_same, b_eql, b_neq, b_lss, b_leq, b_gtr, b_geq, b_add, b_sub, b_mul, b_eqlb, b_neqb, b_fnil, b_fnil', b_fnil2, b_fnil2', u_neg, u_not, m_two, s_end, s_end', s_end_iteN, s_res0, s_res1, s_tup1, s_tup2, ↓iteN_true, ↓iteN_false, iteN_true, iteN_false, Nat.zero_add, List.nil_append, List.append_nil, Nat.reduceEqDiff, reduceIte, decide_true, decide_false, Bool.not_true, Bool.not_false, List.getElem?_cons_zero, List.getElem?_cons_succ, Bool.false_eq_true, if_true, if_false, beq_self_eq_true]
  exact fin _ ⟨by omega, (by (simp only [s_getp, s_getp0, Nat.reduceEqDiff, decide_false, decide_true, iteN_false, iteN_true, eL]; try rfl)), by rw [Nat.pow_zero]; exact (by (simp only [s_getp, s_getp0, Nat.reduceEqDiff, decide_false, decide_true, iteN_false, iteN_true, eL]; try rfl)), (by (simp only [s_getp, s_getp0, Nat.reduceEqDiff, decide_false, decide_true, iteN_false, iteN_true, eL]; try rfl)), rfl⟩
theorem leN_snoc (i n : Nat) : leN (i + 1) n = leN i n ++ [n / 2 ^ (8 * i) % 256] := by
  unfold leN
  rw [List.range_succ, List.map_append]; rfl
structure RFI (k n : Nat) (h0 : H) (i : Nat) (T : Tr V) (h : H) : Prop where
  il : i ≤ k
  t0 : evO T (.t 0) = .int .i64 (k : Int)
  t1 : evO T (.t 1) = .int .u64 (n : Int)
  t7 : evO T (.t 7) = .int .i64 (i : Int)
  st : ∃ a c e, evO T (.t 6) = .slice a i c e ∧ Nw h0 h (leN i n) a c e
theorem quoU (n p : Nat) (hp : 0 < p) (hn : n < 18446744073709551616) (e : EqK) (h : H) : binV .quo e h (.int .u64 (n : Int)) (.int .u64 (p : Int)) = some (.int .u64 ((n / p : Nat) : Int)) := by
  rw [b_quo _ _ _ _ _ (by omega), show Int.tdiv (n : Int) (p : Int) = ((n / p : Nat) : Int) from rfl, u64n _ (Nat.lt_of_le_of_lt (Nat.div_le_self _ _) hn)]
theorem remU (n : Nat) (e : EqK) (h : H) : binV .rem e h (.int .u64 (n : Int)) (.int .u64 256) = some (.int .u64 ((n % 256 : Nat) : Int)) := by
  rw [b_rem _ _ _ _ _ (by omega)]; rfl
theorem rf_step (e : EnRf E) (x : NoRf X) (N m k n : Nat) (hk : k ≤ 8) (hn : n < 18446744073709551616) (h0 : H) : ∀ i T h, i < k → RFI k n h0 i T h → ∃ T' h', evC (callX E X (N + 10)) 45 m none L_purserref01_Fixed_0 ⟨T, [], h⟩ = some (.normal, ⟨T', [], h'⟩) ∧ RFI k n h0 (i + 1) T' h' := by
  intro i T h hi ⟨_, t0, t1, t7, ⟨a, c, ez, t6, nw⟩⟩
  have c0 : decide ((i : Int) < (k : Int)) = true := decide_eq_true (by omega)
  have wi : wr .i64 ((i : Int) + 1) = ((i + 1 : Nat) : Int) := by rw [wr_i64 (by omega)]; omega
  have r1 := power_go e.pw x.pw N i (by omega) h
  have q1 := fun ee hh => quoU n (256 ^ i) (Nat.pow_pos (by omega)) hn ee hh
  have ls := leN_snoc i n
  rw [← pow256] at ls
  have i1 : i + 1 ≤ k := hi
  generalize 256 ^ i = p at *
  have q2 := fun ee hh => remU (n / p) ee hh
  have bl : n / p % 256 < 256 := Nat.mod_lt _ (by decide)
  generalize n / p = d at *
  generalize d % 256 = b at *
  have w8 : wr .u8 (b : Int) = (b : Int) := by rw [w8n, Nat.mod_eq_of_lt bl]
  obtain ⟨h1, e1⟩ : ∃ h1, h.new (.cells [.int .u8 (b : Int)] .rw) = h1 := ⟨_, rfl⟩
  have k1 : Kp h h1 := by rw [← e1]; exact Kp.new _ _
  have n1 : h1.next = h.next + 1 := by rw [← e1]; rfl
  have sc : srcCells h1 1 (.slice (some (h.next, 0)) 1 (some 1) 1) = some (1, ofI .u8 [b]) := by rw [← e1, m_src, h_new_same]; rfl
  have wb1 := nw.wb.kp k1
  have l0 := leN_len i n
  obtain ⟨a', c', e', h2, ap, wb2, n2, f2, ow⟩ := ap_wb h1 (leN i n) [b] a c ez wb1 (by rw [l0]; show i + 1 ≤ _; omega)
  rw [← ls, leN_len, leN_len] at ap
  rw [← ls] at wb2
  have nw2 : Nw h0 h2 (leN (i + 1) n) a' c' e' := by
    have kk := nw.kp
    refine ⟨⟨by have := kk.1; omega, fun j hj => ?_⟩, wb2, fun q o ea => ?_⟩
    · have := kk.1
      rw [f2 j (by omega) (fun ea => by have := nw.ge _ _ ea; omega), k1.2 _ (by omega), kk.2 _ hj]
    · rcases ow with ow | ow
      · rw [ow] at ea; exact nw.ge _ _ ea
      · rw [ow] at ea; cases ea; have := kk.1; omega
  replace ap : appendC h1 1 1 (.slice a i c ez) (some (1, ofI .u8 [b])) = some (.slice a' (i + 1) c' e', h2) := ap
  obtain ⟨C, eC⟩ : ∃ C, ofI .u8 [b] = C := ⟨_, rfl⟩
  rw [eC] at sc ap
  refine ⟨_, h2, by
    simp (config := {maxSteps := 2000000}) (disch := first | omega | (simp only [List.length_cons, List.length_nil, List.length_append, List.length_drop]; omega)) only [L_purserref01_Fixed_0, t0, t1, t6, t7, r1, q1, q2, w8, e1, sc, ap, c0, wi, ↓s_append, ↓b_xor32, ↓b_and32, ↓b_or32, ↓u_not32, b_xor32, b_and32, b_or32, u_not32, w32ad, ↓x_conv, x_convV, ↓x_fieldAddr, x_fieldV, ↓s_nilchk, x_nilchk, Nat.zero_add, Nat.add_zero, Nat.mul_one, ↓l_loop, ↓l_succ, ↓l_normal, l_normal, l_exit, l_ret, l_iteN, ↓h_put_get, ↓h_new_get, ↓h_del_get, h_next_put, h_next_new, h_next_del, Nat.add_assoc, Nat.add_eq_left, Nat.left_eq_add, Nat.add_left_cancel_iff, ↓s_load, m_load, ↓m_load1, m_load1, ↓m_st, m_stE, m_storeI, m_storeE, w_zero, w_succ, ↓s_alloc, ↓x_idxA, ↓x_idxS, x_idxAE, x_idxSE, x_addrE, x_idx, x_lenS, ↓s_len, ↓x_buildS, x_buildE, ↓x_P0, ↓x_P1, x_fill0, x_filli, x_fills, x_fillb, c_int, List.length_cons, List.length_nil, List.cons_append, List.drop_succ_cons, List.drop_zero, List.drop_nil, List.nil_append, Int.reduceAdd, Int.reduceToNat, Int.reduceLT, Int.reduceLE, Nat.reduceAdd, Nat.reduceMul, Nat.reduceLeDiff, Int.reduceEq, Int.reduceSub, Int.cast_ofNat_Int, s_resc, s_consR, m_load4, m_store4, s_res0, ↓s_skip, ↓s_ops, ↓s_dops, ↓s_seq, ↓s_cond, ↓s_block, ↓s_exit, ↓s_ret, ↓s_scope, ↓s_nil, ↓s_op, ↓s_opg, ↓s_wanted', ↓s_wantV, s_wantV, s_wantV0, beq_true, beq_false, ↓s_bindS, s_bindS, ↓s_bindE, s_bindE, s_bindE_ret, s_bindE_exit, s_bindE_iteN, s_norm, ↓s_condV, s_condV, s_block_ret, s_block_normal, s_block_exit, s_block_iteN, ↓s_getp, ↓s_getp0, ↓s_get, s_get0, ↓s_con, ↓s_fn, ↓s_os0, ↓s_os1, ↓s_list0, ↓s_list1, ↓s_mov, ↓s_pick, ↓s_pickE, s_pickE, ↓s_bin, ↓s_un, ↓s_minmax, ↓s_call, ↓s_callv, ↓s_callV, ↓s_ext, s_same, b_eql, b_neq, b_lss, b_leq, b_gtr, b_geq, b_add, b_sub, b_mul, b_eqlb, b_neqb, b_fnil, b_fnil', b_fnil2, b_fnil2', u_neg, u_not, m_two, s_end, s_end', s_end_iteN, s_res0, s_res1, s_tup1, s_tup2, ↓iteN_true, ↓iteN_false, iteN_true, iteN_false, Nat.zero_add, List.nil_append, List.append_nil, Nat.reduceEqDiff, reduceIte, decide_true, decide_false, Bool.not_true, Bool.not_false, List.getElem?_cons_zero, List.getElem?_cons_succ, Bool.false_eq_true, if_true, if_false, beq_self_eq_true]
    exact rfl, ⟨i1, (by (simp only [s_getp, s_getp0, Nat.reduceEqDiff, decide_false, decide_true, iteN_false, iteN_true, t0]; try rfl)), (by (simp only [s_getp, s_getp0, Nat.reduceEqDiff, decide_false, decide_true, iteN_false, iteN_true, t1]; try rfl)), (by (simp only [s_getp, s_getp0, Nat.reduceEqDiff, decide_false, decide_true, iteN_false, iteN_true, t7]; try rfl)), ⟨a', c', e', (by (simp only [s_getp, s_getp0, Nat.reduceEqDiff, decide_false, decide_true, iteN_false, iteN_true, t6]; try rfl)), nw2⟩⟩⟩
theorem rfixed_go (e : EnRf E) (x : NoRf X) (N : Nat) (s : Int) (n : Nat) (hn : n < 18446744073709551616) (h : H) :
    ∃ h' a c ez, callX E X (N + 20) (.fn k_purserref01_Fixed) [.int .i64 s, .int .u64 (n : Int)] h = some (.tup [.slice a (fixB s n).length c ez, .int .i64 (fixE s n : Nat)], h') ∧ Nw h h' (fixB s n) a c ez := by
  rw [x_cfn e.fx _ _ (Nat.le_of_ble_eq_true rfl) (x.fx _ _)]
  cases hs : sizedI s with
  | false =>
    have e2 : fixE s n = 2 := by unfold fixE; rw [hs, if_neg (by simp)]
    have e3 : fixB s n = [] := by unfold fixB; rw [e2, if_neg (by omega)]
    rw [e2, e3]
    unfold sizedI at hs
    simp only [Bool.or_eq_false_iff] at hs
    obtain ⟨q1, q2, q4, q8⟩ := hs
    refine ⟨h, none, some 0, 0, ?_, ⟨Kp.refl _, .nil _, fun _ _ e => by cases e⟩⟩
    rw [List.length_nil]
    simp (config := {maxSteps := 2000000}) (disch := first | omega | (simp only [List.length_cons, List.length_nil, List.length_append, List.length_drop]; omega)) only [q1, q2, q4, q8, ↓b_xor32, ↓b_and32, ↓b_or32, ↓u_not32, b_xor32, b_and32, b_or32, u_not32, w32ad, ↓x_conv, x_convV, ↓x_fieldAddr, x_fieldV, ↓s_nilchk, x_nilchk, Nat.zero_add, Nat.add_zero, Nat.mul_one, ↓l_loop, ↓l_succ, ↓l_normal, l_normal, l_exit, l_ret, l_iteN, ↓h_put_get, ↓h_new_get, ↓h_del_get, h_next_put, h_next_new, h_next_del, Nat.add_assoc, Nat.add_eq_left, Nat.left_eq_add, Nat.add_left_cancel_iff, ↓s_load, m_load, ↓m_load1, m_load1, ↓m_st, m_stE, m_storeI, m_storeE, w_zero, w_succ, ↓s_alloc, ↓x_idxA, ↓x_idxS, x_idxAE, x_idxSE, x_addrE, x_idx, x_lenS, ↓s_len, ↓x_buildS, x_buildE, ↓x_P0, ↓x_P1, x_fill0, x_filli, x_fills, x_fillb, c_int, List.length_cons, List.length_nil, List.cons_append, List.drop_succ_cons, List.drop_zero, List.drop_nil, List.nil_append, Int.reduceAdd, Int.reduceToNat, Int.reduceLT, Int.reduceLE, Nat.reduceAdd, Nat.reduceMul, Nat.reduceLeDiff, Int.reduceEq, Int.reduceSub, Int.cast_ofNat_Int, s_resc, s_consR, m_load4, m_store4, s_res0, ↓s_skip, ↓s_ops, ↓s_dops, ↓s_seq, ↓s_cond, ↓s_block, ↓s_exit, ↓s_ret, ↓s_scope, ↓s_nil, ↓s_op, ↓s_opg, ↓s_wanted', ↓s_wantV, s_wantV, s_wantV0, beq_true, beq_false, ↓s_bindS, s_bindS, ↓s_bindE, s_bindE, s_bindE_ret, s_bindE_exit, s_bindE_iteN, s_norm, ↓s_condV, s_condV, s_block_ret, s_block_normal, s_block_exit, s_block_iteN, ↓s_getp, ↓s_getp0, ↓s_get, s_get0, ↓s_con, ↓s_fn, ↓s_os0, ↓s_os1, ↓s_list0, ↓s_list1, ↓s_mov, ↓s_pick, ↓s_pickE, s_pickE, ↓s_bin, ↓s_un, ↓s_minmax, ↓s_call, ↓s_callv, ↓s_callV, ↓s_ext, s_same, b_eql, b_neq, b_lss, b_leq, b_gtr, b_geq, b_add, b_sub, b_mul, b_eqlb, b_neqb, b_fnil, b_fnil', b_fnil2, b_fnil2', u_neg, u_not, m_two, s_end, s_end', s_end_iteN, s_res0, s_res1, s_tup1, s_tup2, ↓iteN_true, ↓iteN_false, iteN_true, iteN_false, Nat.zero_add, List.nil_append, List.append_nil, Nat.reduceEqDiff, reduceIte, decide_true, decide_false, Bool.not_true, Bool.not_false, List.getElem?_cons_zero, List.getElem?_cons_succ, Bool.false_eq_true, if_true, if_false, beq_self_eq_true]
  | true =>
    obtain ⟨k, rfl, k0, k8, kk⟩ := sizedI_nat hs
    have wp := wid_pow' n k hn kk
    have fin : n < 256 ^ k → ∀ T, RFI k n h 0 T h → ∃ h' a c ez, fnEnd [.tmp 4, .tmp 5] (bindE (blockE 0 (loopN (evC (callX E X (N + 19)) 45 (N + 19) none L_purserref01_Fixed_0) (N + 19) ⟨T, [], h⟩)) (evC (callX E X (N + 19)) 45 (N + 19) none R_purserref01_Fixed_0)) = some (.tup [.slice a (fixB k n).length c ez, .int .i64 (fixE k n : Nat)], h') ∧ Nw h h' (fixB k n) a c ez := by
      intro hlt T I
      have e2 : fixE k n = 0 := by unfold fixE; rw [hs, if_pos rfl, if_pos (by have := wp.2 hlt; omega)]
      have e3 : fixB k n = leN k n := by unfold fixB; rw [e2, if_pos rfl, Int.toNat_natCast]
      obtain ⟨T', h', r, a, c, ez, t6, nw⟩ := loop_go (f := evC (callX E X (N + 19)) 45 (N + 19) none L_purserref01_Fixed_0) (RFI k n h) k (.exit 0) (by intro h; cases h) (fun T h' => ∃ a c e, evO T (.t 6) = .slice a k c e ∧ Nw h h' (leN k n) a c e) (rf_step e x (N + 9) (N + 19) k n k8 hn h) (fun T h' I => by
        obtain ⟨il, t0, t1, t7, ⟨a, c, ez, t6, nw⟩⟩ := I
        have c0 : decide ((k : Int) < (k : Int)) = false := decide_eq_false (by omega)
        refine ⟨_, _, by
          simp (config := {maxSteps := 2000000}) (disch := first | omega | (simp only [List.length_cons, List.length_nil, List.length_append, List.length_drop]; omega)) only [L_purserref01_Fixed_0, t0, t7, c0, ↓b_xor32, ↓b_and32, ↓b_or32, ↓u_not32, b_xor32, b_and32, b_or32, u_not32, w32ad, ↓x_conv, x_convV, ↓x_fieldAddr, x_fieldV, ↓s_nilchk, x_nilchk, Nat.zero_add, Nat.add_zero, Nat.mul_one, ↓l_loop, ↓l_succ, ↓l_normal, l_normal, l_exit, l_ret, l_iteN, ↓h_put_get, ↓h_new_get, ↓h_del_get, h_next_put, h_next_new, h_next_del, Nat.add_assoc, Nat.add_eq_left, Nat.left_eq_add, Nat.add_left_cancel_iff, ↓s_load, m_load, ↓m_load1, m_load1, ↓m_st, m_stE, m_storeI, m_storeE, w_zero, w_succ, ↓s_alloc, ↓x_idxA, ↓x_idxS, x_idxAE, x_idxSE, x_addrE, x_idx, x_lenS, ↓s_len, ↓x_buildS, x_buildE, ↓x_P0, ↓x_P1, x_fill0, x_filli, x_fills, x_fillb, c_int, List.length_cons, List.length_nil, List.cons_append, List.drop_succ_cons, List.drop_zero, List.drop_nil, List.nil_append, Int.reduceAdd, Int.reduceToNat, Int.reduceLT, Int.reduceLE, Nat.reduceAdd, Nat.reduceMul, Nat.reduceLeDiff, Int.reduceEq, Int.reduceSub, Int.cast_ofNat_Int, s_resc, s_consR, m_load4, m_store4, s_res0, ↓s_skip, ↓s_ops, ↓s_dops, ↓s_seq, ↓s_cond, ↓s_block, ↓s_exit, ↓s_ret, ↓s_scope, ↓s_nil, ↓s_op, ↓s_opg, ↓s_wanted', ↓s_wantV, s_wantV, s_wantV0, beq_true, beq_false, ↓s_bindS, s_bindS, ↓s_bindE, s_bindE, s_bindE_ret, s_bindE_exit, s_bindE_iteN, s_norm, ↓s_condV, s_condV, s_block_ret, s_block_normal, s_block_exit, s_block_iteN, ↓s_getp, ↓s_getp0, ↓s_get, s_get0, ↓s_con, ↓s_fn, ↓s_os0, ↓s_os1, ↓s_list0, ↓s_list1, ↓s_mov, ↓s_pick, ↓s_pickE, s_pickE, ↓s_bin, ↓s_un, ↓s_minmax, ↓s_call, ↓s_callv, ↓s_callV, ↓s_ext, s_same, b_eql, b_neq, b_lss, b_leq, b_gtr, b_geq, b_add, b_sub, b_mul, b_eqlb, b_neqb, b_fnil, b_fnil', b_fnil2, b_fnil2', u_neg, u_not, m_two, s_end, s_end', s_end_iteN, s_res0, s_res1, s_tup1, s_tup2, ↓iteN_true, ↓iteN_false, iteN_true, iteN_false, Nat.zero_add, List.nil_append, List.append_nil, Nat.reduceEqDiff, reduceIte, decide_true, decide_false, Bool.not_true, Bool.not_false, List.getElem?_cons_zero, List.getElem?_cons_succ, Bool.false_eq_true, if_true, if_false, beq_self_eq_true]
          exact rfl, ⟨a, c, ez, (by (simp only [s_getp, s_getp0, Nat.reduceEqDiff, decide_false, decide_true, iteN_false, iteN_true, t6]; try rfl)), nw⟩⟩) k 0 (by omega) (N + 19) (by omega) T h I
      rw [r, e2, e3, leN_len]
      refine ⟨h', a, c, ez, ?_, nw⟩
      simp (config := {maxSteps := 2000000}) (disch := first | omega | (simp only [List.length_cons, List.length_nil, List.length_append, List.length_drop]; omega)) only [R_purserref01_Fixed_0, t6, ↓b_xor32, ↓b_and32, ↓b_or32, ↓u_not32, b_xor32, b_and32, b_or32, u_not32, w32ad, ↓x_conv, x_convV, ↓x_fieldAddr, x_fieldV, ↓s_nilchk, x_nilchk, Nat.zero_add, Nat.add_zero, Nat.mul_one, ↓l_loop, ↓l_succ, ↓l_normal, l_normal, l_exit, l_ret, l_iteN, ↓h_put_get, ↓h_new_get, ↓h_del_get, h_next_put, h_next_new, h_next_del, Nat.add_assoc, Nat.add_eq_left, Nat.left_eq_add, Nat.add_left_cancel_iff, ↓s_load, m_load, ↓m_load1, m_load1, ↓m_st, m_stE, m_storeI, m_storeE, w_zero, w_succ, ↓s_alloc, ↓x_idxA, ↓x_idxS, x_idxAE, x_idxSE, x_addrE, x_idx, x_lenS, ↓s_len, ↓x_buildS, x_buildE, ↓x_P0, ↓x_P1, x_fill0, x_filli, x_fills, x_fillb, c_int, List.length_cons, List.length_nil, List.cons_append, List.drop_succ_cons, List.drop_zero, List.drop_nil, List.nil_append, Int.reduceAdd, Int.reduceToNat, Int.reduceLT, Int.reduceLE, Nat.reduceAdd, Nat.reduceMul, Nat.reduceLeDiff, Int.reduceEq, Int.reduceSub, Int.cast_ofNat_Int, s_resc, s_consR, m_load4, m_store4, s_res0, ↓s_skip, ↓s_ops, ↓s_dops, ↓s_seq, ↓s_cond, ↓s_block, ↓s_exit, ↓s_ret, ↓s_scope, ↓s_nil, ↓s_op, ↓s_opg, ↓s_wanted', ↓s_wantV, s_wantV, s_wantV0, beq_true, beq_false, ↓s_bindS, s_bindS, ↓s_bindE, s_bindE, s_bindE_ret, s_bindE_exit, s_bindE_iteN, s_norm, ↓s_condV, s_condV, s_block_ret, s_block_normal, s_block_exit, s_block_iteN, ↓s_getp, ↓s_getp0, ↓s_get, s_get0, ↓s_con, ↓s_fn, ↓s_os0, ↓s_os1, ↓s_list0, ↓s_list1, ↓s_mov, ↓s_pick, ↓s_pickE, s_pickE, ↓s_bin, ↓s_un, ↓s_minmax, ↓s_call, ↓s_callv, ↓s_callV, ↓s_ext, s_same, b_eql, b_neq, b_lss, b_leq, b_gtr, b_geq, b_add, b_sub, b_mul, b_eqlb, b_neqb, b_fnil, b_fnil', b_fnil2, b_fnil2', u_neg, u_not, m_two, s_end, s_end', s_end_iteN, s_res0, s_res1, s_tup1, s_tup2, ↓iteN_true, ↓iteN_false, iteN_true, iteN_false, Nat.zero_add, List.nil_append, List.append_nil, Nat.reduceEqDiff, reduceIte, decide_true, decide_false, Bool.not_true, Bool.not_false, List.getElem?_cons_zero, List.getElem?_cons_succ, Bool.false_eq_true, if_true, if_false, beq_self_eq_true]
      try rfl
    have bad : ¬ n < 256 ^ k → fixE k n = 10 ∧ fixB k n = [] := fun hlt => by
      have e2 : fixE k n = 10 := by unfold fixE; rw [hs, if_pos rfl, if_neg (fun h => hlt (wp.1 (by omega)))]
      exact ⟨e2, by unfold fixB; rw [e2, if_neg (by omega)]⟩
    have r1 := fun (h7 : k ≤ 7) => power_go e.pw x.pw (N + 9) k h7 h
    replace r1 : k ≤ 7 → callX E X (N + 19) (.fn k_purserref01_power) [.int .i64 (k : Int)] h = some (.int .u64 ((256 ^ k : Nat) : Int), h) := r1
    obtain ⟨R, eR⟩ : ∃ R, R_purserref01_Fixed_0 = R := ⟨_, rfl⟩
    obtain ⟨Lo, eL⟩ : ∃ R, L_purserref01_Fixed_0 = R := ⟨_, rfl⟩
    rw [eR, eL] at fin ⊢
    have dk : ∀ j : Nat, decide ((k : Int) = (j : Int)) = decide (k = j) := fun j => by rw [decide_eq_decide]; omega
    have d1 := dk 1
    have d2 := dk 2
    have d4 := dk 4
    have d8 := dk 8
    simp only [Int.cast_ofNat_Int] at d1 d2 d4 d8
    have I0 : ∀ T, evO T (.t 0) = .int .i64 (k : Int) → evO T (.t 1) = .int .u64 (n : Int) → evO T (.t 7) = .int .i64 0 → evO T (.t 6) = .slice none 0 (some 0) 0 → RFI k n h 0 T h := fun T a1 a2 a3 a4 => ⟨by omega, a1, a2, a3, ⟨none, some 0, 0, a4, ⟨Kp.refl _, .nil _, fun _ _ e => by cases e⟩⟩⟩
    have hd : (decide (k = 1) || (decide (k = 2) || (decide (k = 4) || decide (k = 8)))) = true := by
      rcases kk with h | h | h | h <;> subst h <;> rfl
    by_cases h7 : k ≤ 7
    · have c7 : decide ((k : Int) < 8) = true := decide_eq_true (by omega)
      replace r1 := r1 h7
      by_cases hlt : n < 256 ^ k
      · have fin' := fin hlt
        clear fin bad
        generalize 256 ^ k = p at *
        have cg : decide ((p : Int) ≤ (n : Int)) = false := decide_eq_false (by omega)
        generalize decide (k = 1) = b1 at *
        generalize decide (k = 2) = b2 at *
        generalize decide (k = 4) = b4 at *
        generalize decide (k = 8) = b8 at *
        cases b1 <;> cases b2 <;> cases b4 <;> cases b8 <;> first | (exfalso; revert hd; decide; done) | skip
        all_goals (simp (config := {maxSteps := 2000000}) (disch := first | omega | (simp only [List.length_cons, List.length_nil, List.length_append, List.length_drop]; omega)) only [d1, d2, d4, d8, c7, r1, cg, ↓b_xor32, ↓b_and32, ↓b_or32, ↓u_not32, b_xor32, b_and32, b_or32, u_not32, w32ad, ↓x_conv, x_convV, ↓x_fieldAddr, x_fieldV, ↓s_nilchk, x_nilchk, Nat.zero_add, Nat.add_zero, Nat.mul_one, ↓l_loop, ↓l_succ, ↓l_normal, l_normal, l_exit, l_ret, l_iteN, ↓h_put_get, ↓h_new_get, ↓h_del_get, h_next_put, h_next_new, h_next_del, Nat.add_assoc, Nat.add_eq_left, Nat.left_eq_add, Nat.add_left_cancel_iff, ↓s_load, m_load, ↓m_load1, m_load1, ↓m_st, m_stE, m_storeI, m_storeE, w_zero, w_succ, ↓s_alloc, ↓x_idxA, ↓x_idxS, x_idxAE, x_idxSE, x_addrE, x_idx, x_lenS, ↓s_len, ↓x_buildS, x_buildE, ↓x_P0, ↓x_P1, x_fill0, x_filli, x_fills, x_fillb, c_int, List.length_cons, List.length_nil, List.cons_append, List.drop_succ_cons, List.drop_zero, List.drop_nil, List.nil_append, Int.reduceAdd, Int.reduceToNat, Int.reduceLT, Int.reduceLE, Nat.reduceAdd, Nat.reduceMul, Nat.reduceLeDiff, Int.reduceEq, Int.reduceSub, Int.cast_ofNat_Int, s_resc, s_consR, m_load4, m_store4, s_res0, ↓s_skip, ↓s_ops, ↓s_dops, ↓s_seq, ↓s_cond, ↓s_block, ↓s_exit, ↓s_ret, ↓s_scope, ↓s_nil, ↓s_op, ↓s_opg, ↓s_wanted', ↓s_wantV, s_wantV, s_wantV0, beq_true, beq_false, ↓s_bindS, s_bindS, ↓s_bindE, s_bindE, s_bindE_ret, s_bindE_exit, s_bindE_iteN, s_norm, ↓s_condV, s_condV, s_block_ret, s_block_normal, s_block_exit, s_block_iteN, ↓s_getp, ↓s_getp0, ↓s_get, s_get0, ↓s_con, ↓s_fn, ↓s_os0, ↓s_os1, ↓s_list0, ↓s_list1, ↓s_mov, ↓s_pick, ↓s_pickE, s_pickE, ↓s_bin, ↓s_un, ↓s_minmax, ↓s_call, ↓s_callv, ↓s_callV, ↓s_ext, s_same, b_eql, b_neq, b_lss, b_leq, b_gtr, b_geq, b_add, b_sub, b_mul, b_eqlb, b_neqb, b_fnil, b_fnil', b_fnil2, b_fnil2', u_neg, u_not, m_two, s_end, s_end', s_end_iteN, s_res0, s_res1, s_tup1, s_tup2, ↓iteN_true, ↓iteN_false, iteN_true, iteN_false, Nat.zero_add, List.nil_append, List.append_nil, Nat.reduceEqDiff, reduceIte, decide_true, decide_false, Bool.not_true, Bool.not_false, List.getElem?_cons_zero, List.getElem?_cons_succ, Bool.false_eq_true, if_true, if_false, beq_self_eq_true]; exact fin' _ (I0 _ (by (simp only [s_getp, s_getp0, Nat.reduceEqDiff, decide_false, decide_true, iteN_false, iteN_true, eL]; try rfl)) (by (simp only [s_getp, s_getp0, Nat.reduceEqDiff, decide_false, decide_true, iteN_false, iteN_true, eL]; try rfl)) (by (simp only [s_getp, s_getp0, Nat.reduceEqDiff, decide_false, decide_true, iteN_false, iteN_true, eL]; try rfl)) (by (simp only [s_getp, s_getp0, Nat.reduceEqDiff, decide_false, decide_true, iteN_false, iteN_true, eL]; try rfl))))
      · obtain ⟨e2, e3⟩ := bad hlt
        rw [e2, e3]
        generalize 256 ^ k = p at *
        have cg : decide ((p : Int) ≤ (n : Int)) = true := decide_eq_true (by omega)
        refine ⟨h, none, some 0, 0, ?_, ⟨Kp.refl _, .nil _, fun _ _ e => by cases e⟩⟩
        rw [List.length_nil]
        generalize decide (k = 1) = b1 at *
        generalize decide (k = 2) = b2 at *
        generalize decide (k = 4) = b4 at *
        generalize decide (k = 8) = b8 at *
        cases b1 <;> cases b2 <;> cases b4 <;> cases b8 <;> first | (exfalso; revert hd; decide; done) | skip
        all_goals (simp (config := {maxSteps := 2000000}) (disch := first | omega | (simp only [List.length_cons, List.length_nil, List.length_append, List.length_drop]; omega)) only [d1, d2, d4, d8, c7, r1, cg, ↓b_xor32, ↓b_and32, ↓b_or32, ↓u_not32, b_xor32, b_and32, b_or32, u_not32, w32ad, ↓x_conv, x_convV, ↓x_fieldAddr, x_fieldV, ↓s_nilchk, x_nilchk, Nat.zero_add, Nat.add_zero, Nat.mul_one, ↓l_loop, ↓l_succ, ↓l_normal, l_normal, l_exit, l_ret, l_iteN, ↓h_put_get, ↓h_new_get, ↓h_del_get, h_next_put, h_next_new, h_next_del, Nat.add_assoc, Nat.add_eq_left, Nat.left_eq_add, Nat.add_left_cancel_iff, ↓s_load, m_load, ↓m_load1, m_load1, ↓m_st, m_stE, m_storeI, m_storeE, w_zero, w_succ, ↓s_alloc, ↓x_idxA, ↓x_idxS, x_idxAE, x_idxSE, x_addrE, x_idx, x_lenS, ↓s_len, ↓x_buildS, x_buildE, ↓x_P0, ↓x_P1, x_fill0, x_filli, x_fills, x_fillb, c_int, List.length_cons, List.length_nil, List.cons_append, List.drop_succ_cons, List.drop_zero, List.drop_nil, List.nil_append, Int.reduceAdd, Int.reduceToNat, Int.reduceLT, Int.reduceLE, Nat.reduceAdd, Nat.reduceMul, Nat.reduceLeDiff, Int.reduceEq, Int.reduceSub, Int.cast_ofNat_Int, s_resc, s_consR, m_load4, m_store4, s_res0, ↓s_skip, ↓s_ops, ↓s_dops, ↓s_seq, ↓s_cond, ↓s_block, ↓s_exit, ↓s_ret, ↓s_scope, ↓s_nil, ↓s_op, ↓s_opg, ↓s_wanted', ↓s_wantV, s_wantV, s_wantV0, beq_true, beq_false, ↓s_bindS, s_bindS, ↓s_bindE, s_bindE, s_bindE_ret, s_bindE_exit, s_bindE_iteN, s_norm, ↓s_condV, s_condV, s_block_ret, s_block_normal, s_block_exit, s_block_iteN, ↓s_getp, ↓s_getp0, ↓s_get, s_get0, ↓s_con, ↓s_fn, ↓s_os0, ↓s_os1, ↓s_list0, ↓s_list1, ↓s_mov, ↓s_pick, ↓s_pickE, s_pickE, ↓s_bin, ↓s_un, ↓s_minmax, ↓s_call, ↓s_callv, ↓s_callV, ↓s_ext, s_same, b_eql, b_neq, b_lss, b_leq, b_gtr, b_geq, b_add, b_sub, b_mul, b_eqlb, b_neqb, b_fnil, b_fnil', b_fnil2, b_fnil2', u_neg, u_not, m_two, s_end, s_end', s_end_iteN, s_res0, s_res1, s_tup1, s_tup2, ↓iteN_true, ↓iteN_false, iteN_true, iteN_false, Nat.zero_add, List.nil_append, List.append_nil, Nat.reduceEqDiff, reduceIte, decide_true, decide_false, Bool.not_true, Bool.not_false, List.getElem?_cons_zero, List.getElem?_cons_succ, Bool.false_eq_true, if_true, if_false, beq_self_eq_true])
    · obtain rfl : k = 8 := by omega
      have fin := fin hn
      have c7 : decide (((8 : Nat) : Int) < 8) = false := rfl
      have c7' : decide ((8 : Int) < 8) = false := rfl
      simp (config := {maxSteps := 2000000}) (disch := first | omega | (simp only [List.length_cons, List.length_nil, List.length_append, List.length_drop]; omega)) only [c7, c7', ↓b_xor32, ↓b_and32, ↓b_or32, ↓u_not32, b_xor32, b_and32, b_or32, u_not32, w32ad, ↓x_conv, x_convV, ↓x_fieldAddr, x_fieldV, ↓s_nilchk, x_nilchk, Nat.zero_add, Nat.add_zero, Nat.mul_one, ↓l_loop, ↓l_succ, ↓l_normal, l_normal, l_exit, l_ret, l_iteN, ↓h_put_get, ↓h_new_get, ↓h_del_get, h_next_put, h_next_new, h_next_del, Nat.add_assoc, Nat.add_eq_left, Nat.left_eq_add, Nat.add_left_cancel_iff, ↓s_load, m_load, ↓m_load1, m_load1, ↓m_st, m_stE, m_storeI, m_storeE, w_zero, w_succ, ↓s_alloc, ↓x_idxA, ↓x_idxS, x_idxAE, x_idxSE, x_addrE, x_idx, x_lenS, ↓s_len, ↓x_buildS, x_buildE, ↓x_P0, ↓x_P1, x_fill0, x_filli, x_fills, x_fillb, c_int, List.length_cons, List.length_nil, List.cons_append, List.drop_succ_cons, List.drop_zero, List.drop_nil, List.nil_append, Int.reduceAdd, Int.reduceToNat, Int.reduceLT, Int.reduceLE, Nat.reduceAdd, Nat.reduceMul, Nat.reduceLeDiff, Int.reduceEq, Int.reduceSub, Int.cast_ofNat_Int, s_resc, s_consR, m_load4, m_store4, s_res0, ↓s_skip, ↓s_ops, ↓s_dops, ↓s_seq, ↓s_cond, ↓s_block, ↓s_exit, ↓s_ret, ↓s_scope, ↓s_nil, ↓s_op, ↓s_opg, ↓s_wanted', ↓s_wantV, s_wantV, s_wantV0, beq_true, beq_false, ↓s_bindS, s_bindS, ↓s_bindE, s_bindE, s_bindE_ret, s_bindE_exit, s_bindE_iteN, s_norm, ↓s_condV, s_condV, s_block_ret, s_block_normal, s_block_exit, s_block_iteN, ↓s_getp, ↓s_getp0, ↓s_get, s_get0, ↓s_con, ↓s_fn, ↓s_os0, ↓s_os1, ↓s_list0, ↓s_list1, ↓s_mov, ↓s_pick, ↓s_pickE, s_pickE, ↓s_bin, ↓s_un, ↓s_minmax, ↓s_call, ↓s_callv, ↓s_callV, ↓s_ext, s_same, b_eql, b_neq, b_lss, b_leq, b_gtr, b_geq, b_add, b_sub, b_mul, b_eqlb, b_neqb, b_fnil, b_fnil', b_fnil2, b_fnil2', u_neg, u_not, m_two, s_end, s_end', s_end_iteN, s_res0, s_res1, s_tup1, s_tup2, ↓iteN_true, ↓iteN_false, iteN_true, iteN_false, Nat.zero_add, List.nil_append, List.append_nil, Nat.reduceEqDiff, reduceIte, decide_true, decide_false, Bool.not_true, Bool.not_false, List.getElem?_cons_zero, List.getElem?_cons_succ, Bool.false_eq_true, if_true, if_false, beq_self_eq_true]
      exact fin _ (I0 _ (by (simp only [s_getp, s_getp0, Nat.reduceEqDiff, decide_false, decide_true, iteN_false, iteN_true, eL]; try rfl)) (by (simp only [s_getp, s_getp0, Nat.reduceEqDiff, decide_false, decide_true, iteN_false, iteN_true, eL]; try rfl)) (by (simp only [s_getp, s_getp0, Nat.reduceEqDiff, decide_false, decide_true, iteN_false, iteN_true, eL]; try rfl)) (by (simp only [s_getp, s_getp0, Nat.reduceEqDiff, decide_false, decide_true, iteN_false, iteN_true, eL]; try rfl)))
end Go.Eng
namespace Go.Eng
open Go
variable {E : Nat → Option Fn} {X : Orc}
set_option linter.unusedSimpArgs false
set_option linter.unusedVariables false
/-- what Size of the document answers: a slice that is its own, or a row of one -/
def SzH (h : H) (w : List Nat) (a : Option (Nat × Nat)) (c : Option Nat) (e : Nat) : Prop := Wb h w a c e ∨ ∃ y q, w = [y] ∧ a = some (q, 0) ∧ c = some 1 ∧ e = 1 ∧ h.get q = some (.cells (ofI .u8 w) .rw) ∧ q < h.next
theorem SzH.src {h : H} {w : List Nat} {a : Option (Nat × Nat)} {c : Option Nat} {e : Nat} (s : SzH h w a c e) : SrcH h a e w := by
  rcases s with s | ⟨y, q, rfl, rfl, rfl, rfl, g, hq⟩
  · exact s.src
  · exact .inr ⟨q, 0, _, .rw, rfl, rfl, hq, g, by rw [ofI_len]; omega, by rw [List.drop_zero]; exact List.take_of_length_le (by rw [ofI_len]; exact Nat.le_refl _)⟩
theorem app11 (h : H) (q y n : Nat) (l : List Nat) (hl : l.length = n + 1) (hn : n ≤ 1000000) (g : h.get q = some (.cells (ofI .u8 [y]) .rw)) : appendC h 1 1 (.slice (some (q, 0)) 1 (some 1) 1) (some (n + 1, ofI .u8 l)) = some (.slice (some (h.next, 0)) (1 + (n + 1)) none 1, h.new (.cells (ofI .u8 (y :: l)) .rw)) := by
  unfold appendC
  simp only
  have r : (roomy (1 + (n + 1)) 1 && (Nat.beq 1 1 || (some (q, 0) : Option (Nat × Nat)).isNone) && (ofI .u8 l).all plainV) = true := by
    rw [plain_ofI]; have : roomy (1 + (n + 1)) 1 = true := by simp [roomy]; omega
    rw [this]; rfl
  have f : fullC (some 1) (1 + (n + 1)) = true := by
    show Nat.blt 1 (1 + (n + 1)) = true
    simp
  rw [r]
  simp only [_root_.cond_true, g, f]
  rfl
theorem ap_sz (h : H) (w l : List Nat) (a : Option (Nat × Nat)) (c : Option Nat) (e : Nat) (s : SzH h w a c e) (hl : w.length + l.length ≤ 1000000) :
    ∃ a' c' e' h', appendC h 1 1 (.slice a w.length c e) (some (l.length, ofI .u8 l)) = some (.slice a' (w ++ l).length c' e', h') ∧ SzH h' (w ++ l) a' c' e' ∧ h.next ≤ h'.next ∧ (∀ i, i < h.next → a ≠ some (i, 0) → h'.get i = h.get i) ∧ (a' = a ∨ a' = some (h.next, 0)) := by
  rcases s with s | ⟨y, q, rfl, rfl, rfl, rfl, g, hq⟩
  · obtain ⟨a', c', e', h', r, wb, n1, f1, o1⟩ := ap_wb h w l a c e s hl
    exact ⟨a', c', e', h', r, .inl wb, n1, f1, o1⟩
  · cases hn : l.length with
    | zero =>
      obtain rfl : l = [] := List.length_eq_zero_iff.1 hn
      exact ⟨_, _, _, _, appN _ _ _ _ _ _, .inr ⟨y, q, rfl, rfl, rfl, rfl, g, hq⟩, Nat.le_refl _, fun _ _ _ => rfl, .inl rfl⟩
    | succ n =>
      have ap := app11 h q y n l hn (by rw [hn] at hl; simp at hl; omega) g
      refine ⟨_, _, _, _, by rw [show ([y] ++ l).length = 1 + (n + 1) by simp [hn]; omega]; exact ap, .inl (.inr ⟨by simp, h.next, .rw, rfl, rfl, rfl, h_new_same _ _, rfl, Nat.lt_succ_self _⟩), Nat.le_succ _, fun i hi _ => h_new_ne _ _ (by omega), .inr rfl⟩
theorem rsize_go (e : EnRf E) (x : NoRf X) (N n : Nat) (hn : n < 18446744073709551616) (h : H) :
    ∃ h' a c ez, callX E X (N + 21) (.fn k_purserref01_Size) [.int .u64 (n : Int)] h = some (.slice a (sizV n).length c ez, h') ∧ Kp h h' ∧ SzH h' (sizV n) a c ez ∧ ∀ q o, a = some (q, o) → h.next ≤ q := by
  rw [x_cfn e.sz _ _ (Nat.le_of_ble_eq_true rfl) (x.sz _ _)]
  by_cases h0 : n < 253
  · have c0 : decide ((n : Int) < 253) = true := decide_eq_true (by omega)
    have es : sizV n = [n] := by unfold sizV; rw [if_pos h0]
    have w8 : wr .u8 (n : Int) = (n : Int) := by rw [w8n, Nat.mod_eq_of_lt (by omega)]
    rw [es]
    refine ⟨h.new (.cells [.int .u8 (n : Int)] .rw), some (h.next, 0), some 1, 1, ?_, Kp.new _ _, .inr ⟨n, h.next, rfl, rfl, rfl, rfl, h_new_same _ _, Nat.lt_succ_self _⟩, fun q o ea => by cases ea; exact Nat.le_refl _⟩
    simp (config := {maxSteps := 2000000}) (disch := first | omega | (simp only [List.length_cons, List.length_nil, List.length_append, List.length_drop]; omega)) only [c0, w8, ↓b_xor32, ↓b_and32, ↓b_or32, ↓u_not32, b_xor32, b_and32, b_or32, u_not32, w32ad, ↓x_conv, x_convV, ↓x_fieldAddr, x_fieldV, ↓s_nilchk, x_nilchk, Nat.zero_add, Nat.add_zero, Nat.mul_one, ↓l_loop, ↓l_succ, ↓l_normal, l_normal, l_exit, l_ret, l_iteN, ↓h_put_get, ↓h_new_get, ↓h_del_get, h_next_put, h_next_new, h_next_del, Nat.add_assoc, Nat.add_eq_left, Nat.left_eq_add, Nat.add_left_cancel_iff, ↓s_load, m_load, ↓m_load1, m_load1, ↓m_st, m_stE, m_storeI, m_storeE, w_zero, w_succ, ↓s_alloc, ↓x_idxA, ↓x_idxS, x_idxAE, x_idxSE, x_addrE, x_idx, x_lenS, ↓s_len, ↓x_buildS, x_buildE, ↓x_P0, ↓x_P1, x_fill0, x_filli, x_fills, x_fillb, c_int, List.length_cons, List.length_nil, List.cons_append, List.drop_succ_cons, List.drop_zero, List.drop_nil, List.nil_append, Int.reduceAdd, Int.reduceToNat, Int.reduceLT, Int.reduceLE, Nat.reduceAdd, Nat.reduceMul, Nat.reduceLeDiff, Int.reduceEq, Int.reduceSub, Int.cast_ofNat_Int, s_resc, s_consR, m_load4, m_store4, s_res0, ↓s_skip, ↓s_ops, ↓s_dops, ↓s_seq, ↓s_cond, ↓s_block, ↓s_exit, ↓s_ret, ↓s_scope, ↓s_nil, ↓s_op, ↓s_opg, ↓s_wanted', ↓s_wantV, s_wantV, s_wantV0, beq_true, beq_false, ↓s_bindS, s_bindS, ↓s_bindE, s_bindE, s_bindE_ret, s_bindE_exit, s_bindE_iteN, s_norm, ↓s_condV, s_condV, s_block_ret, s_block_normal, s_block_exit, s_block_iteN, ↓s_getp, ↓s_getp0, ↓s_get, s_get0, ↓s_con, ↓s_fn, ↓s_os0, ↓s_os1, ↓s_list0, ↓s_list1, ↓s_mov, ↓s_pick, ↓s_pickE, s_pickE, ↓s_bin, ↓s_un, ↓s_minmax, ↓s_call, ↓s_callv, ↓s_callV, ↓s_ext, s_same, b_eql, b_neq, b_lss, b_leq, b_gtr, b_geq, b_add, b_sub, b_mul, b_eqlb, b_neqb, b_fnil, b_fnil', b_fnil2, b_fnil2', u_neg, u_not, m_two, s_end, s_end', s_end_iteN, s_res0, s_res1, s_tup1, s_tup2, ↓iteN_true, ↓iteN_false, iteN_true, iteN_false, Nat.zero_add, List.nil_append, List.append_nil, Nat.reduceEqDiff, reduceIte, decide_true, decide_false, Bool.not_true, Bool.not_false, List.getElem?_cons_zero, List.getElem?_cons_succ, Bool.false_eq_true, if_true, if_false, beq_self_eq_true]
  · have c0 : decide ((n : Int) < 253) = false := decide_eq_false (by omega)
    obtain ⟨more, mk, hm, ec, es⟩ := siz_split n (by omega)
    have hmk : mk < 256 := by omega
    obtain ⟨_, c3, c5, c9⟩ := cpl_lt n
    have np : n < 256 ^ more := by
      rcases hm with ⟨rfl, rfl⟩ | ⟨rfl, rfl⟩ | ⟨rfl, rfl⟩
      · exact (c3 ec).2
      · exact (c5 ec).2
      · exact hn
    have hz : sizedI (more : Int) = true := by rcases hm with ⟨rfl, rfl⟩ | ⟨rfl, rfl⟩ | ⟨rfl, rfl⟩ <;> rfl
    have e2 : fixE (more : Int) n = 0 := by unfold fixE; rw [hz, if_pos rfl, if_pos (by have := (wid_pow' n more hn (by omega)).2 np; omega)]
    have e3 : fixB (more : Int) n = leN more n := by unfold fixB; rw [e2, if_pos rfl, Int.toNat_natCast]
    obtain ⟨h1, a1, c1, z1, r1, nw1⟩ := rfixed_go e x N (more : Int) n hn h
    rw [e2, e3, leN_len] at r1
    rw [e3] at nw1
    rw [leN_1 _ hmk] at es
    obtain ⟨h2, eh2⟩ : ∃ h2, h1.new (.cells [.int .u8 (mk : Int)] .rw) = h2 := ⟨_, rfl⟩
    have k12 : Kp h1 h2 := by rw [← eh2]; exact Kp.new _ _
    have g2 : h2.get h1.next = some (.cells (ofI .u8 [mk]) .rw) := by rw [← eh2]; exact h_new_same _ _
    have n2 : h1.next < h2.next := by rw [← eh2]; exact Nat.lt_succ_self _
    have sc := (nw1.wb.kp k12).src.cellz c1
    rw [leN_len] at sc
    obtain ⟨a3, c3', e3', h3, ap, sz, n3, f3, o3⟩ := ap_sz h2 [mk] (leN more n) (some (h1.next, 0)) (some 1) 1 (.inr ⟨mk, h1.next, rfl, rfl, rfl, rfl, g2, n2⟩) (by rw [leN_len]; simp; omega)
    have nk := nw1.kp.1
    rw [es]
    refine ⟨h3, a3, c3', e3', ?_, ⟨by omega, fun j hj => by rw [f3 j (by omega) (fun e => by cases e; omega), k12.2 _ (by omega), nw1.kp.2 _ hj]⟩, sz, fun q o ea => by
      rcases o3 with o3 | o3
      · rw [o3] at ea; cases ea; exact nk
      · rw [o3] at ea; cases ea; omega⟩
    rw [leN_len] at ap
    replace ap : appendC h2 1 1 (.slice (some (h1.next, 0)) 1 (some 1) 1) (some (more, ofI .u8 (leN more n))) = some (.slice a3 ([mk] ++ leN more n).length c3' e3', h3) := ap
    obtain ⟨L, eL⟩ : ∃ L, ([mk] ++ leN more n).length = L := ⟨_, rfl⟩
    rw [eL] at ap ⊢
    obtain ⟨C, eC⟩ : ∃ C, ofI .u8 (leN more n) = C := ⟨_, rfl⟩
    rw [eC] at ap sc
    replace r1 : callX E X (N + 20) (.fn k_purserref01_Fixed) [.int .i64 (more : Int), .int .u64 (n : Int)] h = some (.tup [.slice a1 more c1 z1, .int .i64 0], h1) := r1
    rcases hm with ⟨rfl, rfl⟩ | ⟨rfl, rfl⟩ | ⟨rfl, rfl⟩
    · have := c3 ec
      have g1 : decide ((65535 : Int) < (n : Int)) = false := decide_eq_false (by omega)
      have g2 : decide ((4294967295 : Int) < (n : Int)) = false := decide_eq_false (by omega)
      simp only [Int.cast_ofNat_Int] at r1 eh2
      simp (config := {maxSteps := 2000000}) (disch := first | omega | (simp only [List.length_cons, List.length_nil, List.length_append, List.length_drop]; omega)) only [c0, g1, g2, r1, eh2, sc, ap, ↓s_append, ↓b_xor32, ↓b_and32, ↓b_or32, ↓u_not32, b_xor32, b_and32, b_or32, u_not32, w32ad, ↓x_conv, x_convV, ↓x_fieldAddr, x_fieldV, ↓s_nilchk, x_nilchk, Nat.zero_add, Nat.add_zero, Nat.mul_one, ↓l_loop, ↓l_succ, ↓l_normal, l_normal, l_exit, l_ret, l_iteN, ↓h_put_get, ↓h_new_get, ↓h_del_get, h_next_put, h_next_new, h_next_del, Nat.add_assoc, Nat.add_eq_left, Nat.left_eq_add, Nat.add_left_cancel_iff, ↓s_load, m_load, ↓m_load1, m_load1, ↓m_st, m_stE, m_storeI, m_storeE, w_zero, w_succ, ↓s_alloc, ↓x_idxA, ↓x_idxS, x_idxAE, x_idxSE, x_addrE, x_idx, x_lenS, ↓s_len, ↓x_buildS, x_buildE, ↓x_P0, ↓x_P1, x_fill0, x_filli, x_fills, x_fillb, c_int, List.length_cons, List.length_nil, List.cons_append, List.drop_succ_cons, List.drop_zero, List.drop_nil, List.nil_append, Int.reduceAdd, Int.reduceToNat, Int.reduceLT, Int.reduceLE, Nat.reduceAdd, Nat.reduceMul, Nat.reduceLeDiff, Int.reduceEq, Int.reduceSub, Int.cast_ofNat_Int, s_resc, s_consR, m_load4, m_store4, s_res0, ↓s_skip, ↓s_ops, ↓s_dops, ↓s_seq, ↓s_cond, ↓s_block, ↓s_exit, ↓s_ret, ↓s_scope, ↓s_nil, ↓s_op, ↓s_opg, ↓s_wanted', ↓s_wantV, s_wantV, s_wantV0, beq_true, beq_false, ↓s_bindS, s_bindS, ↓s_bindE, s_bindE, s_bindE_ret, s_bindE_exit, s_bindE_iteN, s_norm, ↓s_condV, s_condV, s_block_ret, s_block_normal, s_block_exit, s_block_iteN, ↓s_getp, ↓s_getp0, ↓s_get, s_get0, ↓s_con, ↓s_fn, ↓s_os0, ↓s_os1, ↓s_list0, ↓s_list1, ↓s_mov, ↓s_pick, ↓s_pickE, s_pickE, ↓s_bin, ↓s_un, ↓s_minmax, ↓s_call, ↓s_callv, ↓s_callV, ↓s_ext, s_same, b_eql, b_neq, b_lss, b_leq, b_gtr, b_geq, b_add, b_sub, b_mul, b_eqlb, b_neqb, b_fnil, b_fnil', b_fnil2, b_fnil2', u_neg, u_not, m_two, s_end, s_end', s_end_iteN, s_res0, s_res1, s_tup1, s_tup2, ↓iteN_true, ↓iteN_false, iteN_true, iteN_false, Nat.zero_add, List.nil_append, List.append_nil, Nat.reduceEqDiff, reduceIte, decide_true, decide_false, Bool.not_true, Bool.not_false, List.getElem?_cons_zero, List.getElem?_cons_succ, Bool.false_eq_true, if_true, if_false, beq_self_eq_true]
    · have := c5 ec
      have g1 : decide ((65535 : Int) < (n : Int)) = true := decide_eq_true (by omega)
      have g2 : decide ((4294967295 : Int) < (n : Int)) = false := decide_eq_false (by omega)
      simp only [Int.cast_ofNat_Int] at r1 eh2
      simp (config := {maxSteps := 2000000}) (disch := first | omega | (simp only [List.length_cons, List.length_nil, List.length_append, List.length_drop]; omega)) only [c0, g1, g2, r1, eh2, sc, ap, ↓s_append, ↓b_xor32, ↓b_and32, ↓b_or32, ↓u_not32, b_xor32, b_and32, b_or32, u_not32, w32ad, ↓x_conv, x_convV, ↓x_fieldAddr, x_fieldV, ↓s_nilchk, x_nilchk, Nat.zero_add, Nat.add_zero, Nat.mul_one, ↓l_loop, ↓l_succ, ↓l_normal, l_normal, l_exit, l_ret, l_iteN, ↓h_put_get, ↓h_new_get, ↓h_del_get, h_next_put, h_next_new, h_next_del, Nat.add_assoc, Nat.add_eq_left, Nat.left_eq_add, Nat.add_left_cancel_iff, ↓s_load, m_load, ↓m_load1, m_load1, ↓m_st, m_stE, m_storeI, m_storeE, w_zero, w_succ, ↓s_alloc, ↓x_idxA, ↓x_idxS, x_idxAE, x_idxSE, x_addrE, x_idx, x_lenS, ↓s_len, ↓x_buildS, x_buildE, ↓x_P0, ↓x_P1, x_fill0, x_filli, x_fills, x_fillb, c_int, List.length_cons, List.length_nil, List.cons_append, List.drop_succ_cons, List.drop_zero, List.drop_nil, List.nil_append, Int.reduceAdd, Int.reduceToNat, Int.reduceLT, Int.reduceLE, Nat.reduceAdd, Nat.reduceMul, Nat.reduceLeDiff, Int.reduceEq, Int.reduceSub, Int.cast_ofNat_Int, s_resc, s_consR, m_load4, m_store4, s_res0, ↓s_skip, ↓s_ops, ↓s_dops, ↓s_seq, ↓s_cond, ↓s_block, ↓s_exit, ↓s_ret, ↓s_scope, ↓s_nil, ↓s_op, ↓s_opg, ↓s_wanted', ↓s_wantV, s_wantV, s_wantV0, beq_true, beq_false, ↓s_bindS, s_bindS, ↓s_bindE, s_bindE, s_bindE_ret, s_bindE_exit, s_bindE_iteN, s_norm, ↓s_condV, s_condV, s_block_ret, s_block_normal, s_block_exit, s_block_iteN, ↓s_getp, ↓s_getp0, ↓s_get, s_get0, ↓s_con, ↓s_fn, ↓s_os0, ↓s_os1, ↓s_list0, ↓s_list1, ↓s_mov, ↓s_pick, ↓s_pickE, s_pickE, ↓s_bin, ↓s_un, ↓s_minmax, ↓s_call, ↓s_callv, ↓s_callV, ↓s_ext, s_same, b_eql, b_neq, b_lss, b_leq, b_gtr, b_geq, b_add, b_sub, b_mul, b_eqlb, b_neqb, b_fnil, b_fnil', b_fnil2, b_fnil2', u_neg, u_not, m_two, s_end, s_end', s_end_iteN, s_res0, s_res1, s_tup1, s_tup2, ↓iteN_true, ↓iteN_false, iteN_true, iteN_false, Nat.zero_add, List.nil_append, List.append_nil, Nat.reduceEqDiff, reduceIte, decide_true, decide_false, Bool.not_true, Bool.not_false, List.getElem?_cons_zero, List.getElem?_cons_succ, Bool.false_eq_true, if_true, if_false, beq_self_eq_true]
    · have := c9 ec
      have g1 : decide ((65535 : Int) < (n : Int)) = true := decide_eq_true (by omega)
      have g2 : decide ((4294967295 : Int) < (n : Int)) = true := decide_eq_true (by omega)
      simp only [Int.cast_ofNat_Int] at r1 eh2
      simp (config := {maxSteps := 2000000}) (disch := first | omega | (simp only [List.length_cons, List.length_nil, List.length_append, List.length_drop]; omega)) only [c0, g1, g2, r1, eh2, sc, ap, ↓s_append, ↓b_xor32, ↓b_and32, ↓b_or32, ↓u_not32, b_xor32, b_and32, b_or32, u_not32, w32ad, ↓x_conv, x_convV, ↓x_fieldAddr, x_fieldV, ↓s_nilchk, x_nilchk, Nat.zero_add, Nat.add_zero, Nat.mul_one, ↓l_loop, ↓l_succ, ↓l_normal, l_normal, l_exit, l_ret, l_iteN, ↓h_put_get, ↓h_new_get, ↓h_del_get, h_next_put, h_next_new, h_next_del, Nat.add_assoc, Nat.add_eq_left, Nat.left_eq_add, Nat.add_left_cancel_iff, ↓s_load, m_load, ↓m_load1, m_load1, ↓m_st, m_stE, m_storeI, m_storeE, w_zero, w_succ, ↓s_alloc, ↓x_idxA, ↓x_idxS, x_idxAE, x_idxSE, x_addrE, x_idx, x_lenS, ↓s_len, ↓x_buildS, x_buildE, ↓x_P0, ↓x_P1, x_fill0, x_filli, x_fills, x_fillb, c_int, List.length_cons, List.length_nil, List.cons_append, List.drop_succ_cons, List.drop_zero, List.drop_nil, List.nil_append, Int.reduceAdd, Int.reduceToNat, Int.reduceLT, Int.reduceLE, Nat.reduceAdd, Nat.reduceMul, Nat.reduceLeDiff, Int.reduceEq, Int.reduceSub, Int.cast_ofNat_Int, s_resc, s_consR, m_load4, m_store4, s_res0, ↓s_skip, ↓s_ops, ↓s_dops, ↓s_seq, ↓s_cond, ↓s_block, ↓s_exit, ↓s_ret, ↓s_scope, ↓s_nil, ↓s_op, ↓s_opg, ↓s_wanted', ↓s_wantV, s_wantV, s_wantV0, beq_true, beq_false, ↓s_bindS, s_bindS, ↓s_bindE, s_bindE, s_bindE_ret, s_bindE_exit, s_bindE_iteN, s_norm, ↓s_condV, s_condV, s_block_ret, s_block_normal, s_block_exit, s_block_iteN, ↓s_getp, ↓s_getp0, ↓s_get, s_get0, ↓s_con, ↓s_fn, ↓s_os0, ↓s_os1, ↓s_list0, ↓s_list1, ↓s_mov, ↓s_pick, ↓s_pickE, s_pickE, ↓s_bin, ↓s_un, ↓s_minmax, ↓s_call, ↓s_callv, ↓s_callV, ↓s_ext, s_same, b_eql, b_neq, b_lss, b_leq, b_gtr, b_geq, b_add, b_sub, b_mul, b_eqlb, b_neqb, b_fnil, b_fnil', b_fnil2, b_fnil2', u_neg, u_not, m_two, s_end, s_end', s_end_iteN, s_res0, s_res1, s_tup1, s_tup2, ↓iteN_true, ↓iteN_false, iteN_true, iteN_false, Nat.zero_add, List.nil_append, List.append_nil, Nat.reduceEqDiff, reduceIte, decide_true, decide_false, Bool.not_true, Bool.not_false, List.getElem?_cons_zero, List.getElem?_cons_succ, Bool.false_eq_true, if_true, if_false, beq_self_eq_true]
theorem rbytes_go (e : EnRf E) (x : NoRf X) (N : Nat) (l : List Nat) (hl : l.length ≤ 150000) (a : Option (Nat × Nat)) (c : Option Nat) (ez : Nat) (h : H) (src : SrcH h a ez l) :
    ∃ h' a' c' e', callX E X (N + 22) (.fn k_purserref01_Bytes) [.slice a l.length c ez] h = some (.slice a' (sizV l.length ++ l).length c' e', h') ∧ Kp h h' ∧ SrcH h' a' e' (sizV l.length ++ l) ∧ ∀ q o, a' = some (q, o) → h.next ≤ q := by
  rw [x_cfn e.by_ _ _ (Nat.le_of_ble_eq_true rfl) (x.by_ _ _)]
  obtain ⟨h1, a1, c1, z1, r1, k1, sz, ge⟩ := rsize_go e x N l.length (by omega) h
  have sc := (src.mono k1).cellz c
  have sl := sizV_le l.length
  obtain ⟨a2, c2, z2, h2, ap, sz2, n2, f2, o2⟩ := ap_sz h1 (sizV l.length) l a1 c1 z1 sz (by omega)
  have k2 : Kp h h2 := ⟨Nat.le_trans k1.1 n2, fun j hj => by rw [f2 j (Nat.lt_of_lt_of_le hj k1.1) (fun ea => by have := ge _ _ ea; omega), k1.2 _ hj]⟩
  refine ⟨h2, a2, c2, z2, ?_, k2, sz2.src, fun q o ea => by
    rcases o2 with o2 | o2
    · rw [o2] at ea; exact ge q o ea
    · rw [o2] at ea; cases ea; exact k1.1⟩
  have w1 : wr .u64 (l.length : Int) = (l.length : Int) := u64n _ (by omega)
  obtain ⟨n, en⟩ : ∃ n, l.length = n := ⟨_, rfl⟩
  rw [en] at r1 sc ap w1 ⊢
  obtain ⟨L1, eL1⟩ : ∃ L, (sizV n).length = L := ⟨_, rfl⟩
  obtain ⟨L2, eL2⟩ : ∃ L, (sizV n ++ l).length = L := ⟨_, rfl⟩
  rw [eL1] at r1 ap
  rw [eL2] at ap ⊢
  simp (config := {maxSteps := 2000000}) (disch := first | omega | (simp only [List.length_cons, List.length_nil, List.length_append, List.length_drop]; omega)) only [r1, sc, ap, w1, ↓s_append, ↓s_len, x_lenS, ↓b_xor32, ↓b_and32, ↓b_or32, ↓u_not32, b_xor32, b_and32, b_or32, u_not32, w32ad, ↓x_conv, x_convV, ↓x_fieldAddr, x_fieldV, ↓s_nilchk, x_nilchk, Nat.zero_add, Nat.add_zero, Nat.mul_one, ↓l_loop, ↓l_succ, ↓l_normal, l_normal, l_exit, l_ret, l_iteN, ↓h_put_get, ↓h_new_get, ↓h_del_get, h_next_put, h_next_new, h_next_del, Nat.add_assoc, Nat.add_eq_left, Nat.left_eq_add, Nat.add_left_cancel_iff, ↓s_load, m_load, ↓m_load1, m_load1, ↓m_st, m_stE, m_storeI, m_storeE, w_zero, w_succ, ↓s_alloc, ↓x_idxA, ↓x_idxS, x_idxAE, x_idxSE, x_addrE, x_idx, x_lenS, ↓s_len, ↓x_buildS, x_buildE, ↓x_P0, ↓x_P1, x_fill0, x_filli, x_fills, x_fillb, c_int, List.length_cons, List.length_nil, List.cons_append, List.drop_succ_cons, List.drop_zero, List.drop_nil, List.nil_append, Int.reduceAdd, Int.reduceToNat, Int.reduceLT, Int.reduceLE, Nat.reduceAdd, Nat.reduceMul, Nat.reduceLeDiff, Int.reduceEq, Int.reduceSub, Int.cast_ofNat_Int, s_resc, s_consR, m_load4, m_store4, s_res0, ↓s_skip, ↓s_ops, ↓s_dops, ↓s_seq, ↓s_cond, ↓s_block, ↓s_exit, ↓s_ret, ↓s_scope, ↓s_nil, ↓s_op, ↓s_opg, ↓s_wanted', ↓s_wantV, s_wantV, s_wantV0, beq_true, beq_false, ↓s_bindS, s_bindS, ↓s_bindE, s_bindE, s_bindE_ret, s_bindE_exit, s_bindE_iteN, s_norm, ↓s_condV, s_condV, s_block_ret, s_block_normal, s_block_exit, s_block_iteN, ↓s_getp, ↓s_getp0, ↓s_get, s_get0, ↓s_con, ↓s_fn, ↓s_os0, ↓s_os1, ↓s_list0, ↓s_list1, ↓s_mov, ↓s_pick, ↓s_pickE, s_pickE, ↓s_bin, ↓s_un, ↓s_minmax, ↓s_call, ↓s_callv, ↓s_callV, ↓s_ext, s_same, b_eql, b_neq, b_lss, b_leq, b_gtr, b_geq, b_add, b_sub, b_mul, b_eqlb, b_neqb, b_fnil, b_fnil', b_fnil2, b_fnil2', u_neg, u_not, m_two, s_end, s_end', s_end_iteN, s_res0, s_res1, s_tup1, s_tup2, ↓iteN_true, ↓iteN_false, iteN_true, iteN_false, Nat.zero_add, List.nil_append, List.append_nil, Nat.reduceEqDiff, reduceIte, decide_true, decide_false, Bool.not_true, Bool.not_false, List.getElem?_cons_zero, List.getElem?_cons_succ, Bool.false_eq_true, if_true, if_false, beq_self_eq_true]
theorem twinv_go (e : E k_purserref01_Twin = some f_purserref01_Twin) (x : ∀ a h, X (.fn k_purserref01_Twin) a h = none) (N : Nat) (l : List Nat) (hl : l.length ≤ 1000000) (a : Option (Nat × Nat)) (c : Option Nat) (ez : Nat) (h : H) (src : SrcH h a ez l) :
    ∃ ao co eo h', callX E X (N + 1) (.fn k_purserref01_Twin) [.slice a l.length c ez] h = some (.slice ao l.length co eo, h') ∧ Nw h h' l ao co eo := by
  rw [x_cfn e _ _ (Nat.le_of_ble_eq_true rfl) (x _ _)]
  have sc := src.cellz c
  obtain ⟨a2, c2, e2, h', ap, nw⟩ := app_nw h l hl
  refine ⟨a2, c2, e2, h', ?_, nw⟩
  obtain ⟨n, en⟩ : ∃ n, l.length = n := ⟨_, rfl⟩
  rw [en] at sc ap ⊢
  simp (config := {maxSteps := 2000000}) (disch := first | omega | (simp only [List.length_cons, List.length_nil, List.length_append, List.length_drop]; omega)) only [sc, ap, ↓s_append, ↓b_xor32, ↓b_and32, ↓b_or32, ↓u_not32, b_xor32, b_and32, b_or32, u_not32, w32ad, ↓x_conv, x_convV, ↓x_fieldAddr, x_fieldV, ↓s_nilchk, x_nilchk, Nat.zero_add, Nat.add_zero, Nat.mul_one, ↓l_loop, ↓l_succ, ↓l_normal, l_normal, l_exit, l_ret, l_iteN, ↓h_put_get, ↓h_new_get, ↓h_del_get, h_next_put, h_next_new, h_next_del, Nat.add_assoc, Nat.add_eq_left, Nat.left_eq_add, Nat.add_left_cancel_iff, ↓s_load, m_load, ↓m_load1, m_load1, ↓m_st, m_stE, m_storeI, m_storeE, w_zero, w_succ, ↓s_alloc, ↓x_idxA, ↓x_idxS, x_idxAE, x_idxSE, x_addrE, x_idx, x_lenS, ↓s_len, ↓x_buildS, x_buildE, ↓x_P0, ↓x_P1, x_fill0, x_filli, x_fills, x_fillb, c_int, List.length_cons, List.length_nil, List.cons_append, List.drop_succ_cons, List.drop_zero, List.drop_nil, List.nil_append, Int.reduceAdd, Int.reduceToNat, Int.reduceLT, Int.reduceLE, Nat.reduceAdd, Nat.reduceMul, Nat.reduceLeDiff, Int.reduceEq, Int.reduceSub, Int.cast_ofNat_Int, s_resc, s_consR, m_load4, m_store4, s_res0, ↓s_skip, ↓s_ops, ↓s_dops, ↓s_seq, ↓s_cond, ↓s_block, ↓s_exit, ↓s_ret, ↓s_scope, ↓s_nil, ↓s_op, ↓s_opg, ↓s_wanted', ↓s_wantV, s_wantV, s_wantV0, beq_true, beq_false, ↓s_bindS, s_bindS, ↓s_bindE, s_bindE, s_bindE_ret, s_bindE_exit, s_bindE_iteN, s_norm, ↓s_condV, s_condV, s_block_ret, s_block_normal, s_block_exit, s_block_iteN, ↓s_getp, ↓s_getp0, ↓s_get, s_get0, ↓s_con, ↓s_fn, ↓s_os0, ↓s_os1, ↓s_list0, ↓s_list1, ↓s_mov, ↓s_pick, ↓s_pickE, s_pickE, ↓s_bin, ↓s_un, ↓s_minmax, ↓s_call, ↓s_callv, ↓s_callV, ↓s_ext, s_same, b_eql, b_neq, b_lss, b_leq, b_gtr, b_geq, b_add, b_sub, b_mul, b_eqlb, b_neqb, b_fnil, b_fnil', b_fnil2, b_fnil2', u_neg, u_not, m_two, s_end, s_end', s_end_iteN, s_res0, s_res1, s_tup1, s_tup2, ↓iteN_true, ↓iteN_false, iteN_true, iteN_false, Nat.zero_add, List.nil_append, List.append_nil, Nat.reduceEqDiff, reduceIte, decide_true, decide_false, Bool.not_true, Bool.not_false, List.getElem?_cons_zero, List.getElem?_cons_succ, Bool.false_eq_true, if_true, if_false, beq_self_eq_true]
end Go.Eng
