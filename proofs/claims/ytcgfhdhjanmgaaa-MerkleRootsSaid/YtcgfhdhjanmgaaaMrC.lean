/- What functions of the program come to: own work. -/
import Derived.Test.YtcgfhdhjanmgaaaMrB
namespace Go.Eng
open Go
variable {E : Nat → Option Fn} {X : Orc}
set_option linter.unusedSimpArgs false
set_option linter.unusedVariables false
/-! arguments of any shape, as read-only blocks -/
structure LayB (bl : List (Nat × List V)) (lo hi : Nat) : Prop where
  le : lo ≤ hi
  rg : ∀ x ∈ bl, lo ≤ x.1 ∧ x.1 < hi
  nd : (bl.map (·.1)).Nodup
theorem LayB.nil (lo : Nat) : LayB [] lo lo := ⟨Nat.le_refl _, (fun x hx => by cases hx), List.nodup_nil⟩
theorem LayB.up {bl : List (Nat × List V)} {lo hi hi' : Nat} (b : LayB bl lo hi) (h : hi ≤ hi') : LayB bl lo hi' := ⟨Nat.le_trans b.le h, fun x hx => ⟨(b.rg x hx).1, Nat.lt_of_lt_of_le (b.rg x hx).2 h⟩, b.nd⟩
theorem LayB.app {a b : List (Nat × List V)} {x y z : Nat} (ha : LayB a x y) (hb : LayB b y z) : LayB (a ++ b) x z := by
  refine ⟨Nat.le_trans ha.le hb.le, fun q hq => ?_, ?_⟩
  · rcases List.mem_append.1 hq with h | h
    · exact ⟨(ha.rg q h).1, Nat.lt_of_lt_of_le (ha.rg q h).2 hb.le⟩
    · exact ⟨Nat.le_trans ha.le (hb.rg q h).1, (hb.rg q h).2⟩
  · rw [List.map_append, List.nodup_append]
    refine ⟨ha.nd, hb.nd, fun p hp q hq e => ?_⟩
    obtain ⟨u, hu, rfl⟩ := List.mem_map.1 hp
    obtain ⟨v, hv, rfl⟩ := List.mem_map.1 hq
    have := (ha.rg u hu).2
    have := (hb.rg v hv).1
    omega
theorem LayB.one {b : List (Nat × List V)} {lo hi : Nat} (v : List V) (hb : LayB b (lo + 1) hi) : LayB ((lo, v) :: b) lo hi := by
  have h1 : LayB [(lo, v)] lo (lo + 1) := ⟨by omega, (fun x hx => by rcases List.mem_singleton.1 hx with rfl; exact ⟨Nat.le_refl _, Nat.lt_succ_self _⟩), by simp⟩
  exact h1.app hb
/-- blocks that are there -/
def Has (h : H) (bl : List (Nat × List V)) : Prop := ∀ x ∈ bl, h.get x.1 = some (.cells x.2 .ro) ∧ x.1 < h.next
theorem Has.l {h : H} {a b : List (Nat × List V)} (x : Has h (a ++ b)) : Has h a := fun y hy => x y (List.mem_append_left _ hy)
theorem Has.r {h : H} {a b : List (Nat × List V)} (x : Has h (a ++ b)) : Has h b := fun y hy => x y (List.mem_append_right _ hy)
theorem mkB_skip' : ∀ (bl : List (Nat × List V)) (r : List (Nat × List V)) (i : Nat), (∀ x ∈ bl, x.1 ≠ i) → (mkB (bl ++ r)).get i = (mkB r).get i := by
  intro bl
  induction bl with
  | nil => intro r i _; rfl
  | cons x s ih =>
    intro r i h
    show ((mkB (s ++ r)).set x.1 _).get i = _
    rw [Tr.get_set, if_neg (h x (List.mem_cons_self ..)), ih r i (fun y hy => h y (List.mem_cons_of_mem _ hy))]
theorem has_mk {bl : List (Nat × List V)} {lo nx : Nat} (b : LayB bl lo nx) : Has (mkH bl nx) bl := by
  intro x hx
  refine ⟨?_, (b.rg x hx).2⟩
  obtain ⟨s, t, rfl⟩ := List.append_of_mem hx
  show (mkB (s ++ x :: t)).get x.1 = _
  have nd := b.nd
  rw [List.map_append, List.nodup_append] at nd
  rw [mkB_skip' _ _ _ (fun y hy e => nd.2.2 y.1 (List.mem_map.2 ⟨y, hy, rfl⟩) x.1 (by simp) e)]
  show ((mkB t).set x.1 _).get x.1 = _
  rw [Tr.get_set, if_pos rfl]
/-- a reading: cells, and what is said of them where the blocks are there -/
def Rd (r : Nat → Option Abs) (R : H → List V → Prop) : Prop := ∀ nx, ∃ vs bl n1, r nx = some (vs, bl, n1) ∧ LayB bl nx n1 ∧ ∀ h, Has h bl → R h vs
inductive Al2 {α β : Type} (p : α → β → Prop) : List α → List β → Prop where
  | nil : Al2 p [] []
  | cons {a : α} {b : β} {as : List α} {bs : List β} : p a b → Al2 p as bs → Al2 p (a :: as) (b :: bs)
theorem Al2.len {α β : Type} {p : α → β → Prop} {as : List α} {bs : List β} (h : Al2 p as bs) : as.length = bs.length := by
  induction h with
  | nil => rfl
  | cons _ _ ih => simp [ih]
theorem Al2.get {α β : Type} {p : α → β → Prop} {as : List α} {bs : List β} (h : Al2 p as bs) : ∀ (i : Nat) (a : α), as[i]? = some a → ∃ b, bs[i]? = some b ∧ p a b := by
  induction h with
  | nil => intro i a h; simp at h
  | cons h1 _ ih =>
    intro i a h
    cases i with
    | zero => simp at h; subst h; exact ⟨_, rfl, h1⟩
    | succ i => simp at h; simpa using ih i a h
theorem gather {α β : Type} {p : α → β → Prop} : ∀ (as : List α), (∀ a ∈ as, ∃ b, p a b) → ∃ bs, Al2 p as bs := by
  intro as
  induction as with
  | nil => intro _; exact ⟨[], .nil⟩
  | cons a as ih =>
    intro h
    obtain ⟨b, hb⟩ := h a (List.mem_cons_self ..)
    obtain ⟨bs, hbs⟩ := ih (fun x hx => h x (List.mem_cons_of_mem _ hx))
    exact ⟨b :: bs, .cons hb hbs⟩
theorem rd_list {α : Type} {r : α → Nat → Option Abs} {ds : List α} {Rs : List (H → List V → Prop)} (a : Al2 (fun d R => Rd (r d) R) ds Rs) : Rd (absL r ds) (fun h vs => ∃ parts, vs = parts.flatten ∧ Al2 (fun R p => R h p) Rs parts) := by
  induction a with
  | nil => intro nx; exact ⟨[], [], nx, rfl, .nil _, fun h _ => ⟨[], rfl, .nil⟩⟩
  | cons h1 _ ih =>
    intro nx
    obtain ⟨vs, bl, n1, e1, l1, k1⟩ := h1 nx
    obtain ⟨vs2, bl2, n2, e2, l2, k2⟩ := ih n1
    refine ⟨vs ++ vs2, bl ++ bl2, n2, by simp only [absL, e1, e2], l1.app l2, fun h hh => ?_⟩
    obtain ⟨ps, e, al⟩ := k2 h hh.r
    exact ⟨vs :: ps, by rw [e]; rfl, .cons (k1 h hh.l) al⟩
section
variable {Hh : Type} {enc : TypeId × Value → Hh} {P : Program} {W : World} {spare : Nat → Bool} {held : Bool} {base : Nat}
theorem rd_nil (n : Nat) {t e : TypeId} (hu : P.underlying t = some (.slice e)) : Rd (absD (H := Hh) P (n + 1) t .nil) (fun _ vs => vs = [.slice none 0 none (P.cellsOf e)]) := fun nx => ⟨_, [], nx, by simp only [absD, hu], .nil _, fun _ _ => rfl⟩
theorem rd_slice (n : Nat) {t e : TypeId} (hu : P.underlying t = some (.slice e)) (A B : List (DataW Hh)) {Rs : List (H → List V → Prop)} (a : Al2 (fun d R => Rd (absD P n e d) R) A Rs) :
    Rd (absD P (n + 1) t (.slice A B)) (fun h vs => ∃ ad parts, vs = [.slice ad A.length none (P.cellsOf e)] ∧ Al2 (fun R p => R h p) Rs parts ∧ (A = [] ∨ ∃ k, ad = some (k, 0) ∧ k < h.next ∧ h.get k = some (.cells parts.flatten .ro))) := by
  intro nx
  obtain ⟨vs, bl, n1, e1, l, k⟩ := rd_list a (nx + 1)
  cases hn : A.length + B.length with
  | zero =>
    have h0 : A = [] := List.length_eq_zero_iff.1 (by omega)
    subst h0
    cases a
    refine ⟨_, [], n1, ?_, ⟨by have := l.le; omega, (fun x hx => by cases hx), List.nodup_nil⟩, fun h _ => ⟨some (nx, 0), [], rfl, .nil, .inl rfl⟩⟩
    rw [absD_slc' n hu, e1]
    simp only [hn]
    rfl
  | succ m =>
    refine ⟨[.slice (some (nx, 0)) A.length none (P.cellsOf e)], (nx, vs) :: bl, n1, ?_, l.one vs, fun h hh => ?_⟩
    · rw [absD_slc' n hu, e1]
      simp only [hn]
    · obtain ⟨ps, ev, al⟩ := k h (fun x hx => hh x (List.mem_cons_of_mem _ hx))
      obtain ⟨g, gl⟩ := hh (nx, vs) (List.mem_cons_self ..)
      exact ⟨some (nx, 0), ps, rfl, al, .inr ⟨nx, rfl, gl, by rw [← ev]; exact g⟩⟩
end
end Go.Eng
namespace Go.Eng
open Go
variable {E : Nat → Option Fn} {X : Orc}
set_option linter.unusedSimpArgs false
set_option linter.unusedVariables false
section
variable {Hh : Type} {enc : TypeId × Value → Hh} {P : Program} {W : World} {spare : Nat → Bool} {held : Bool} {base : Nat}
/-- a row, its items in general -/
theorem trod_row {α : Type} {t e : TypeId} {sz : Nat} (A : H → α → List V → Prop) (ok : α → Prop) (B : DataW Hh → α → Prop) (m : Nat) (ht : P.underlying t = some (.slice e)) (hce : P.cellsOf e = sz)
    (one : ∀ (g : Nat) (cs : List Value) (x : DataW Hh × List MemPlace), DataW.trod enc P W base spare held g e cs = some x → ∃ o : α, (ok o ∧ B x.1 o) ∧ ∀ n, Rd (absD P (n + m) e x.1) (fun h vs => A h o vs))
    {f : Nat} {cs : List Value} {d : DataW Hh} {p : List MemPlace} (hf : DataW.trod enc P W base spare held f t cs = some (d, p)) :
    ∃ ops : List α, (∀ o ∈ ops, ok o) ∧ (∀ sz' b, P.bytesOf e = sz' → 0 < sz' → (∀ n ∈ d.weights P t, n ≤ b) → ops.length ≤ b ∧ ∀ o ∈ ops, ∃ x : DataW Hh, B x o ∧ ∀ n ∈ x.weights P e, n ≤ b) ∧ ∀ n, Rd (absD P (n + (m + 1)) t d) (fun h vs => ∃ a, vs = [.slice a ops.length none sz] ∧ ∃ parts, Al2 (A h) ops parts ∧ (ops = [] ∨ ∃ k md, a = some (k, 0) ∧ k < h.next ∧ h.get k = some (.cells parts.flatten md))) := by
  rcases DataW.trod_slice ht hf with ⟨_, hx⟩ | ⟨ad, len, cap, elems, rest, n, _, _, hx, _, _, _, hl, hi, _, _⟩
  · have hd : d = .nil := congrArg Prod.fst hx
    subst hd
    refine ⟨[], (fun o ho => by cases ho), (fun _ _ _ _ _ => ⟨Nat.zero_le _, fun o ho => by cases ho⟩), fun n nx => ?_⟩
    obtain ⟨vs, bl, n1, e1, l1, k1⟩ := rd_nil (Hh := Hh) (n + m) ht nx
    exact ⟨vs, bl, n1, e1, l1, fun h hh => ⟨none, by rw [k1 h hh, hce]; rfl, [], .nil, .inl rfl⟩⟩
  · have hd : d = .slice (elems.map (·.1)) (rest.map (·.1)) := congrArg Prod.fst hx
    obtain ⟨ops, al⟩ := gather (p := fun (x : DataW Hh × List MemPlace) (o : α) => (ok o ∧ B x.1 o) ∧ ∀ n, Rd (absD P (n + m) e x.1) (fun h vs => A h o vs)) elems (fun y hy => by
      obtain ⟨i, hi1, hi2⟩ := List.getElem_of_mem hy
      have hi3 : elems[i]? = some y := by rw [List.getElem?_eq_getElem hi1, hi2]
      have h4 := (hi i (by omega)).trans hi3
      simp only [Option.bind_eq_some_iff] at h4
      obtain ⟨cs, _, h5⟩ := h4
      exact one _ _ _ h5)
    refine ⟨ops, fun o ho => ?_, fun sz' b hsz hpos hB => ?_, fun n nx => ?_⟩
    · clear hl hi hx hd hf
      induction al with
      | nil => cases ho
      | cons h1 _ ih => rcases List.mem_cons.1 ho with rfl | ho
                        · exact h1.1.1
                        · exact ih ho
    · have hB' : ∀ n ∈ ((elems.map (·.1)).length + (rest.map (·.1)).length) * P.bytesOf e :: DataW.weightsAll P e (elems.map (·.1)), n ≤ b := by
        intro n hn
        apply hB n
        rw [hd]
        simp only [DataW.weights, ht, List.mem_cons, List.mem_append] at hn ⊢
        rcases hn with h | h
        · exact .inl h
        · exact .inr (.inl h)
      refine ⟨?_, fun o ho => ?_⟩
      · have h1 := hB' _ (List.mem_cons_self ..)
        rw [hsz, List.length_map, al.len] at h1
        have h2 : ops.length * 1 ≤ (ops.length + (rest.map (·.1)).length) * sz' := Nat.mul_le_mul (Nat.le_add_right _ _) hpos
        omega
      · have hB2 : ∀ n ∈ DataW.weightsAll P e (elems.map (·.1)), n ≤ b := fun n hn => hB' n (List.mem_cons_of_mem _ hn)
        clear hl hi hx hd hf hB hB'
        induction al with
        | nil => cases ho
        | cons h1 _ ih =>
          simp only [List.map_cons, DataW.weightsAll, List.mem_append] at hB2
          rcases List.mem_cons.1 ho with rfl | ho
          · exact ⟨_, h1.1.2, fun n hn => hB2 n (.inl hn)⟩
          · exact ih ho (fun n hn => hB2 n (.inr hn))
    · have al2 : Al2 (fun (dd : DataW Hh) R => Rd (absD P (n + m) e dd) R) (elems.map (·.1)) (ops.map (fun o h vs => A h o vs)) := by
        clear hl hi hx hd hf
        induction al with
        | nil => exact .nil
        | cons h1 _ ih => exact .cons (h1.2 n) ih
      obtain ⟨vs, bl, n1, e1, l1, k1⟩ := rd_slice (Hh := Hh) (n + m) ht (elems.map (·.1)) (rest.map (·.1)) al2 nx
      rw [hd]
      refine ⟨vs, bl, n1, e1, l1, fun h hh => ?_⟩
      obtain ⟨ad2, parts, ev, al3, t⟩ := k1 h hh
      have le : (elems.map (·.1)).length = ops.length := by rw [List.length_map]; exact al.len
      refine ⟨ad2, by rw [ev, le, hce], parts, ?_, ?_⟩
      · have conv : ∀ (os : List α) (ps : List (List V)), Al2 (fun (R : H → List V → Prop) p => R h p) (os.map (fun o h vs => A h o vs)) ps → Al2 (A h) os ps := by
          intro os
          induction os with
          | nil => intro ps a; cases a; exact .nil
          | cons o os ih => intro ps a; cases a with | cons a1 a2 => exact .cons a1 (ih _ a2)
        exact conv _ _ al3
      · rcases t with t | ⟨k, t1, t2, t3⟩
        · left
          rw [t] at le
          exact List.length_eq_zero_iff.1 le.symm
        · exact .inr ⟨k, .ro, t1, t2, t3⟩
theorem trod_hash' {t e : TypeId} {N : Nat} (ht : P.underlying t = some (.array N e)) (he : P.underlying e = some (.int .u8)) {f : Nat} {cs : List Value} {d : DataW Hh} {p : List MemPlace} (hf : DataW.trod enc P W base spare held f t cs = some (d, p)) :
    ∃ s : List Nat, s.length = N ∧ byt s = true ∧ ∀ n nx, absD P (n + 2) t d nx = some (ofI .u8 s, [], nx) := by
  obtain ⟨xs, m, _, hx, _, hl, hi⟩ := DataW.trod_array ht hf
  have go : ∀ x ∈ xs, ∃ b : Nat, x.1 = .lit (.int .u8 (b : Int)) ∧ b < 256 := by
    intro x hxm
    obtain ⟨i, hi1, hi2⟩ := List.getElem_of_mem hxm
    have hi3 : xs[i]? = some x := by rw [List.getElem?_eq_getElem hi1, hi2]
    obtain ⟨n, _, e1, w⟩ := DataW.trod_int he ((hi i (by omega)).trans hi3)
    simp [Lit.wf, IntKind.min, IntKind.max, IntKind.signed, IntKind.bits] at w
    obtain ⟨b, rfl⟩ := Int.eq_ofNat_of_zero_le w.1
    exact ⟨b, by rw [e1], by omega⟩
  obtain ⟨s, s1, s2, s3⟩ := lits_u8 go
  refine ⟨s, by omega, s2, fun n nx => ?_⟩
  have ed : d = .agg (s.map fun (x : Nat) => .lit (.int .u8 (x : Int))) := by
    have := congrArg Prod.fst hx
    simp only at this
    rw [this, s1]
  rw [ed]
  unfold absD
  rw [ht]
  exact absL_I P e n he nx s
theorem rd_hash (n : Nat) {t : TypeId} {d : DataW Hh} {s : List Nat} (h : ∀ n nx, absD P (n + 2) t d nx = some (ofI .u8 s, [], nx)) : Rd (absD P (n + 2) t d) (fun _ vs => vs = ofI .u8 s) := fun nx => ⟨_, [], nx, h n nx, .nil _, fun _ _ => rfl⟩
end
theorem RowB.cons {k : Nat} {vs : List V} {L : List (List Nat)} (r : RowB k vs L) {x : List Nat} (hx : x.length = k) : RowB k (ofI .u8 x ++ vs) (x :: L) := by
  refine ⟨by rw [List.length_cons, List.length_append, ofI_len, hx, Nat.succ_mul]; have := r.1; omega, fun i o ho => ?_⟩
  cases i with
  | zero =>
    simp at ho; subst ho
    refine ⟨?_, hx⟩
    rw [Nat.zero_mul, List.drop_zero, List.take_left' (by rw [ofI_len, hx])]
  | succ i =>
    simp at ho
    obtain ⟨h1, h2⟩ := r.2 i o ho
    refine ⟨?_, h2⟩
    rw [Nat.succ_mul, Nat.add_comm (i * k) k, ← List.drop_drop, List.drop_left' (by rw [ofI_len, hx]), h1]
/-- rows of hashes as an argument -/
def HsA (l : List (List Nat)) (h : H) (vs : List V) : Prop := ∃ a, vs = [.slice a l.length none 32] ∧ HsR 32 h a 32 l
section
variable {Hh : Type} {enc : TypeId × Value → Hh} {P : Program} {W : World} {spare : Nat → Bool} {held : Bool} {base : Nat}
theorem trod_hs {t e u : TypeId} (ht : P.underlying t = some (.slice e)) (he : P.underlying e = some (.array 32 u)) (hu : P.underlying u = some (.int .u8)) (hce : P.cellsOf e = 32) {f : Nat} {cs : List Value} {x : DataW Hh × List MemPlace} (hf : DataW.trod enc P W base spare held f t cs = some x) :
    ∃ l : List (List Nat), (∀ o ∈ l, o.length = 32 ∧ byt o = true) ∧ (P.bytesOf e = 32 → ∀ B, (∀ n ∈ x.1.weights P t, n ≤ B) → l.length ≤ B) ∧ ∀ n, Rd (absD P (n + 3) t x.1) (HsA l) := by
  obtain ⟨d, p⟩ := x
  obtain ⟨l, h1, h2, h3⟩ := trod_row (sz := 32) (fun (_ : H) (o : List Nat) vs => vs = ofI .u8 o) (fun o => o.length = 32 ∧ byt o = true) (fun _ _ => True) 2 ht hce (fun g cs x hx => by
    obtain ⟨s, s1, s2, s3⟩ := trod_hash' he hu hx
    exact ⟨s, ⟨⟨s1, s2⟩, trivial⟩, fun n => rd_hash n s3⟩) hf
  refine ⟨l, h1, fun hb B hB => (h2 32 B hb (by decide) hB).1, fun n nx => ?_⟩
  obtain ⟨vs, bl, n1, e1, l1, k1⟩ := h3 n nx
  refine ⟨vs, bl, n1, e1, l1, fun h hh => ?_⟩
  obtain ⟨a, e2, parts, al, t⟩ := k1 h hh
  refine ⟨a, e2, ?_⟩
  rcases t with t | ⟨k, md, rfl, hk, g⟩
  · exact .inl t
  · refine .inr ⟨k, 0, _, md, rfl, rfl, hk, g, ?_⟩
    rw [List.drop_zero]
    clear h2 h3 g e1 k1 e2 l1 hh
    induction al with
    | nil => exact RowB.nil _ _
    | cons h' _ ih =>
      rw [List.flatten_cons, h']
      exact (ih (fun o ho => h1 o (List.mem_cons_of_mem _ ho))).cons (h1 _ (List.mem_cons_self ..)).1
end
end Go.Eng
