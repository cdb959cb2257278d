/- What functions of the program come to: own work. -/
import Derived.Test.YtglaaipaomnnmaaShE
import Derived.OpenShut
import Derived.ChangeSame
import Derived.ChangeArms
namespace Go.Eng
open Go
set_option linter.unusedSimpArgs false
set_option linter.unusedVariables false
/-! arguments, as the evaluator takes them -/
theorem absA_nil {H : Type} (P : Program) (n nx : Nat) : absA (H := H) P n [] [] nx = some ([], [], nx) := rfl
theorem absA_cons {H : Type} {P : Program} {n : Nat} {t : TypeId} {ts : List TypeId} {d : DataW H} {ds : List (DataW H)} {nx n1 n2 : Nat} {vs avs : List V} {bl bl' : List (Nat × List V)} {av : V}
    (h1 : absD P n t d nx = some (vs, bl, n1)) (hv : argV P t vs = av) (h2 : absA P n ts ds n1 = some (avs, bl', n2)) : absA P n (t :: ts) (d :: ds) nx = some (av :: avs, bl ++ bl', n2) := by
  simp only [absA, h1, h2, hv]
theorem argV_arr {P : Program} {t e : TypeId} {n : Nat} (h : P.underlying t = some (.array n e)) (vs : List V) : argV P t vs = .agg vs := by unfold argV; rw [h]
theorem argV_slc {P : Program} {t e : TypeId} (h : P.underlying t = some (.slice e)) (v : V) : argV P t [v] = v := by unfold argV; rw [h]
theorem argV_int {P : Program} {t : TypeId} {k : IntKind} (h : P.underlying t = some (.int k)) (v : V) : argV P t [v] = v := by unfold argV; rw [h]
theorem argV_bool {P : Program} {t : TypeId} (h : P.underlying t = some .bool) (v : V) : argV P t [v] = v := by unfold argV; rw [h]
theorem absL_I {H : Type} (P : Program) (e n : Nat) (he : P.underlying e = some (.int .u8)) (nx : Nat) : ∀ (s : List Nat), absL (absD (H := H) P (n + 1) e) (s.map fun (x : Nat) => .lit (.int .u8 (x : Int))) nx = some (ofI .u8 s, [], nx) := by
  intro s
  induction s with
  | nil => rfl
  | cons a r ih =>
    simp only [List.map_cons, absL]
    have : absD (H := H) P (n + 1) e (.lit (.int .u8 (a : Int))) nx = some ([.int .u8 (a : Int)], [], nx) := by simp only [absD, he]
    rw [this]
    simp only [ih]
    rfl
theorem lits_u8 {H : Type} {xs : List (DataW H × List MemPlace)} (go : ∀ x ∈ xs, ∃ b : Nat, x.1 = .lit (.int .u8 (b : Int)) ∧ b < 256) : ∃ s : List Nat, xs.map (·.1) = s.map (fun (x : Nat) => DataW.lit (.int .u8 (x : Int))) ∧ byt s = true ∧ s.length = xs.length := by
  induction xs with
  | nil => exact ⟨[], rfl, rfl, rfl⟩
  | cons x r ih =>
    obtain ⟨s, q1, q2, q3⟩ := ih (fun y hy => go y (List.mem_cons_of_mem _ hy))
    obtain ⟨b, b1, b2⟩ := go x (List.mem_cons_self ..)
    refine ⟨b :: s, by simp only [List.map_cons, b1, q1], ?_, by simp [q3]⟩
    rw [byt_iff] at q2 ⊢
    intro y hy
    rcases List.mem_cons.1 hy with rfl | hy
    · exact b2
    · exact q2 y hy
section
variable {H : Type} {enc : TypeId × Value → H} {P : Program} {W : World} {spare : Nat → Bool} {held : Bool} {base : Nat}
theorem trod_hash {t e : TypeId} {N : Nat} (ht : P.underlying t = some (.array N e)) (he : P.underlying e = some (.int .u8)) {v : Value} {d : DataW H} {p : List MemPlace} (h : DataW.Trod enc P W base spare held t v d p) :
    ∃ s : List Nat, s.length = N ∧ byt s = true ∧ ∀ n nx, absD P (n + 2) t d nx = some (ofI .u8 s, [], nx) := by
  obtain ⟨f, hf⟩ := h
  obtain ⟨xs, m, _, hx, _, hl, hi⟩ := DataW.trod_array ht hf
  have go : ∀ x ∈ xs, ∃ b : Nat, x.1 = .lit (.int .u8 (b : Int)) ∧ b < 256 := by
    intro x hxm
    obtain ⟨i, hi1, hi2⟩ := List.getElem_of_mem hxm
    have hi3 : xs[i]? = some x := by rw [List.getElem?_eq_getElem hi1, hi2]
    obtain ⟨n, _, e1, w⟩ := DataW.trod_int he ((hi i (by omega)).trans hi3)
    simp [Lit.wf, IntKind.min, IntKind.max, IntKind.signed, IntKind.bits] at w
    obtain ⟨b, rfl⟩ := Int.eq_ofNat_of_zero_le w.1
    exact ⟨b, by rw [e1], by omega⟩
  obtain ⟨s, s1, s2, s3⟩ := lits_u8 go
  refine ⟨s, by omega, s2, fun n nx => ?_⟩
  have ed : d = .agg (s.map fun (x : Nat) => .lit (.int .u8 (x : Int))) := by
    have := congrArg Prod.fst hx
    simp only at this
    rw [this, s1]
  rw [ed]
  unfold absD
  rw [ht]
  exact absL_I P e n he nx s
/-- bytes behind a place from 'lo' on -/
def Lay (bl : List (Nat × List V)) (a : Option (Nat × Nat)) (l : List Nat) (lo hi : Nat) : Prop :=
  lo ≤ hi ∧ ((l = [] ∧ ∀ x ∈ bl, lo ≤ x.1 ∧ x.1 < hi) ∨ (a = some (lo, 0) ∧ bl = [(lo, ofI .u8 l)] ∧ lo < hi))
theorem absD_slc' (n : Nat) {t e : TypeId} (ht : P.underlying t = some (.slice e)) (A B : List (DataW H)) (nx : Nat) : absD P (n + 1) t (.slice A B) nx = (match absL (absD P n e) A (nx + 1) with
    | none => none
    | some (vs, bl, n1) => match A.length + B.length with
      | 0 => some ([.slice (some (nx, 0)) 0 none (P.cellsOf e)], [], n1)
      | _ + 1 => some ([.slice (some (nx, 0)) A.length none (P.cellsOf e)], (nx, vs) :: bl, n1)) := by
  unfold absD
  rw [ht]
  rfl
theorem trod_u8s {t e : TypeId} (ht : P.underlying t = some (.slice e)) (he : P.underlying e = some (.int .u8)) (hc : P.cellsOf e = 1) {v : Value} {d : DataW H} {p : List MemPlace} (h : DataW.Trod enc P W base spare held t v d p) :
    ∃ l : List Nat, byt l = true ∧ ∀ n nx, ∃ a bl n1, absD P (n + 2) t d nx = some ([.slice a l.length none 1], bl, n1) ∧ Lay bl a l nx n1 := by
  obtain ⟨f, hf⟩ := h
  rcases DataW.trod_slice ht hf with ⟨_, hx⟩ | ⟨ad, len, cap, elems, rest, n, _, _, hx, _, _, _, hl, hi, _, _⟩
  · have hd : d = .nil := congrArg Prod.fst hx
    subst hd
    refine ⟨[], rfl, fun n nx => ⟨none, [], nx, ?_, Nat.le_refl _, .inl ⟨rfl, by simp⟩⟩⟩
    simp only [absD, ht, hc, List.length_nil]
  · have hd : d = .slice (elems.map (·.1)) (rest.map (·.1)) := congrArg Prod.fst hx
    have go : ∀ x ∈ elems, ∃ b : Nat, x.1 = .lit (.int .u8 (b : Int)) ∧ b < 256 := by
      intro x hxm
      obtain ⟨i, hi1, hi2⟩ := List.getElem_of_mem hxm
      have hi3 : elems[i]? = some x := by rw [List.getElem?_eq_getElem hi1, hi2]
      have h4 := (hi i (by omega)).trans hi3
      simp only [Option.bind_eq_some_iff] at h4
      obtain ⟨cs, _, h5⟩ := h4
      obtain ⟨n, _, e1, w⟩ := DataW.trod_int he h5
      simp [Lit.wf, IntKind.min, IntKind.max, IntKind.signed, IntKind.bits] at w
      obtain ⟨b, rfl⟩ := Int.eq_ofNat_of_zero_le w.1
      exact ⟨b, by rw [e1], by omega⟩
    obtain ⟨s, s1, s2, s3⟩ := lits_u8 go
    have sl : (elems.map (·.1)).length = s.length := by rw [s1, List.length_map]
    subst hd
    refine ⟨s, s2, fun n nx => ?_⟩
    have hab : absL (absD (H := H) P (n + 1) e) (elems.map (·.1)) (nx + 1) = some (ofI .u8 s, [], nx + 1) := by rw [s1]; exact absL_I P e n he _ s
    cases hn : (elems.map (·.1)).length + (rest.map (·.1)).length with
    | zero =>
      have h0 : s.length = 0 := by omega
      refine ⟨some (nx, 0), [], nx + 1, ?_, by omega, .inl ⟨List.length_eq_zero_iff.1 h0, by simp⟩⟩
      rw [absD_slc' (n + 1) ht, hab]
      simp only [hc, hn, h0]
    | succ m =>
      refine ⟨some (nx, 0), [(nx, ofI .u8 s)], nx + 1, ?_, by omega, .inr ⟨rfl, rfl, by omega⟩⟩
      rw [absD_slc' (n + 1) ht, hab]
      simp only [hc, hn]
      rw [sl]
theorem absD_int' (n : Nat) {t : TypeId} {k : IntKind} (hu : P.underlying t = some (.int k)) (x : Int) (nx : Nat) : absD (H := H) P (n + 1) t (.lit (.int k x)) nx = some ([.int k x], [], nx) := by simp only [absD, hu]
end
theorem mkB_skip : ∀ (bl r : List (Nat × List V)) (i : Nat), (∀ x ∈ bl, x.1 ≠ i) → (mkB (bl ++ r)).get i = (mkB r).get i := by
  intro bl
  induction bl with
  | nil => intro r i _; rfl
  | cons x s ih =>
    intro r i h
    show ((mkB (s ++ r)).set x.1 _).get i = _
    rw [Tr.get_set, if_neg (h x (List.mem_cons_self ..)), ih r i (fun y hy => h y (List.mem_cons_of_mem _ hy))]
theorem mkB_hit (k : Nat) (v : List V) (r : List (Nat × List V)) : (mkB ((k, v) :: r)).get k = some (.cells v .ro) := by
  show ((mkB r).set k _).get k = _
  rw [Tr.get_set, if_pos rfl]
/-- the bytes of an argument, ahead of which 'pre' was laid -/
theorem Lay.src {pre bl post : List (Nat × List V)} {a : Option (Nat × Nat)} {l : List Nat} {lo hi nx : Nat} (L : Lay bl a l lo hi) (hp : ∀ x ∈ pre, x.1 < lo) (hn : hi ≤ nx) : SrcH (mkH (pre ++ (bl ++ post)) nx) a 1 l := by
  obtain ⟨hle, h | ⟨ha, hb, hlt⟩⟩ := L
  · exact .inl h.1
  · refine .inr ⟨lo, 0, ofI .u8 l, .ro, ha, rfl, by show lo < nx; omega, ?_, by rw [ofI_len]; omega, by rw [List.drop_zero]; exact List.take_of_length_le (by rw [ofI_len]; exact Nat.le_refl _)⟩
    show (mkB (pre ++ (bl ++ post))).get lo = _
    rw [mkB_skip _ _ _ (fun x hx => Nat.ne_of_lt (hp x hx)), hb]
    exact mkB_hit _ _ _
theorem Lay.keys {bl : List (Nat × List V)} {a : Option (Nat × Nat)} {l : List Nat} {lo hi : Nat} (L : Lay bl a l lo hi) : ∀ x ∈ bl, lo ≤ x.1 ∧ x.1 < hi := by
  obtain ⟨hle, h | ⟨ha, hb, hlt⟩⟩ := L
  · exact h.2
  · intro x hx; rw [hb] at hx; rcases List.mem_singleton.1 hx with rfl; exact ⟨Nat.le_refl _, hlt⟩
end Go.Eng
