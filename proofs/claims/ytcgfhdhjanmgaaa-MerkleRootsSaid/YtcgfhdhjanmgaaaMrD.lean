/- What functions of the program come to: own work. -/
import Derived.Test.YtcgfhdhjanmgaaaMrC
namespace Go.Eng
open Go
variable {E : Nat → Option Fn} {X : Orc}
set_option linter.unusedSimpArgs false
set_option linter.unusedVariables false
theorem vbq_slc (a : Option (Nat × Nat)) (l : Nat) (c : Option Nat) (e : Nat) : V.beq (.slice a l c e) (.slice a l c e) = true := by unfold V.beq; simp
end Go.Eng
namespace Go.Eng
open Go
variable {E : Nat → Option Fn} {X : Orc}
set_option linter.unusedSimpArgs false
set_option linter.unusedVariables false
theorem RowB.take {k : Nat} {vs : List V} {L : List (List Nat)} (r : RowB k vs L) (n : Nat) : RowB k vs (L.take n) := by
  refine ⟨Nat.le_trans (Nat.mul_le_mul_right k (by rw [List.length_take]; omega)) r.1, fun i o ho => ?_⟩
  rw [List.getElem?_take] at ho
  split at ho
  · exact r.2 i o ho
  · cases ho
theorem RowB.dropL {k : Nat} {vs : List V} {off : Nat} {L : List (List Nat)} (r : RowB k (vs.drop off) L) (n : Nat) (hn : n ≤ L.length) : RowB k (vs.drop (off + n * k)) (L.drop n) := by
  refine ⟨?_, fun i o ho => ?_⟩
  · have h1 := r.1
    have h3 : (vs.drop (off + n * k)).length = vs.length - (off + n * k) := List.length_drop ..
    have h4 : (vs.drop off).length = vs.length - off := List.length_drop ..
    have h2 : (L.drop n).length * k + n * k = L.length * k := by rw [← Nat.add_mul, List.length_drop, Nat.sub_add_cancel hn]
    omega
  · rw [List.getElem?_drop] at ho
    have := r.2 _ o ho
    rw [List.drop_drop, Nat.add_mul, ← Nat.add_assoc] at this
    rw [List.drop_drop]; exact this
theorem quo2 (n : Nat) (hn : n < 4611686018427387904) (e : EqK) (h : H) : binV .quo e h (.int .i64 (n : Int)) (.int .i64 2) = some (.int .i64 ((n / 2 : Nat) : Int)) := by
  rw [b_quo _ _ _ _ _ (by omega), show Int.tdiv (n : Int) 2 = ((n / 2 : Nat) : Int) from rfl, wr_i64 (by omega)]
structure Cel (g g' : H) (R : List Nat) : Prop where
  eq : (g.new (.cells (ofI .u8 (List.replicate 32 0)) .rw)).put g.next (.cells (ofI .u8 R) .rw) = g'
  kp : Kp g g'
  nx : g'.next = g.next + 1
  gt : g'.get g.next = some (.cells (ofI .u8 R) .rw)
theorem cel (g : H) (R : List Nat) : ∃ g', Cel g g' R := ⟨_, rfl, ⟨by show g.next ≤ g.next + 1; omega, fun j hj => by rw [h_put_ne _ _ (by omega), h_new_ne _ _ (by omega)]⟩, rfl, h_put_same _ _ _⟩
theorem rtL_len : ∀ (n : Nat) (l : List (List Nat)), l.length ≤ n → 0 < l.length → (∀ o ∈ l, o.length = 32) → (rtL l).length = 32 := by
  intro n
  induction n with
  | zero => intro l h1 h2; omega
  | succ n ih =>
    intro l h1 h2 h3
    by_cases h : l.length = 1
    · obtain ⟨x, rfl⟩ := List.length_eq_one_iff.1 h
      rw [rtL_1]; exact h3 x (by simp)
    · rw [rtL_up l (by omega)]
      exact ih _ (by rw [up_len]; omega) (by rw [up_len]; omega) (up_all l)
theorem aggI_beq (k : IntKind) (l : List Nat) : V.beq (.agg (ofI k l)) (.agg (ofI k l)) = true := by
  show V.beqs (ofI k l) (ofI k l) = true
  induction l with
  | nil => rfl
  | cons a r ih =>
    show (V.beq (.int k (a : Int)) (.int k (a : Int)) && V.beqs (ofI k r) (ofI k r)) = true
    rw [vbeq_int, ih]; rfl
end Go.Eng
