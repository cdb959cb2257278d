/- What functions of the program come to: own work. -/
import Derived.Test.YtcgfhdhjanmgaaaMpE
namespace Go.Eng
open Go
variable {E : Nat → Option Fn} {X : Orc}
set_option linter.unusedSimpArgs false
set_option linter.unusedVariables false
theorem RowB.flat {k : Nat} : ∀ (L : List (List Nat)) (vs : List V), RowB k vs L → vs.take (L.length * k) = ofI .u8 L.flatten := by
  intro L
  induction L with
  | nil => intro vs _; rw [List.length_nil, Nat.zero_mul]; rfl
  | cons x L ih =>
    intro vs r
    obtain ⟨h1, h2⟩ := r.2 0 x rfl
    rw [Nat.zero_mul, List.drop_zero] at h1
    have rd : RowB k (vs.drop k) L := by
      have := RowB.dropL (off := 0) (by rw [List.drop_zero]; exact r) 1 (by simp)
      rw [Nat.zero_add, Nat.one_mul] at this
      exact this
    rw [List.length_cons, Nat.succ_mul, Nat.add_comm, List.take_add, h1, ih _ rd, List.flatten_cons, ofI_app]
theorem and1 (n : Nat) (hn : n < 4611686018427387904) (e : EqK) (h : H) : binV .and e h (.int .i64 (n : Int)) (.int .i64 1) = some (.int .i64 ((n % 2 : Nat) : Int)) := by
  have e1 : binV .and e h (.int .i64 (n : Int)) (.int .i64 1) = some (.int .i64 (asK .i64 (Nat.land (n % 18446744073709551616) 1))) := rfl
  have e2 : Nat.land (n % 18446744073709551616) 1 = n % 2 := by
    rw [Nat.mod_eq_of_lt (by omega)]
    exact Nat.and_one_is_mod n
  rw [e1, e2]; unfold asK; rw [cond_blt, if_pos (by simp only [half]; omega)]; rfl
end Go.Eng
namespace Go.Eng
open Go
variable {E : Nat → Option Fn} {X : Orc}
set_option linter.unusedSimpArgs false
set_option linter.unusedVariables false
end Go.Eng
