/- What functions of the program come to: own work. -/
import Derived.Test.YtfopajklnakmpaaBxM
namespace Go.Eng
open Go
variable {E : Nat → Option Fn} {X : Orc}
set_option linter.unusedSimpArgs false
set_option linter.unusedVariables false
theorem ints_beq : ∀ l : List V, (∀ v ∈ l, ∃ k n, v = .int k n) → V.beqs l l = true := by
  intro l
  induction l with
  | nil => intro _; rfl
  | cons a r ih =>
    intro hv
    obtain ⟨k, n, rfl⟩ := hv a List.mem_cons_self
    show (V.beq (.int k n) (.int k n) && V.beqs r r) = true
    rw [vbeq_int, ih (fun v h => hv v (List.mem_cons_of_mem _ h))]; rfl
theorem hd_beq (x : HdQ) : V.beq (.agg (hdV x)) (.agg (hdV x)) = true := ints_beq _ (hdV_int x)
end Go.Eng
