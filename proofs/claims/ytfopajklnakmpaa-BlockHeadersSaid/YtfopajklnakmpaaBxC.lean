/- What functions of the program come to: own work. -/
import Derived.Test.YtfopajklnakmpaaBxB
namespace Go.Eng
open Go
variable {E : Nat → Option Fn} {X : Orc}
set_option linter.unusedSimpArgs false
set_option linter.unusedVariables false
end Go.Eng
namespace Go.Eng
open Go
variable {E : Nat → Option Fn} {X : Orc}
set_option linter.unusedSimpArgs false
set_option linter.unusedVariables false
end Go.Eng
namespace Go.Eng
open Go
variable {E : Nat → Option Fn} {X : Orc}
set_option linter.unusedSimpArgs false
set_option linter.unusedVariables false
end Go.Eng
namespace Go.Eng
open Go
variable {E : Nat → Option Fn} {X : Orc}
set_option linter.unusedSimpArgs false
set_option linter.unusedVariables false
end Go.Eng
namespace Go.Eng
open Go
variable {E : Nat → Option Fn} {X : Orc}
set_option linter.unusedSimpArgs false
set_option linter.unusedVariables false
structure NoTc (X : Orc) : Prop where
  y : ∀ l a h, X (.yld l) a h = none
  ck : ∀ a h, X (.fn k_tx_Check) a h = none
  ct : ∀ a h, X (.fn k_tx_counted) a h = none
  sc : ∀ a h, X (.fn k_tx_scripts) a h = none
  s1 : ∀ a h, X (.fn k_tx_scripts_1) a h = none
end Go.Eng
namespace Go.Eng
open Go
variable {E : Nat → Option Fn} {X : Orc}
set_option linter.unusedSimpArgs false
set_option linter.unusedVariables false
end Go.Eng
namespace Go.Eng
open Go
variable {E : Nat → Option Fn} {X : Orc}
set_option linter.unusedSimpArgs false
set_option linter.unusedVariables false
end Go.Eng
namespace Go.Eng
open Go
variable {E : Nat → Option Fn} {X : Orc}
set_option linter.unusedSimpArgs false
set_option linter.unusedVariables false
end Go.Eng
namespace Go.Eng
open Go
variable {E : Nat → Option Fn} {X : Orc}
set_option linter.unusedSimpArgs false
set_option linter.unusedVariables false
end Go.Eng
namespace Go.Eng
open Go
variable {E : Nat → Option Fn} {X : Orc}
set_option linter.unusedSimpArgs false
set_option linter.unusedVariables false
theorem argV_str {P : Program} {t : TypeId} {fs : Array Field} (h : P.underlying t = some (.struct fs)) (vs : List V) : argV P t vs = .agg vs := by unfold argV; rw [h]
noncomputable def alT (k : Nat) : Orc := pureX k aliveS
structure NoTl (X : Orc) : Prop where
  te : NoTe X
  tc : NoTc X
  gr : ∀ a h, X (.fn k_purserref06_Great) a h = none
  sz : ∀ a h, X (.fn k_purserlaw06_size) a h = none
end Go.Eng
namespace Go.Eng
open Go
variable {E : Nat → Option Fn} {X : Orc}
set_option linter.unusedSimpArgs false
set_option linter.unusedVariables false
theorem NoTl.al : NoTl (alT k_purserlaw06_alive) := by repeat' (first | exact fun _ _ => rfl | exact fun _ _ _ => rfl | exact fun _ => rfl | constructor)
end Go.Eng
