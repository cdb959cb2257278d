/- What functions of the program come to: own work. -/
import Derived.Test.YtfopajklnakmpaaBaM
namespace Go.Eng
open Go
variable {E : Nat → Option Fn} {X : Orc}
set_option linter.unusedSimpArgs false
set_option linter.unusedVariables false
theorem b_neqbb (h : H) (a : Bool) : binV .neq .bool h (.bool a) (.bool a) = some (.bool false) := by cases a <;> rfl
end Go.Eng
