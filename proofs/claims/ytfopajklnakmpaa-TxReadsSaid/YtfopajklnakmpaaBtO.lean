/- What functions of the program come to: own work. -/
import Derived.Test.YtfopajklnakmpaaBtM
namespace Go.Eng
open Go
variable {E : Nat → Option Fn} {X : Orc}
set_option linter.unusedSimpArgs false
set_option linter.unusedVariables false
end Go.Eng
