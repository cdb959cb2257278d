/- What functions of the program come to: own work. -/
import Derived.Test.YtfopajklnakmpaaBtK
namespace Go.Eng
open Go
variable {E : Nat → Option Fn} {X : Orc}
set_option linter.unusedSimpArgs false
set_option linter.unusedVariables false
end Go.Eng
namespace Go.Eng
open Go
variable {E : Nat → Option Fn} {X : Orc}
set_option linter.unusedSimpArgs false
set_option linter.unusedVariables false
structure NoBb (X : Orc) : Prop where
  bc : NoBc X
  bs : NoBs X
  db : NoDb X
  s7 : ∀ a h, X (.fn k_purserref07_Same) a h = none
theorem NoBb.al : NoBb (alT k_purserlaw07_alive) := by repeat' (first | exact fun _ _ => rfl | exact fun _ _ _ => rfl | exact fun _ => rfl | constructor)
end Go.Eng
