import Derived.Test.YtfopajklnakmpaaBfH
namespace Go.Eng
open Go
variable {E:Nat→Option Fn} {X:Orc}
set_option linter.unusedSimpArgs false
set_option linter.unusedVariables false
section
variable {Hh:Type} {enc:TypeId × Value→Hh} {P:Program} {W:World} {spare:Nat→Bool} {held:Bool} {base:Nat}
end
end Go.Eng
