/- What functions of the program come to: own work. -/
import Derived.Test.YtfopajklnakmpaaBaJ
namespace Go.Eng
open Go
variable {E : Nat → Option Fn} {X : Orc}
set_option linter.unusedSimpArgs false
set_option linter.unusedVariables false
/-! a hash the other way about -/
structure NoBs (X : Orc) : Prop where
  rv : ∀ a h, X (.fn k_slices_Reverse_byte_byte) a h = none
  re : ∀ a h, X (.fn k_block_reversed) a h = none
  vo : ∀ a h, X (.fn k_block_valueOf) a h = none
  sh : ∀ a h, X (.fn k_block_Show) a h = none
  rd : ∀ a h, X (.fn k_block_Read) a h = none
end Go.Eng
namespace Go.Eng
open Go
variable {E : Nat → Option Fn} {X : Orc}
set_option linter.unusedSimpArgs false
set_option linter.unusedVariables false
def dg (n : Nat) : Nat := if n < 10 then 48 + n else 87 + n
end Go.Eng
namespace Go.Eng
open Go
variable {E : Nat → Option Fn} {X : Orc}
set_option linter.unusedSimpArgs false
set_option linter.unusedVariables false
/-! a hash, shown -/
def hx (s : List Nat) : List Nat := (s.map fun b => [dg (b / 16), dg (b % 16)]).flatten
end Go.Eng
namespace Go.Eng
open Go
variable {E : Nat → Option Fn} {X : Orc}
set_option linter.unusedSimpArgs false
set_option linter.unusedVariables false
end Go.Eng
