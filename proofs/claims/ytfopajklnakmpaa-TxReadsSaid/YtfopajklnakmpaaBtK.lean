/- What functions of the program come to: own work. -/
import Derived.Test.YtfopajklnakmpaaBtJ
namespace Go.Eng
open Go
variable {E : Nat → Option Fn} {X : Orc}
set_option linter.unusedSimpArgs false
set_option linter.unusedVariables false
/-! a hash the other way about -/
structure NoBs (X : Orc) : Prop where
  rv : ∀ a h, X (.fn k_slices_Reverse_byte_byte) a h = none
  re : ∀ a h, X (.fn k_block_reversed) a h = none
  vo : ∀ a h, X (.fn k_block_valueOf) a h = none
  sh : ∀ a h, X (.fn k_block_Show) a h = none
  rd : ∀ a h, X (.fn k_block_Read) a h = none
end Go.Eng
namespace Go.Eng
open Go
variable {E : Nat → Option Fn} {X : Orc}
set_option linter.unusedSimpArgs false
set_option linter.unusedVariables false
def dg (n : Nat) : Nat := if n < 10 then 48 + n else 87 + n
end Go.Eng
namespace Go.Eng
open Go
variable {E : Nat → Option Fn} {X : Orc}
set_option linter.unusedSimpArgs false
set_option linter.unusedVariables false
/-! a hash, shown -/
def hx (s : List Nat) : List Nat := (s.map fun b => [dg (b / 16), dg (b % 16)]).flatten
end Go.Eng
namespace Go.Eng
open Go
variable {E : Nat → Option Fn} {X : Orc}
set_option linter.unusedSimpArgs false
set_option linter.unusedVariables false
def flK (r : List Nat) (i : Nat) : List Nat := r.take i ++ List.replicate (32 - i) 0
theorem flK_len (r : List Nat) (hr : r.length = 32) (i : Nat) (hi : i ≤ 32) : (flK r i).length = 32 := by unfold flK; rw [List.length_append, List.length_take, List.length_replicate]; omega
theorem flK_set (r : List Nat) (hr : r.length = 32) (i b : Nat) (hi : i < 32) (h : r[i]? = some b) : (flK r i).set i b = flK r (i + 1) := by
  unfold flK
  have l : (r.take i).length = i := by rw [List.length_take]; omega
  rw [List.set_append_right _ _ (by omega), l, Nat.sub_self, show 32 - i = (32 - (i + 1)) + 1 by omega, List.replicate_succ, List.set_cons_zero, List.take_add_one, h, List.append_assoc]
  rfl
end Go.Eng
