/- What functions of the program come to: own work. -/
import Derived.Test.YtfopajklnakmpaaBtL
import Derived.Test.YtfopajklnakmpaaBtN
import Derived.ProofKit
namespace Go.Eng
open Go
variable {E : Nat → Option Fn} {X : Orc}
set_option linter.unusedSimpArgs false
set_option linter.unusedVariables false
structure NoSha (X : Orc) : Prop where
  rot : ∀ a h, X (.fn k_math_bits_RotateLeft32) a h = none
  turned : ∀ a h, X (.fn k_sha_turned) a h = none
  cube : ∀ a h, X (.fn k_sha_cubeTable) a h = none
  square : ∀ a h, X (.fn k_sha_squareTable) a h = none
  sched : ∀ a h, X (.fn k_sha_Sum_schedule) a h = none
  mix : ∀ a h, X (.fn k_sha_Sum_mix) a h = none
  sums : ∀ a h, X (.fn k_sha_Sum_sums) a h = none
  fill : ∀ a h, X (.fn k_sha_Sum_fill) a h = none
  fill1 : ∀ a h, X (.fn k_sha_Sum_fill_1) a h = none
  pad : ∀ a h, X (.fn k_sha_padding) a h = none
  write : ∀ a h, X (.fn k_sha_Sum_Write) a h = none
  fin : ∀ a h, X (.fn k_sha_Sum_End) a h = none
  new : ∀ a h, X (.fn k_sha_New) a h = none
  yld : ∀ l a h, X (.yld l) a h = none
end Go.Eng
namespace Go.Eng
open Go
variable {E : Nat → Option Fn} {X : Orc}
set_option linter.unusedSimpArgs false
set_option linter.unusedVariables false
def shaV (l : List Nat) : List Nat := endV (absorb initS l)
def ofS (l : List Nat) : Option V := if decide (l.length ≤ 100000) then some (.agg (ofI .u8 (shaV l))) else none
noncomputable def ofQ (r : Option (List Nat)) (fb : Option (V × H)) (h : H) : Option (V × H) := match r with
  | some l => match ofS l with
    | some v => some (v, h)
    | none => fb
  | none => fb
@[congr] theorem ofQ_congr {r r' : Option (List Nat)} {fb : Option (V × H)} {h : H} (e : r = r') : ofQ r fb h = ofQ r' fb h := by rw [e]
end Go.Eng
