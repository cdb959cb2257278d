/-
  No cell of these rows narrows 'for every input' (looked for: loops, veiled, ifaces, maps, wideKeys, modest, calm, conditions, laid).
  DERIVED. THE GIVEN ROWS OF THIS SEAT. 4 by the template 'for every input the law returns true; each argument reads behind the call as it read before'; 0 by the template 'total and deterministic' (their statements: YtcnfdncdilpgbaaTotals.lean).
  GIVEN WITH THE SEED: the statements are not yours to turn. If you find one false, say at which input.
  Laid BY PROGRAM, IN A SANDBOX (cutbox-rows.mjs): the forced cells as the released guide's own fill.sh prints them over the translation 6a176f167887d06f… (all of the seat's roots in one cut). By AI agents, Wed Nov 11 2026. No macro, syntax, notation, axiom, sorry.
-/
import Derived.Test.YtcnfdncdilpgbaaChecked
import GoSem.Claim
import GoSem.ClaimJoined
import GoSem.ClaimMapViews
import Derived.JoinedTies
import Derived.KernelRfl
namespace Go.Proofs.Ytcnfdncdilpgbaa
/- THE CELL 'sum', in the pinned program and in every row, IS THE sha256 OF THE DUMP (.gsa) THAT YtcnfdncdilpgbaaProg.lean LOADS. Nothing in Lean hashes anything: it is a label: what it is worth is what the hold of that sum in a sandbox is worth. -/
noncomputable def Try.pinned : Pinned := { name := "ytcnfdncdilpgbaa", sum := "6a176f167887d06f4a513310416a49d5de794edd20f4e3a39d94e9ebabb86d14", checked := Try.checked }
namespace Rows
def none {H : Type} : Left H := { results := [], args := [] }

/-- 'purserlaw10.OpsSplit': WHATEVER THE INPUT: true; the input reads as it did. -/
def opsSplitSpec : ChangeSpec := { name := "opsSplit", fn := fun _ => fun
  | [d] => { results := [.lit (.bool true)], args := [d] }
  | _ => none }
def opsSplitRow : OpenClaim := { program := "ytcnfdncdilpgbaa", sum := "6a176f167887d06f4a513310416a49d5de794edd20f4e3a39d94e9ebabb86d14", func := "purser/purserlaw10.OpsSplit", spec := "opsSplit", unfollowed := true, recurses := true, apart := false }
def OpsSplitSaid : Prop := opsSplitRow.holds Try.pinned (OpenSpec.ofChange opsSplitSpec)

/-- ITS FALSE NEIGHBOUR: 'it returns false'. Refute it at one input. -/
def opsSplitWrong : ChangeSpec := { name := "opsSplit", fn := fun _ => fun
  | [d] => { results := [.lit (.bool false)], args := [d] }
  | _ => none }
def OpsSplitWrongFalsely : Prop := opsSplitRow.holds Try.pinned (OpenSpec.ofChange opsSplitWrong)

/-- 'purserlaw10.OpsJoin': WHATEVER THE INPUT: true; the input reads as it did. -/
def opsJoinSpec : ChangeSpec := { name := "opsJoin", fn := fun _ => fun
  | [d1, d2, d3] => { results := [.lit (.bool true)], args := [d1, d2, d3] }
  | _ => none }
def opsJoinRow : OpenClaim := { program := "ytcnfdncdilpgbaa", sum := "6a176f167887d06f4a513310416a49d5de794edd20f4e3a39d94e9ebabb86d14", func := "purser/purserlaw10.OpsJoin", spec := "opsJoin", unfollowed := true, recurses := true, apart := false }
def OpsJoinSaid : Prop := opsJoinRow.holds Try.pinned (OpenSpec.ofChange opsJoinSpec)

/-- ITS FALSE NEIGHBOUR: 'it returns false'. Refute it at one input. -/
def opsJoinWrong : ChangeSpec := { name := "opsJoin", fn := fun _ => fun
  | [d1, d2, d3] => { results := [.lit (.bool false)], args := [d1, d2, d3] }
  | _ => none }
def OpsJoinWrongFalsely : Prop := opsJoinRow.holds Try.pinned (OpenSpec.ofChange opsJoinWrong)

/-- 'purserlaw10.OpsBack': WHATEVER THE INPUT: true; the input reads as it did. -/
def opsBackSpec : ChangeSpec := { name := "opsBack", fn := fun _ => fun
  | [d1, d2] => { results := [.lit (.bool true)], args := [d1, d2] }
  | _ => none }
def opsBackRow : OpenClaim := { program := "ytcnfdncdilpgbaa", sum := "6a176f167887d06f4a513310416a49d5de794edd20f4e3a39d94e9ebabb86d14", func := "purser/purserlaw10.OpsBack", spec := "opsBack", unfollowed := true, recurses := true, apart := false }
def OpsBackSaid : Prop := opsBackRow.holds Try.pinned (OpenSpec.ofChange opsBackSpec)

/-- ITS FALSE NEIGHBOUR: 'it returns false'. Refute it at one input. -/
def opsBackWrong : ChangeSpec := { name := "opsBack", fn := fun _ => fun
  | [d1, d2] => { results := [.lit (.bool false)], args := [d1, d2] }
  | _ => none }
def OpsBackWrongFalsely : Prop := opsBackRow.holds Try.pinned (OpenSpec.ofChange opsBackWrong)

/-- 'purserlaw10.OpsPushed': WHATEVER THE INPUT: true; the input reads as it did. -/
def opsPushedSpec : ChangeSpec := { name := "opsPushed", fn := fun _ => fun
  | [d1, d2] => { results := [.lit (.bool true)], args := [d1, d2] }
  | _ => none }
def opsPushedRow : OpenClaim := { program := "ytcnfdncdilpgbaa", sum := "6a176f167887d06f4a513310416a49d5de794edd20f4e3a39d94e9ebabb86d14", func := "purser/purserlaw10.OpsPushed", spec := "opsPushed", unfollowed := true, recurses := true, apart := false }
def OpsPushedSaid : Prop := opsPushedRow.holds Try.pinned (OpenSpec.ofChange opsPushedSpec)

/-- ITS FALSE NEIGHBOUR: 'it returns false'. Refute it at one input. -/
def opsPushedWrong : ChangeSpec := { name := "opsPushed", fn := fun _ => fun
  | [d1, d2] => { results := [.lit (.bool false)], args := [d1, d2] }
  | _ => none }
def OpsPushedWrongFalsely : Prop := opsPushedRow.holds Try.pinned (OpenSpec.ofChange opsPushedWrong)

/- THE SECOND FORM. 'bulk': how many values and letters a reading holds, each counted each time it is reached (what is shared counts as often as it is met; a slice's spare places count too). A statement '..UptoSaid' is the law's where the arguments, and the package variables that the reading takes, are together of bulk at most 1048576: NARROWER than '..Said'. Prove '..Said' where nothing that the law and all that it calls make is longer than what came in: it says more and counts as full. Else prove '..UptoSaid'. A law counts once. -/
mutual
def uptoBulk {H : Type} : DataW H → Nat
  | .lit (.string bytes) => bytes.length + 1
  | .lit _ => 1
  | .nil => 1
  | .ptr d => uptoBulk d + 1
  | .slice elems spare => uptoBulkAll elems + uptoBulkAll spare + 1
  | .agg parts => uptoBulkAll parts + 1
  | .iface _ d => uptoBulk d + 1
  | .map entries => uptoBulkEntries entries + 1
  | .held _ => 1
def uptoBulkAll {H : Type} : List (DataW H) → Nat
  | [] => 0
  | d :: r => uptoBulk d + uptoBulkAll r
def uptoBulkEntries {H : Type} : List (Lit × DataW H) → Nat
  | [] => 0
  | x :: r => uptoBulkEntry x + uptoBulkEntries r
def uptoBulkEntry {H : Type} : Lit × DataW H → Nat
  | (.string bytes, d) => bytes.length + uptoBulk d + 1
  | (_, d) => uptoBulk d + 1
 end
def uptoSmall : (H : Type) → List (DataW H) → Bool := fun _ ds => decide (uptoBulkAll ds ≤ 1048576)
def OpenSpec.upto (s : _root_.Go.ChangeSpec) : _root_.Go.OpenSpec := { _root_.Go.OpenSpec.ofChange s with cond := some uptoSmall }

/-- 'purserlaw10.OpsSplit', WHERE WHAT IT READS IS OF BULK AT MOST 1048576: true; the input reads as it did. -/
def opsSplitUptoRow : OpenClaim := { program := "ytcnfdncdilpgbaa", sum := "6a176f167887d06f4a513310416a49d5de794edd20f4e3a39d94e9ebabb86d14", func := "purser/purserlaw10.OpsSplit", spec := "opsSplit", unfollowed := true, recurses := true, apart := false, narrowed := true }
def OpsSplitUptoSaid : Prop := opsSplitUptoRow.holds Try.pinned (OpenSpec.upto opsSplitSpec)

/-- 'purserlaw10.OpsJoin', WHERE WHAT IT READS IS OF BULK AT MOST 1048576: true; the input reads as it did. -/
def opsJoinUptoRow : OpenClaim := { program := "ytcnfdncdilpgbaa", sum := "6a176f167887d06f4a513310416a49d5de794edd20f4e3a39d94e9ebabb86d14", func := "purser/purserlaw10.OpsJoin", spec := "opsJoin", unfollowed := true, recurses := true, apart := false, narrowed := true }
def OpsJoinUptoSaid : Prop := opsJoinUptoRow.holds Try.pinned (OpenSpec.upto opsJoinSpec)

/-- 'purserlaw10.OpsBack', WHERE WHAT IT READS IS OF BULK AT MOST 1048576: true; the input reads as it did. -/
def opsBackUptoRow : OpenClaim := { program := "ytcnfdncdilpgbaa", sum := "6a176f167887d06f4a513310416a49d5de794edd20f4e3a39d94e9ebabb86d14", func := "purser/purserlaw10.OpsBack", spec := "opsBack", unfollowed := true, recurses := true, apart := false, narrowed := true }
def OpsBackUptoSaid : Prop := opsBackUptoRow.holds Try.pinned (OpenSpec.upto opsBackSpec)

/-- 'purserlaw10.OpsPushed', WHERE WHAT IT READS IS OF BULK AT MOST 1048576: true; the input reads as it did. -/
def opsPushedUptoRow : OpenClaim := { program := "ytcnfdncdilpgbaa", sum := "6a176f167887d06f4a513310416a49d5de794edd20f4e3a39d94e9ebabb86d14", func := "purser/purserlaw10.OpsPushed", spec := "opsPushed", unfollowed := true, recurses := true, apart := false, narrowed := true }
def OpsPushedUptoSaid : Prop := opsPushedUptoRow.holds Try.pinned (OpenSpec.upto opsPushedSpec)

end Rows
end Go.Proofs.Ytcnfdncdilpgbaa
