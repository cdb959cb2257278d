/-
  No cell of these rows narrows 'for every input' (looked for: loops, veiled, ifaces, maps, wideKeys, modest, calm, conditions, laid).
  DERIVED. THE GIVEN ROWS OF THIS SEAT. 12 by the template 'for every input the law returns true; each argument reads behind the call as it read before'; 0 by the template 'total and deterministic' (their statements: YtniiddgjepkmeaaTotals.lean).
  GIVEN WITH THE SEED: the statements are not yours to turn. If you find one false, say at which input.
  Laid BY PROGRAM, IN A SANDBOX (cutbox-rows.mjs): the forced cells as the released guide's own fill.sh prints them over the translation 7f38c23ab0cc8a47… (all of the seat's roots in one cut). By AI agents, Wed Nov 11 2026. No macro, syntax, notation, axiom, sorry.
-/
import Derived.Test.YtniiddgjepkmeaaChecked
import GoSem.Claim
import GoSem.ClaimJoined
import GoSem.ClaimMapViews
import Derived.JoinedTies
import Derived.KernelRfl
namespace Go.Proofs.Ytniiddgjepkmeaa
/- THE CELL 'sum', in the pinned program and in every row, IS THE sha256 OF THE DUMP (.gsa) THAT YtniiddgjepkmeaaProg.lean LOADS. Nothing in Lean hashes anything: it is a label: what it is worth is what the hold of that sum in a sandbox is worth. -/
noncomputable def Try.pinned : Pinned := { name := "ytniiddgjepkmeaa", sum := "7f38c23ab0cc8a47a62540893021e02bc1d660f1348d671ebf76f8b5e696dc26", checked := Try.checked }
namespace Rows
def none {H : Type} : Left H := { results := [], args := [] }

/-- 'purserlaw03.WideSums': WHATEVER THE INPUT: true; the input reads as it did. -/
def wideSumsSpec : ChangeSpec := { name := "wideSums", fn := fun _ => fun
  | [d1, d2, d3] => { results := [.lit (.bool true)], args := [d1, d2, d3] }
  | _ => none }
def wideSumsRow : OpenClaim := { program := "ytniiddgjepkmeaa", sum := "7f38c23ab0cc8a47a62540893021e02bc1d660f1348d671ebf76f8b5e696dc26", func := "purser/purserlaw03.WideSums", spec := "wideSums", inPlace := ["math/bits.Add64", "math/bits.Sub64"], plainKeys := false, apart := false }
def WideSumsSaid : Prop := wideSumsRow.holds Try.pinned (OpenSpec.ofChange wideSumsSpec)

/-- ITS FALSE NEIGHBOUR: 'it returns false'. Refute it at one input. -/
def wideSumsWrong : ChangeSpec := { name := "wideSums", fn := fun _ => fun
  | [d1, d2, d3] => { results := [.lit (.bool false)], args := [d1, d2, d3] }
  | _ => none }
def WideSumsWrongFalsely : Prop := wideSumsRow.holds Try.pinned (OpenSpec.ofChange wideSumsWrong)

/-- 'purserlaw03.WideUndone': WHATEVER THE INPUT: true; the input reads as it did. -/
def wideUndoneSpec : ChangeSpec := { name := "wideUndone", fn := fun _ => fun
  | [d1, d2, d3] => { results := [.lit (.bool true)], args := [d1, d2, d3] }
  | _ => none }
def wideUndoneRow : OpenClaim := { program := "ytniiddgjepkmeaa", sum := "7f38c23ab0cc8a47a62540893021e02bc1d660f1348d671ebf76f8b5e696dc26", func := "purser/purserlaw03.WideUndone", spec := "wideUndone", inPlace := ["math/bits.Add64", "math/bits.Sub64"], plainKeys := false, apart := false }
def WideUndoneSaid : Prop := wideUndoneRow.holds Try.pinned (OpenSpec.ofChange wideUndoneSpec)

/-- ITS FALSE NEIGHBOUR: 'it returns false'. Refute it at one input. -/
def wideUndoneWrong : ChangeSpec := { name := "wideUndone", fn := fun _ => fun
  | [d1, d2, d3] => { results := [.lit (.bool false)], args := [d1, d2, d3] }
  | _ => none }
def WideUndoneWrongFalsely : Prop := wideUndoneRow.holds Try.pinned (OpenSpec.ofChange wideUndoneWrong)

/-- 'purserlaw03.WideTimes': WHATEVER THE INPUT: true; the input reads as it did. -/
def wideTimesSpec : ChangeSpec := { name := "wideTimes", fn := fun _ => fun
  | [d1, d2, d3] => { results := [.lit (.bool true)], args := [d1, d2, d3] }
  | _ => none }
def wideTimesRow : OpenClaim := { program := "ytniiddgjepkmeaa", sum := "7f38c23ab0cc8a47a62540893021e02bc1d660f1348d671ebf76f8b5e696dc26", func := "purser/purserlaw03.WideTimes", spec := "wideTimes", inPlace := ["math/bits.Add64", "math/bits.Sub64"], plainKeys := false, apart := false }
def WideTimesSaid : Prop := wideTimesRow.holds Try.pinned (OpenSpec.ofChange wideTimesSpec)

/-- ITS FALSE NEIGHBOUR: 'it returns false'. Refute it at one input. -/
def wideTimesWrong : ChangeSpec := { name := "wideTimes", fn := fun _ => fun
  | [d1, d2, d3] => { results := [.lit (.bool false)], args := [d1, d2, d3] }
  | _ => none }
def WideTimesWrongFalsely : Prop := wideTimesRow.holds Try.pinned (OpenSpec.ofChange wideTimesWrong)

/-- 'purserlaw06.TxOrders': WHATEVER THE INPUT: true; the input reads as it did. -/
def txOrdersSpec : ChangeSpec := { name := "txOrders", fn := fun _ => fun
  | [d1, d2] => { results := [.lit (.bool true)], args := [d1, d2] }
  | _ => none }
def txOrdersRow : OpenClaim := { program := "ytniiddgjepkmeaa", sum := "7f38c23ab0cc8a47a62540893021e02bc1d660f1348d671ebf76f8b5e696dc26", func := "purser/purserlaw06.TxOrders", spec := "txOrders", inPlace := ["internal/bytealg.Compare"], plainKeys := false, apart := false }
def TxOrdersSaid : Prop := txOrdersRow.holds Try.pinned (OpenSpec.ofChange txOrdersSpec)

/-- ITS FALSE NEIGHBOUR: 'it returns false'. Refute it at one input. -/
def txOrdersWrong : ChangeSpec := { name := "txOrders", fn := fun _ => fun
  | [d1, d2] => { results := [.lit (.bool false)], args := [d1, d2] }
  | _ => none }
def TxOrdersWrongFalsely : Prop := txOrdersRow.holds Try.pinned (OpenSpec.ofChange txOrdersWrong)

/-- 'purserlaw06.TxSorted': WHATEVER THE INPUT: true; the input reads as it did. -/
def txSortedSpec : ChangeSpec := { name := "txSorted", fn := fun _ => fun
  | [d1, d2, d3] => { results := [.lit (.bool true)], args := [d1, d2, d3] }
  | _ => none }
def txSortedRow : OpenClaim := { program := "ytniiddgjepkmeaa", sum := "7f38c23ab0cc8a47a62540893021e02bc1d660f1348d671ebf76f8b5e696dc26", func := "purser/purserlaw06.TxSorted", spec := "txSorted", inPlace := ["internal/abi.NoEscape", "internal/bytealg.MakeNoZero", "internal/bytealg.Compare"], unfollowed := true, recurses := true, plainKeys := false, apart := false }
def TxSortedSaid : Prop := txSortedRow.holds Try.pinned (OpenSpec.ofChange txSortedSpec)

/-- ITS FALSE NEIGHBOUR: 'it returns false'. Refute it at one input. -/
def txSortedWrong : ChangeSpec := { name := "txSorted", fn := fun _ => fun
  | [d1, d2, d3] => { results := [.lit (.bool false)], args := [d1, d2, d3] }
  | _ => none }
def TxSortedWrongFalsely : Prop := txSortedRow.holds Try.pinned (OpenSpec.ofChange txSortedWrong)

/-- 'purserlaw11.NumForms': WHATEVER THE INPUT: true; the input reads as it did. -/
def numFormsSpec : ChangeSpec := { name := "numForms", fn := fun _ => fun
  | [d1, d2, d3] => { results := [.lit (.bool true)], args := [d1, d2, d3] }
  | _ => none }
def numFormsRow : OpenClaim := { program := "ytniiddgjepkmeaa", sum := "7f38c23ab0cc8a47a62540893021e02bc1d660f1348d671ebf76f8b5e696dc26", func := "purser/purserlaw11.NumForms", spec := "numForms", unfollowed := true, recurses := true, plainKeys := false, apart := false }
def NumFormsSaid : Prop := numFormsRow.holds Try.pinned (OpenSpec.ofChange numFormsSpec)

/-- ITS FALSE NEIGHBOUR: 'it returns false'. Refute it at one input. -/
def numFormsWrong : ChangeSpec := { name := "numForms", fn := fun _ => fun
  | [d1, d2, d3] => { results := [.lit (.bool false)], args := [d1, d2, d3] }
  | _ => none }
def NumFormsWrongFalsely : Prop := numFormsRow.holds Try.pinned (OpenSpec.ofChange numFormsWrong)

/-- 'purserlaw11.NumMakes': WHATEVER THE INPUT: true; the input reads as it did. -/
def numMakesSpec : ChangeSpec := { name := "numMakes", fn := fun _ => fun
  | [d1, d2, d3, d4] => { results := [.lit (.bool true)], args := [d1, d2, d3, d4] }
  | _ => none }
def numMakesRow : OpenClaim := { program := "ytniiddgjepkmeaa", sum := "7f38c23ab0cc8a47a62540893021e02bc1d660f1348d671ebf76f8b5e696dc26", func := "purser/purserlaw11.NumMakes", spec := "numMakes", unfollowed := true, recurses := true, plainKeys := false, apart := false }
def NumMakesSaid : Prop := numMakesRow.holds Try.pinned (OpenSpec.ofChange numMakesSpec)

/-- ITS FALSE NEIGHBOUR: 'it returns false'. Refute it at one input. -/
def numMakesWrong : ChangeSpec := { name := "numMakes", fn := fun _ => fun
  | [d1, d2, d3, d4] => { results := [.lit (.bool false)], args := [d1, d2, d3, d4] }
  | _ => none }
def NumMakesWrongFalsely : Prop := numMakesRow.holds Try.pinned (OpenSpec.ofChange numMakesWrong)

/-- 'purserlaw11.NumBack': WHATEVER THE INPUT: true; the input reads as it did. -/
def numBackSpec : ChangeSpec := { name := "numBack", fn := fun _ => fun
  | [d1, d2] => { results := [.lit (.bool true)], args := [d1, d2] }
  | _ => none }
def numBackRow : OpenClaim := { program := "ytniiddgjepkmeaa", sum := "7f38c23ab0cc8a47a62540893021e02bc1d660f1348d671ebf76f8b5e696dc26", func := "purser/purserlaw11.NumBack", spec := "numBack", unfollowed := true, recurses := true, plainKeys := false, apart := false }
def NumBackSaid : Prop := numBackRow.holds Try.pinned (OpenSpec.ofChange numBackSpec)

/-- ITS FALSE NEIGHBOUR: 'it returns false'. Refute it at one input. -/
def numBackWrong : ChangeSpec := { name := "numBack", fn := fun _ => fun
  | [d1, d2] => { results := [.lit (.bool false)], args := [d1, d2] }
  | _ => none }
def NumBackWrongFalsely : Prop := numBackRow.holds Try.pinned (OpenSpec.ofChange numBackWrong)

/-- 'purserlaw11.NumSums': WHATEVER THE INPUT: true; the input reads as it did. -/
def numSumsSpec : ChangeSpec := { name := "numSums", fn := fun _ => fun
  | [d1, d2] => { results := [.lit (.bool true)], args := [d1, d2] }
  | _ => none }
def numSumsRow : OpenClaim := { program := "ytniiddgjepkmeaa", sum := "7f38c23ab0cc8a47a62540893021e02bc1d660f1348d671ebf76f8b5e696dc26", func := "purser/purserlaw11.NumSums", spec := "numSums", unfollowed := true, recurses := true, plainKeys := false, apart := false }
def NumSumsSaid : Prop := numSumsRow.holds Try.pinned (OpenSpec.ofChange numSumsSpec)

/-- ITS FALSE NEIGHBOUR: 'it returns false'. Refute it at one input. -/
def numSumsWrong : ChangeSpec := { name := "numSums", fn := fun _ => fun
  | [d1, d2] => { results := [.lit (.bool false)], args := [d1, d2] }
  | _ => none }
def NumSumsWrongFalsely : Prop := numSumsRow.holds Try.pinned (OpenSpec.ofChange numSumsWrong)

/-- 'purserlaw11.NumOrders': WHATEVER THE INPUT: true; the input reads as it did. -/
def numOrdersSpec : ChangeSpec := { name := "numOrders", fn := fun _ => fun
  | [d1, d2, d3] => { results := [.lit (.bool true)], args := [d1, d2, d3] }
  | _ => none }
def numOrdersRow : OpenClaim := { program := "ytniiddgjepkmeaa", sum := "7f38c23ab0cc8a47a62540893021e02bc1d660f1348d671ebf76f8b5e696dc26", func := "purser/purserlaw11.NumOrders", spec := "numOrders", unfollowed := true, recurses := true, plainKeys := false, apart := false }
def NumOrdersSaid : Prop := numOrdersRow.holds Try.pinned (OpenSpec.ofChange numOrdersSpec)

/-- ITS FALSE NEIGHBOUR: 'it returns false'. Refute it at one input. -/
def numOrdersWrong : ChangeSpec := { name := "numOrders", fn := fun _ => fun
  | [d1, d2, d3] => { results := [.lit (.bool false)], args := [d1, d2, d3] }
  | _ => none }
def NumOrdersWrongFalsely : Prop := numOrdersRow.holds Try.pinned (OpenSpec.ofChange numOrdersWrong)

/-- 'purserlaw11.NumMade': WHATEVER THE INPUT: true; the input reads as it did. -/
def numMadeSpec : ChangeSpec := { name := "numMade", fn := fun _ => fun
  | [d1, d2, d3] => { results := [.lit (.bool true)], args := [d1, d2, d3] }
  | _ => none }
def numMadeRow : OpenClaim := { program := "ytniiddgjepkmeaa", sum := "7f38c23ab0cc8a47a62540893021e02bc1d660f1348d671ebf76f8b5e696dc26", func := "purser/purserlaw11.NumMade", spec := "numMade", unfollowed := true, recurses := true, plainKeys := false, apart := false }
def NumMadeSaid : Prop := numMadeRow.holds Try.pinned (OpenSpec.ofChange numMadeSpec)

/-- ITS FALSE NEIGHBOUR: 'it returns false'. Refute it at one input. -/
def numMadeWrong : ChangeSpec := { name := "numMade", fn := fun _ => fun
  | [d1, d2, d3] => { results := [.lit (.bool false)], args := [d1, d2, d3] }
  | _ => none }
def NumMadeWrongFalsely : Prop := numMadeRow.holds Try.pinned (OpenSpec.ofChange numMadeWrong)

/-- 'purserlaw20.CoinSorted': WHATEVER THE INPUT: true; the input reads as it did. -/
def coinSortedSpec : ChangeSpec := { name := "coinSorted", fn := fun _ => fun
  | [d1, d2, d3] => { results := [.lit (.bool true)], args := [d1, d2, d3] }
  | _ => none }
def coinSortedRow : OpenClaim := { program := "ytniiddgjepkmeaa", sum := "7f38c23ab0cc8a47a62540893021e02bc1d660f1348d671ebf76f8b5e696dc26", func := "purser/purserlaw20.CoinSorted", spec := "coinSorted", inPlace := ["internal/abi.NoEscape", "internal/bytealg.MakeNoZero", "internal/bytealg.Compare"], unfollowed := true, recurses := true, plainKeys := false, apart := false }
def CoinSortedSaid : Prop := coinSortedRow.holds Try.pinned (OpenSpec.ofChange coinSortedSpec)

/-- ITS FALSE NEIGHBOUR: 'it returns false'. Refute it at one input. -/
def coinSortedWrong : ChangeSpec := { name := "coinSorted", fn := fun _ => fun
  | [d1, d2, d3] => { results := [.lit (.bool false)], args := [d1, d2, d3] }
  | _ => none }
def CoinSortedWrongFalsely : Prop := coinSortedRow.holds Try.pinned (OpenSpec.ofChange coinSortedWrong)

/- THE SECOND FORM. 'bulk': how many values and letters a reading holds, each counted each time it is reached (what is shared counts as often as it is met; a slice's spare places count too). A statement '..UptoSaid' is the law's where the arguments, and the package variables that the reading takes, are together of bulk at most 1048576: NARROWER than '..Said'. Prove '..Said' where nothing that the law and all that it calls make is longer than what came in: it says more and counts as full. Else prove '..UptoSaid'. A law counts once. -/
mutual
def uptoBulk {H : Type} : DataW H → Nat
  | .lit (.string bytes) => bytes.length + 1
  | .lit _ => 1
  | .nil => 1
  | .ptr d => uptoBulk d + 1
  | .slice elems spare => uptoBulkAll elems + uptoBulkAll spare + 1
  | .agg parts => uptoBulkAll parts + 1
  | .iface _ d => uptoBulk d + 1
  | .map entries => uptoBulkEntries entries + 1
  | .held _ => 1
def uptoBulkAll {H : Type} : List (DataW H) → Nat
  | [] => 0
  | d :: r => uptoBulk d + uptoBulkAll r
def uptoBulkEntries {H : Type} : List (Lit × DataW H) → Nat
  | [] => 0
  | x :: r => uptoBulkEntry x + uptoBulkEntries r
def uptoBulkEntry {H : Type} : Lit × DataW H → Nat
  | (.string bytes, d) => bytes.length + uptoBulk d + 1
  | (_, d) => uptoBulk d + 1
 end
def uptoSmall : (H : Type) → List (DataW H) → Bool := fun _ ds => decide (uptoBulkAll ds ≤ 1048576)
def OpenSpec.upto (s : _root_.Go.ChangeSpec) : _root_.Go.OpenSpec := { _root_.Go.OpenSpec.ofChange s with cond := some uptoSmall }

/-- 'purserlaw03.WideSums', WHERE WHAT IT READS IS OF BULK AT MOST 1048576: true; the input reads as it did. -/
def wideSumsUptoRow : OpenClaim := { program := "ytniiddgjepkmeaa", sum := "7f38c23ab0cc8a47a62540893021e02bc1d660f1348d671ebf76f8b5e696dc26", func := "purser/purserlaw03.WideSums", spec := "wideSums", inPlace := ["math/bits.Add64", "math/bits.Sub64"], plainKeys := false, apart := false, narrowed := true }
def WideSumsUptoSaid : Prop := wideSumsUptoRow.holds Try.pinned (OpenSpec.upto wideSumsSpec)

/-- 'purserlaw03.WideUndone', WHERE WHAT IT READS IS OF BULK AT MOST 1048576: true; the input reads as it did. -/
def wideUndoneUptoRow : OpenClaim := { program := "ytniiddgjepkmeaa", sum := "7f38c23ab0cc8a47a62540893021e02bc1d660f1348d671ebf76f8b5e696dc26", func := "purser/purserlaw03.WideUndone", spec := "wideUndone", inPlace := ["math/bits.Add64", "math/bits.Sub64"], plainKeys := false, apart := false, narrowed := true }
def WideUndoneUptoSaid : Prop := wideUndoneUptoRow.holds Try.pinned (OpenSpec.upto wideUndoneSpec)

/-- 'purserlaw03.WideTimes', WHERE WHAT IT READS IS OF BULK AT MOST 1048576: true; the input reads as it did. -/
def wideTimesUptoRow : OpenClaim := { program := "ytniiddgjepkmeaa", sum := "7f38c23ab0cc8a47a62540893021e02bc1d660f1348d671ebf76f8b5e696dc26", func := "purser/purserlaw03.WideTimes", spec := "wideTimes", inPlace := ["math/bits.Add64", "math/bits.Sub64"], plainKeys := false, apart := false, narrowed := true }
def WideTimesUptoSaid : Prop := wideTimesUptoRow.holds Try.pinned (OpenSpec.upto wideTimesSpec)

/-- 'purserlaw06.TxOrders', WHERE WHAT IT READS IS OF BULK AT MOST 1048576: true; the input reads as it did. -/
def txOrdersUptoRow : OpenClaim := { program := "ytniiddgjepkmeaa", sum := "7f38c23ab0cc8a47a62540893021e02bc1d660f1348d671ebf76f8b5e696dc26", func := "purser/purserlaw06.TxOrders", spec := "txOrders", inPlace := ["internal/bytealg.Compare"], plainKeys := false, apart := false, narrowed := true }
def TxOrdersUptoSaid : Prop := txOrdersUptoRow.holds Try.pinned (OpenSpec.upto txOrdersSpec)

/-- 'purserlaw06.TxSorted', WHERE WHAT IT READS IS OF BULK AT MOST 1048576: true; the input reads as it did. -/
def txSortedUptoRow : OpenClaim := { program := "ytniiddgjepkmeaa", sum := "7f38c23ab0cc8a47a62540893021e02bc1d660f1348d671ebf76f8b5e696dc26", func := "purser/purserlaw06.TxSorted", spec := "txSorted", inPlace := ["internal/abi.NoEscape", "internal/bytealg.MakeNoZero", "internal/bytealg.Compare"], unfollowed := true, recurses := true, plainKeys := false, apart := false, narrowed := true }
def TxSortedUptoSaid : Prop := txSortedUptoRow.holds Try.pinned (OpenSpec.upto txSortedSpec)

/-- 'purserlaw11.NumForms', WHERE WHAT IT READS IS OF BULK AT MOST 1048576: true; the input reads as it did. -/
def numFormsUptoRow : OpenClaim := { program := "ytniiddgjepkmeaa", sum := "7f38c23ab0cc8a47a62540893021e02bc1d660f1348d671ebf76f8b5e696dc26", func := "purser/purserlaw11.NumForms", spec := "numForms", unfollowed := true, recurses := true, plainKeys := false, apart := false, narrowed := true }
def NumFormsUptoSaid : Prop := numFormsUptoRow.holds Try.pinned (OpenSpec.upto numFormsSpec)

/-- 'purserlaw11.NumMakes', WHERE WHAT IT READS IS OF BULK AT MOST 1048576: true; the input reads as it did. -/
def numMakesUptoRow : OpenClaim := { program := "ytniiddgjepkmeaa", sum := "7f38c23ab0cc8a47a62540893021e02bc1d660f1348d671ebf76f8b5e696dc26", func := "purser/purserlaw11.NumMakes", spec := "numMakes", unfollowed := true, recurses := true, plainKeys := false, apart := false, narrowed := true }
def NumMakesUptoSaid : Prop := numMakesUptoRow.holds Try.pinned (OpenSpec.upto numMakesSpec)

/-- 'purserlaw11.NumBack', WHERE WHAT IT READS IS OF BULK AT MOST 1048576: true; the input reads as it did. -/
def numBackUptoRow : OpenClaim := { program := "ytniiddgjepkmeaa", sum := "7f38c23ab0cc8a47a62540893021e02bc1d660f1348d671ebf76f8b5e696dc26", func := "purser/purserlaw11.NumBack", spec := "numBack", unfollowed := true, recurses := true, plainKeys := false, apart := false, narrowed := true }
def NumBackUptoSaid : Prop := numBackUptoRow.holds Try.pinned (OpenSpec.upto numBackSpec)

/-- 'purserlaw11.NumSums', WHERE WHAT IT READS IS OF BULK AT MOST 1048576: true; the input reads as it did. -/
def numSumsUptoRow : OpenClaim := { program := "ytniiddgjepkmeaa", sum := "7f38c23ab0cc8a47a62540893021e02bc1d660f1348d671ebf76f8b5e696dc26", func := "purser/purserlaw11.NumSums", spec := "numSums", unfollowed := true, recurses := true, plainKeys := false, apart := false, narrowed := true }
def NumSumsUptoSaid : Prop := numSumsUptoRow.holds Try.pinned (OpenSpec.upto numSumsSpec)

/-- 'purserlaw11.NumOrders', WHERE WHAT IT READS IS OF BULK AT MOST 1048576: true; the input reads as it did. -/
def numOrdersUptoRow : OpenClaim := { program := "ytniiddgjepkmeaa", sum := "7f38c23ab0cc8a47a62540893021e02bc1d660f1348d671ebf76f8b5e696dc26", func := "purser/purserlaw11.NumOrders", spec := "numOrders", unfollowed := true, recurses := true, plainKeys := false, apart := false, narrowed := true }
def NumOrdersUptoSaid : Prop := numOrdersUptoRow.holds Try.pinned (OpenSpec.upto numOrdersSpec)

/-- 'purserlaw11.NumMade', WHERE WHAT IT READS IS OF BULK AT MOST 1048576: true; the input reads as it did. -/
def numMadeUptoRow : OpenClaim := { program := "ytniiddgjepkmeaa", sum := "7f38c23ab0cc8a47a62540893021e02bc1d660f1348d671ebf76f8b5e696dc26", func := "purser/purserlaw11.NumMade", spec := "numMade", unfollowed := true, recurses := true, plainKeys := false, apart := false, narrowed := true }
def NumMadeUptoSaid : Prop := numMadeUptoRow.holds Try.pinned (OpenSpec.upto numMadeSpec)

/-- 'purserlaw20.CoinSorted', WHERE WHAT IT READS IS OF BULK AT MOST 1048576: true; the input reads as it did. -/
def coinSortedUptoRow : OpenClaim := { program := "ytniiddgjepkmeaa", sum := "7f38c23ab0cc8a47a62540893021e02bc1d660f1348d671ebf76f8b5e696dc26", func := "purser/purserlaw20.CoinSorted", spec := "coinSorted", inPlace := ["internal/abi.NoEscape", "internal/bytealg.MakeNoZero", "internal/bytealg.Compare"], unfollowed := true, recurses := true, plainKeys := false, apart := false, narrowed := true }
def CoinSortedUptoSaid : Prop := coinSortedUptoRow.holds Try.pinned (OpenSpec.upto coinSortedSpec)

end Rows
end Go.Proofs.Ytniiddgjepkmeaa
