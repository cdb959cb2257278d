/-
  No cell of these rows narrows 'for every input' (looked for: loops, veiled, ifaces, maps, wideKeys, modest, calm, conditions, laid).
  DERIVED. THE GIVEN ROWS OF THIS SEAT. 12 by the template 'for every input the law returns true; each argument reads behind the call as it read before'; 0 by the template 'total and deterministic' (their statements: YtglaaipaomnnmaaTotals.lean).
  GIVEN WITH THE SEED: the statements are not yours to turn. If you find one false, say at which input.
  Laid BY PROGRAM, IN A SANDBOX (cutbox-rows.mjs): the forced cells as the released guide's own fill.sh prints them over the translation c5ddfbf532984053… (all of the seat's roots in one cut). By AI agents, Wed Nov 11 2026. No macro, syntax, notation, axiom, sorry.
-/
import Derived.Test.YtglaaipaomnnmaaChecked
import GoSem.Claim
import GoSem.ClaimJoined
import GoSem.ClaimMapViews
import Derived.JoinedTies
import Derived.KernelRfl
namespace Go.Proofs.Ytglaaipaomnnmaa
/- THE CELL 'sum', in the pinned program and in every row, IS THE sha256 OF THE DUMP (.gsa) THAT YtglaaipaomnnmaaProg.lean LOADS. Nothing in Lean hashes anything: it is a label: what it is worth is what the hold of that sum in a sandbox is worth. -/
noncomputable def Try.pinned : Pinned := { name := "ytglaaipaomnnmaa", sum := "c5ddfbf532984053f13752518a38e5e55e323fabaab84aa820d9153745fd40af", checked := Try.checked }
namespace Rows
def none {H : Type} : Left H := { results := [], args := [] }

/-- 'purserlaw04.ShaSums': WHATEVER THE INPUT: true; the input reads as it did. -/
def shaSumsSpec : ChangeSpec := { name := "shaSums", fn := fun _ => fun
  | [d] => { results := [.lit (.bool true)], args := [d] }
  | _ => none }
def shaSumsRow : OpenClaim := { program := "ytglaaipaomnnmaa", sum := "c5ddfbf532984053f13752518a38e5e55e323fabaab84aa820d9153745fd40af", func := "purser/purserlaw04.ShaSums", spec := "shaSums", unfollowed := true, recurses := true, apart := false }
def ShaSumsSaid : Prop := shaSumsRow.holds Try.pinned (OpenSpec.ofChange shaSumsSpec)

/-- ITS FALSE NEIGHBOUR: 'it returns false'. Refute it at one input. -/
def shaSumsWrong : ChangeSpec := { name := "shaSums", fn := fun _ => fun
  | [d] => { results := [.lit (.bool false)], args := [d] }
  | _ => none }
def ShaSumsWrongFalsely : Prop := shaSumsRow.holds Try.pinned (OpenSpec.ofChange shaSumsWrong)

/-- 'purserlaw04.ShaPieces': WHATEVER THE INPUT: true; the input reads as it did. -/
def shaPiecesSpec : ChangeSpec := { name := "shaPieces", fn := fun _ => fun
  | [d1, d2] => { results := [.lit (.bool true)], args := [d1, d2] }
  | _ => none }
def shaPiecesRow : OpenClaim := { program := "ytglaaipaomnnmaa", sum := "c5ddfbf532984053f13752518a38e5e55e323fabaab84aa820d9153745fd40af", func := "purser/purserlaw04.ShaPieces", spec := "shaPieces", unfollowed := true, recurses := true, apart := false }
def ShaPiecesSaid : Prop := shaPiecesRow.holds Try.pinned (OpenSpec.ofChange shaPiecesSpec)

/-- ITS FALSE NEIGHBOUR: 'it returns false'. Refute it at one input. -/
def shaPiecesWrong : ChangeSpec := { name := "shaPieces", fn := fun _ => fun
  | [d1, d2] => { results := [.lit (.bool false)], args := [d1, d2] }
  | _ => none }
def ShaPiecesWrongFalsely : Prop := shaPiecesRow.holds Try.pinned (OpenSpec.ofChange shaPiecesWrong)

/-- 'purserlaw04.ShaParts': WHATEVER THE INPUT: true; the input reads as it did. -/
def shaPartsSpec : ChangeSpec := { name := "shaParts", fn := fun _ => fun
  | [d1, d2] => { results := [.lit (.bool true)], args := [d1, d2] }
  | _ => none }
def shaPartsRow : OpenClaim := { program := "ytglaaipaomnnmaa", sum := "c5ddfbf532984053f13752518a38e5e55e323fabaab84aa820d9153745fd40af", func := "purser/purserlaw04.ShaParts", spec := "shaParts", unfollowed := true, recurses := true, apart := false }
def ShaPartsSaid : Prop := shaPartsRow.holds Try.pinned (OpenSpec.ofChange shaPartsSpec)

/-- ITS FALSE NEIGHBOUR: 'it returns false'. Refute it at one input. -/
def shaPartsWrong : ChangeSpec := { name := "shaParts", fn := fun _ => fun
  | [d1, d2] => { results := [.lit (.bool false)], args := [d1, d2] }
  | _ => none }
def ShaPartsWrongFalsely : Prop := shaPartsRow.holds Try.pinned (OpenSpec.ofChange shaPartsWrong)

/-- 'purserlaw04.ShaLong': WHATEVER THE INPUT: true; the input reads as it did. -/
def shaLongSpec : ChangeSpec := { name := "shaLong", fn := fun _ => fun
  | [d1, d2] => { results := [.lit (.bool true)], args := [d1, d2] }
  | _ => none }
def shaLongRow : OpenClaim := { program := "ytglaaipaomnnmaa", sum := "c5ddfbf532984053f13752518a38e5e55e323fabaab84aa820d9153745fd40af", func := "purser/purserlaw04.ShaLong", spec := "shaLong", unfollowed := true, recurses := true, apart := false }
def ShaLongSaid : Prop := shaLongRow.holds Try.pinned (OpenSpec.ofChange shaLongSpec)

/-- ITS FALSE NEIGHBOUR: 'it returns false'. Refute it at one input. -/
def shaLongWrong : ChangeSpec := { name := "shaLong", fn := fun _ => fun
  | [d1, d2] => { results := [.lit (.bool false)], args := [d1, d2] }
  | _ => none }
def ShaLongWrongFalsely : Prop := shaLongRow.holds Try.pinned (OpenSpec.ofChange shaLongWrong)

/-- 'purserlaw08.MerkleProves': WHATEVER THE INPUT: true; the input reads as it did. -/
def merkleProvesSpec : ChangeSpec := { name := "merkleProves", fn := fun _ => fun
  | [d1, d2, d3] => { results := [.lit (.bool true)], args := [d1, d2, d3] }
  | _ => none }
def merkleProvesRow : OpenClaim := { program := "ytglaaipaomnnmaa", sum := "c5ddfbf532984053f13752518a38e5e55e323fabaab84aa820d9153745fd40af", func := "purser/purserlaw08.MerkleProves", spec := "merkleProves", unfollowed := true, recurses := true, apart := false }
def MerkleProvesSaid : Prop := merkleProvesRow.holds Try.pinned (OpenSpec.ofChange merkleProvesSpec)

/-- ITS FALSE NEIGHBOUR: 'it returns false'. Refute it at one input. -/
def merkleProvesWrong : ChangeSpec := { name := "merkleProves", fn := fun _ => fun
  | [d1, d2, d3] => { results := [.lit (.bool false)], args := [d1, d2, d3] }
  | _ => none }
def MerkleProvesWrongFalsely : Prop := merkleProvesRow.holds Try.pinned (OpenSpec.ofChange merkleProvesWrong)

/-- 'purserlaw08.MerkleSwells': WHATEVER THE INPUT: true; the input reads as it did. -/
def merkleSwellsSpec : ChangeSpec := { name := "merkleSwells", fn := fun _ => fun
  | [d] => { results := [.lit (.bool true)], args := [d] }
  | _ => none }
def merkleSwellsRow : OpenClaim := { program := "ytglaaipaomnnmaa", sum := "c5ddfbf532984053f13752518a38e5e55e323fabaab84aa820d9153745fd40af", func := "purser/purserlaw08.MerkleSwells", spec := "merkleSwells", unfollowed := true, recurses := true, apart := false }
def MerkleSwellsSaid : Prop := merkleSwellsRow.holds Try.pinned (OpenSpec.ofChange merkleSwellsSpec)

/-- ITS FALSE NEIGHBOUR: 'it returns false'. Refute it at one input. -/
def merkleSwellsWrong : ChangeSpec := { name := "merkleSwells", fn := fun _ => fun
  | [d] => { results := [.lit (.bool false)], args := [d] }
  | _ => none }
def MerkleSwellsWrongFalsely : Prop := merkleSwellsRow.holds Try.pinned (OpenSpec.ofChange merkleSwellsWrong)

/-- 'purserlaw08.MerkleHalves': WHATEVER THE INPUT: true; the input reads as it did. -/
def merkleHalvesSpec : ChangeSpec := { name := "merkleHalves", fn := fun _ => fun
  | [d] => { results := [.lit (.bool true)], args := [d] }
  | _ => none }
def merkleHalvesRow : OpenClaim := { program := "ytglaaipaomnnmaa", sum := "c5ddfbf532984053f13752518a38e5e55e323fabaab84aa820d9153745fd40af", func := "purser/purserlaw08.MerkleHalves", spec := "merkleHalves", unfollowed := true, recurses := true, apart := false }
def MerkleHalvesSaid : Prop := merkleHalvesRow.holds Try.pinned (OpenSpec.ofChange merkleHalvesSpec)

/-- ITS FALSE NEIGHBOUR: 'it returns false'. Refute it at one input. -/
def merkleHalvesWrong : ChangeSpec := { name := "merkleHalves", fn := fun _ => fun
  | [d] => { results := [.lit (.bool false)], args := [d] }
  | _ => none }
def MerkleHalvesWrongFalsely : Prop := merkleHalvesRow.holds Try.pinned (OpenSpec.ofChange merkleHalvesWrong)

/-- 'purserlaw09.SignForms': WHATEVER THE INPUT: true; the input reads as it did. -/
def signFormsSpec : ChangeSpec := { name := "signForms", fn := fun _ => fun
  | [d1, d2] => { results := [.lit (.bool true)], args := [d1, d2] }
  | _ => none }
def signFormsRow : OpenClaim := { program := "ytglaaipaomnnmaa", sum := "c5ddfbf532984053f13752518a38e5e55e323fabaab84aa820d9153745fd40af", func := "purser/purserlaw09.SignForms", spec := "signForms", unfollowed := true, recurses := true, apart := false }
def SignFormsSaid : Prop := signFormsRow.holds Try.pinned (OpenSpec.ofChange signFormsSpec)

/-- ITS FALSE NEIGHBOUR: 'it returns false'. Refute it at one input. -/
def signFormsWrong : ChangeSpec := { name := "signForms", fn := fun _ => fun
  | [d1, d2] => { results := [.lit (.bool false)], args := [d1, d2] }
  | _ => none }
def SignFormsWrongFalsely : Prop := signFormsRow.holds Try.pinned (OpenSpec.ofChange signFormsWrong)

/-- 'purserlaw09.SignJudges': WHATEVER THE INPUT: true; the input reads as it did. -/
def signJudgesSpec : ChangeSpec := { name := "signJudges", fn := fun _ => fun
  | [d1, d2, d3] => { results := [.lit (.bool true)], args := [d1, d2, d3] }
  | _ => none }
def signJudgesRow : OpenClaim := { program := "ytglaaipaomnnmaa", sum := "c5ddfbf532984053f13752518a38e5e55e323fabaab84aa820d9153745fd40af", func := "purser/purserlaw09.SignJudges", spec := "signJudges", unfollowed := true, recurses := true, apart := false }
def SignJudgesSaid : Prop := signJudgesRow.holds Try.pinned (OpenSpec.ofChange signJudgesSpec)

/-- ITS FALSE NEIGHBOUR: 'it returns false'. Refute it at one input. -/
def signJudgesWrong : ChangeSpec := { name := "signJudges", fn := fun _ => fun
  | [d1, d2, d3] => { results := [.lit (.bool false)], args := [d1, d2, d3] }
  | _ => none }
def SignJudgesWrongFalsely : Prop := signJudgesRow.holds Try.pinned (OpenSpec.ofChange signJudgesWrong)

/-- 'purserlaw09.SignBinds': WHATEVER THE INPUT: true; the input reads as it did. -/
def signBindsSpec : ChangeSpec := { name := "signBinds", fn := fun _ => fun
  | [d1, d2, d3, d4] => { results := [.lit (.bool true)], args := [d1, d2, d3, d4] }
  | _ => none }
def signBindsRow : OpenClaim := { program := "ytglaaipaomnnmaa", sum := "c5ddfbf532984053f13752518a38e5e55e323fabaab84aa820d9153745fd40af", func := "purser/purserlaw09.SignBinds", spec := "signBinds", unfollowed := true, recurses := true, apart := false }
def SignBindsSaid : Prop := signBindsRow.holds Try.pinned (OpenSpec.ofChange signBindsSpec)

/-- ITS FALSE NEIGHBOUR: 'it returns false'. Refute it at one input. -/
def signBindsWrong : ChangeSpec := { name := "signBinds", fn := fun _ => fun
  | [d1, d2, d3, d4] => { results := [.lit (.bool false)], args := [d1, d2, d3, d4] }
  | _ => none }
def SignBindsWrongFalsely : Prop := signBindsRow.holds Try.pinned (OpenSpec.ofChange signBindsWrong)

/-- 'purserlaw09.SignTurned': WHATEVER THE INPUT: true; the input reads as it did. -/
def signTurnedSpec : ChangeSpec := { name := "signTurned", fn := fun _ => fun
  | [d1, d2, d3, d4] => { results := [.lit (.bool true)], args := [d1, d2, d3, d4] }
  | _ => none }
def signTurnedRow : OpenClaim := { program := "ytglaaipaomnnmaa", sum := "c5ddfbf532984053f13752518a38e5e55e323fabaab84aa820d9153745fd40af", func := "purser/purserlaw09.SignTurned", spec := "signTurned", unfollowed := true, recurses := true, apart := false }
def SignTurnedSaid : Prop := signTurnedRow.holds Try.pinned (OpenSpec.ofChange signTurnedSpec)

/-- ITS FALSE NEIGHBOUR: 'it returns false'. Refute it at one input. -/
def signTurnedWrong : ChangeSpec := { name := "signTurned", fn := fun _ => fun
  | [d1, d2, d3, d4] => { results := [.lit (.bool false)], args := [d1, d2, d3, d4] }
  | _ => none }
def SignTurnedWrongFalsely : Prop := signTurnedRow.holds Try.pinned (OpenSpec.ofChange signTurnedWrong)

/-- 'purserlaw09.SignTold': WHATEVER THE INPUT: true; the input reads as it did. -/
def signToldSpec : ChangeSpec := { name := "signTold", fn := fun _ => fun
  | [d1, d2, d3] => { results := [.lit (.bool true)], args := [d1, d2, d3] }
  | _ => none }
def signToldRow : OpenClaim := { program := "ytglaaipaomnnmaa", sum := "c5ddfbf532984053f13752518a38e5e55e323fabaab84aa820d9153745fd40af", func := "purser/purserlaw09.SignTold", spec := "signTold", unfollowed := true, recurses := true, apart := false }
def SignToldSaid : Prop := signToldRow.holds Try.pinned (OpenSpec.ofChange signToldSpec)

/-- ITS FALSE NEIGHBOUR: 'it returns false'. Refute it at one input. -/
def signToldWrong : ChangeSpec := { name := "signTold", fn := fun _ => fun
  | [d1, d2, d3] => { results := [.lit (.bool false)], args := [d1, d2, d3] }
  | _ => none }
def SignToldWrongFalsely : Prop := signToldRow.holds Try.pinned (OpenSpec.ofChange signToldWrong)

/- THE SECOND FORM. 'bulk': how many values and letters a reading holds, each counted each time it is reached (what is shared counts as often as it is met; a slice's spare places count too). A statement '..UptoSaid' is the law's where the arguments, and the package variables that the reading takes, are together of bulk at most 1048576: NARROWER than '..Said'. Prove '..Said' where nothing that the law and all that it calls make is longer than what came in: it says more and counts as full. Else prove '..UptoSaid'. A law counts once. -/
mutual
def uptoBulk {H : Type} : DataW H → Nat
  | .lit (.string bytes) => bytes.length + 1
  | .lit _ => 1
  | .nil => 1
  | .ptr d => uptoBulk d + 1
  | .slice elems spare => uptoBulkAll elems + uptoBulkAll spare + 1
  | .agg parts => uptoBulkAll parts + 1
  | .iface _ d => uptoBulk d + 1
  | .map entries => uptoBulkEntries entries + 1
  | .held _ => 1
def uptoBulkAll {H : Type} : List (DataW H) → Nat
  | [] => 0
  | d :: r => uptoBulk d + uptoBulkAll r
def uptoBulkEntries {H : Type} : List (Lit × DataW H) → Nat
  | [] => 0
  | x :: r => uptoBulkEntry x + uptoBulkEntries r
def uptoBulkEntry {H : Type} : Lit × DataW H → Nat
  | (.string bytes, d) => bytes.length + uptoBulk d + 1
  | (_, d) => uptoBulk d + 1
 end
def uptoSmall : (H : Type) → List (DataW H) → Bool := fun _ ds => decide (uptoBulkAll ds ≤ 1048576)
def OpenSpec.upto (s : _root_.Go.ChangeSpec) : _root_.Go.OpenSpec := { _root_.Go.OpenSpec.ofChange s with cond := some uptoSmall }

/-- 'purserlaw04.ShaSums', WHERE WHAT IT READS IS OF BULK AT MOST 1048576: true; the input reads as it did. -/
def shaSumsUptoRow : OpenClaim := { program := "ytglaaipaomnnmaa", sum := "c5ddfbf532984053f13752518a38e5e55e323fabaab84aa820d9153745fd40af", func := "purser/purserlaw04.ShaSums", spec := "shaSums", unfollowed := true, recurses := true, apart := false, narrowed := true }
def ShaSumsUptoSaid : Prop := shaSumsUptoRow.holds Try.pinned (OpenSpec.upto shaSumsSpec)

/-- 'purserlaw04.ShaPieces', WHERE WHAT IT READS IS OF BULK AT MOST 1048576: true; the input reads as it did. -/
def shaPiecesUptoRow : OpenClaim := { program := "ytglaaipaomnnmaa", sum := "c5ddfbf532984053f13752518a38e5e55e323fabaab84aa820d9153745fd40af", func := "purser/purserlaw04.ShaPieces", spec := "shaPieces", unfollowed := true, recurses := true, apart := false, narrowed := true }
def ShaPiecesUptoSaid : Prop := shaPiecesUptoRow.holds Try.pinned (OpenSpec.upto shaPiecesSpec)

/-- 'purserlaw04.ShaParts', WHERE WHAT IT READS IS OF BULK AT MOST 1048576: true; the input reads as it did. -/
def shaPartsUptoRow : OpenClaim := { program := "ytglaaipaomnnmaa", sum := "c5ddfbf532984053f13752518a38e5e55e323fabaab84aa820d9153745fd40af", func := "purser/purserlaw04.ShaParts", spec := "shaParts", unfollowed := true, recurses := true, apart := false, narrowed := true }
def ShaPartsUptoSaid : Prop := shaPartsUptoRow.holds Try.pinned (OpenSpec.upto shaPartsSpec)

/-- 'purserlaw04.ShaLong', WHERE WHAT IT READS IS OF BULK AT MOST 1048576: true; the input reads as it did. -/
def shaLongUptoRow : OpenClaim := { program := "ytglaaipaomnnmaa", sum := "c5ddfbf532984053f13752518a38e5e55e323fabaab84aa820d9153745fd40af", func := "purser/purserlaw04.ShaLong", spec := "shaLong", unfollowed := true, recurses := true, apart := false, narrowed := true }
def ShaLongUptoSaid : Prop := shaLongUptoRow.holds Try.pinned (OpenSpec.upto shaLongSpec)

/-- 'purserlaw08.MerkleProves', WHERE WHAT IT READS IS OF BULK AT MOST 1048576: true; the input reads as it did. -/
def merkleProvesUptoRow : OpenClaim := { program := "ytglaaipaomnnmaa", sum := "c5ddfbf532984053f13752518a38e5e55e323fabaab84aa820d9153745fd40af", func := "purser/purserlaw08.MerkleProves", spec := "merkleProves", unfollowed := true, recurses := true, apart := false, narrowed := true }
def MerkleProvesUptoSaid : Prop := merkleProvesUptoRow.holds Try.pinned (OpenSpec.upto merkleProvesSpec)

/-- 'purserlaw08.MerkleSwells', WHERE WHAT IT READS IS OF BULK AT MOST 1048576: true; the input reads as it did. -/
def merkleSwellsUptoRow : OpenClaim := { program := "ytglaaipaomnnmaa", sum := "c5ddfbf532984053f13752518a38e5e55e323fabaab84aa820d9153745fd40af", func := "purser/purserlaw08.MerkleSwells", spec := "merkleSwells", unfollowed := true, recurses := true, apart := false, narrowed := true }
def MerkleSwellsUptoSaid : Prop := merkleSwellsUptoRow.holds Try.pinned (OpenSpec.upto merkleSwellsSpec)

/-- 'purserlaw08.MerkleHalves', WHERE WHAT IT READS IS OF BULK AT MOST 1048576: true; the input reads as it did. -/
def merkleHalvesUptoRow : OpenClaim := { program := "ytglaaipaomnnmaa", sum := "c5ddfbf532984053f13752518a38e5e55e323fabaab84aa820d9153745fd40af", func := "purser/purserlaw08.MerkleHalves", spec := "merkleHalves", unfollowed := true, recurses := true, apart := false, narrowed := true }
def MerkleHalvesUptoSaid : Prop := merkleHalvesUptoRow.holds Try.pinned (OpenSpec.upto merkleHalvesSpec)

/-- 'purserlaw09.SignForms', WHERE WHAT IT READS IS OF BULK AT MOST 1048576: true; the input reads as it did. -/
def signFormsUptoRow : OpenClaim := { program := "ytglaaipaomnnmaa", sum := "c5ddfbf532984053f13752518a38e5e55e323fabaab84aa820d9153745fd40af", func := "purser/purserlaw09.SignForms", spec := "signForms", unfollowed := true, recurses := true, apart := false, narrowed := true }
def SignFormsUptoSaid : Prop := signFormsUptoRow.holds Try.pinned (OpenSpec.upto signFormsSpec)

/-- 'purserlaw09.SignJudges', WHERE WHAT IT READS IS OF BULK AT MOST 1048576: true; the input reads as it did. -/
def signJudgesUptoRow : OpenClaim := { program := "ytglaaipaomnnmaa", sum := "c5ddfbf532984053f13752518a38e5e55e323fabaab84aa820d9153745fd40af", func := "purser/purserlaw09.SignJudges", spec := "signJudges", unfollowed := true, recurses := true, apart := false, narrowed := true }
def SignJudgesUptoSaid : Prop := signJudgesUptoRow.holds Try.pinned (OpenSpec.upto signJudgesSpec)

/-- 'purserlaw09.SignBinds', WHERE WHAT IT READS IS OF BULK AT MOST 1048576: true; the input reads as it did. -/
def signBindsUptoRow : OpenClaim := { program := "ytglaaipaomnnmaa", sum := "c5ddfbf532984053f13752518a38e5e55e323fabaab84aa820d9153745fd40af", func := "purser/purserlaw09.SignBinds", spec := "signBinds", unfollowed := true, recurses := true, apart := false, narrowed := true }
def SignBindsUptoSaid : Prop := signBindsUptoRow.holds Try.pinned (OpenSpec.upto signBindsSpec)

/-- 'purserlaw09.SignTurned', WHERE WHAT IT READS IS OF BULK AT MOST 1048576: true; the input reads as it did. -/
def signTurnedUptoRow : OpenClaim := { program := "ytglaaipaomnnmaa", sum := "c5ddfbf532984053f13752518a38e5e55e323fabaab84aa820d9153745fd40af", func := "purser/purserlaw09.SignTurned", spec := "signTurned", unfollowed := true, recurses := true, apart := false, narrowed := true }
def SignTurnedUptoSaid : Prop := signTurnedUptoRow.holds Try.pinned (OpenSpec.upto signTurnedSpec)

/-- 'purserlaw09.SignTold', WHERE WHAT IT READS IS OF BULK AT MOST 1048576: true; the input reads as it did. -/
def signToldUptoRow : OpenClaim := { program := "ytglaaipaomnnmaa", sum := "c5ddfbf532984053f13752518a38e5e55e323fabaab84aa820d9153745fd40af", func := "purser/purserlaw09.SignTold", spec := "signTold", unfollowed := true, recurses := true, apart := false, narrowed := true }
def SignToldUptoSaid : Prop := signToldUptoRow.holds Try.pinned (OpenSpec.upto signToldSpec)

end Rows
end Go.Proofs.Ytglaaipaomnnmaa
