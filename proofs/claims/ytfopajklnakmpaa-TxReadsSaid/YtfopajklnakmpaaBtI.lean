/- What functions of the program come to: own work. -/
import Derived.Test.YtfopajklnakmpaaBtH
namespace Go.Eng
open Go
variable {E : Nat → Option Fn} {X : Orc}
set_option linter.unusedSimpArgs false
set_option linter.unusedVariables false
end Go.Eng
namespace Go.Eng
open Go
variable {E : Nat → Option Fn} {X : Orc}
set_option linter.unusedSimpArgs false
set_option linter.unusedVariables false
/-! blocks' bytes, there and back -/
end Go.Eng
namespace Go.Eng
open Go
variable {E : Nat → Option Fn} {X : Orc}
set_option linter.unusedSimpArgs false
set_option linter.unusedVariables false
structure NoBc (X : Orc) : Prop where
  be : NoBe X
  bd : NoBd X
  g6 : ∀ a h, X (.fn k_purserref06_Great) a h = none
  g7 : ∀ a h, X (.fn k_purserref07_Great) a h = none
theorem NoBc.al : NoBc (alT k_purserlaw07_alive) := by repeat' (first | exact fun _ _ => rfl | exact fun _ _ _ => rfl | exact fun _ => rfl | constructor)
end Go.Eng
namespace Go.Eng
open Go
variable {E : Nat → Option Fn} {X : Orc}
set_option linter.unusedSimpArgs false
set_option linter.unusedVariables false
def BkAt (h : H) (x : BkQ) (vs : List V) : Prop := ∃ a, vs = hdV x.hd ++ [.slice a x.txs.length none 4] ∧ ∃ parts, Al2 (TxAt h) x.txs parts ∧ (x.txs = [] ∨ ∃ k md, a = some (k, 0) ∧ k < h.next ∧ h.get k = some (.cells parts.flatten md))
theorem BkAt.row {h : H} {txs : List TxQ} {a : Option (Nat × Nat)} (ok : ∀ t ∈ txs, t.ok) (r : ∃ parts, Al2 (TxAt h) txs parts ∧ (txs = [] ∨ ∃ k md, a = some (k, 0) ∧ k < h.next ∧ h.get k = some (.cells parts.flatten md))) : RowG (fun j => j < h.next) 4 TxC h txs a 4 := by
  obtain ⟨parts, al, t⟩ := r
  have al2 : Al2 (TxC (fun j => j < h.next) h) txs parts := by
    clear t
    induction al with
    | nil => exact .nil
    | cons h1 _ ih =>
      obtain ⟨a, b, e, s1, s2⟩ := h1
      exact .cons ⟨a, b, none, none, 35, 2, e, s1.row (ok _ (List.mem_cons_self ..)).io, s2.row⟩ (ih (fun t ht => ok t (List.mem_cons_of_mem _ ht)))
  exact rowG_of (fun o p h => h.fit.1) al2 a t
section
variable {Hh : Type} {enc : TypeId × Value → Hh} {P : Program} {W : World} {spare : Nat → Bool} {held : Bool} {base : Nat}
end
end Go.Eng
