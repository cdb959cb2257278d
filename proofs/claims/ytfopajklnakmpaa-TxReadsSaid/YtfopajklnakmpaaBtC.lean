/- What functions of the program come to: own work. -/
import Derived.Test.YtfopajklnakmpaaBtB
namespace Go.Eng
open Go
variable {E : Nat → Option Fn} {X : Orc}
set_option linter.unusedSimpArgs false
set_option linter.unusedVariables false
end Go.Eng
namespace Go.Eng
open Go
variable {E : Nat → Option Fn} {X : Orc}
set_option linter.unusedSimpArgs false
set_option linter.unusedVariables false
end Go.Eng
namespace Go.Eng
open Go
variable {E : Nat → Option Fn} {X : Orc}
set_option linter.unusedSimpArgs false
set_option linter.unusedVariables false
end Go.Eng
namespace Go.Eng
open Go
variable {E : Nat → Option Fn} {X : Orc}
set_option linter.unusedSimpArgs false
set_option linter.unusedVariables false
def scOk (t : TxQ) : Prop := (∀ o ∈ t.ins, o.l.length ≤ 2000) ∧ ∀ o ∈ t.outs, o.l.length ≤ 2000
end Go.Eng
namespace Go.Eng
open Go
variable {E : Nat → Option Fn} {X : Orc}
set_option linter.unusedSimpArgs false
set_option linter.unusedVariables false
structure NoTc (X : Orc) : Prop where
  y : ∀ l a h, X (.yld l) a h = none
  ck : ∀ a h, X (.fn k_tx_Check) a h = none
  ct : ∀ a h, X (.fn k_tx_counted) a h = none
  sc : ∀ a h, X (.fn k_tx_scripts) a h = none
  s1 : ∀ a h, X (.fn k_tx_scripts_1) a h = none
end Go.Eng
namespace Go.Eng
open Go
variable {E : Nat → Option Fn} {X : Orc}
set_option linter.unusedSimpArgs false
set_option linter.unusedVariables false
def ckOk (t : TxQ) : Prop := (1 ≤ t.ins.length ∧ t.ins.length ≤ 50) ∧ (1 ≤ t.outs.length ∧ t.outs.length ≤ 50) ∧ scOk t
end Go.Eng
namespace Go.Eng
open Go
variable {E : Nat → Option Fn} {X : Orc}
set_option linter.unusedSimpArgs false
set_option linter.unusedVariables false
end Go.Eng
namespace Go.Eng
open Go
variable {E : Nat → Option Fn} {X : Orc}
set_option linter.unusedSimpArgs false
set_option linter.unusedVariables false
/-- a cell of an item, in its row -/
theorem row_cell {α : Type} {S : Nat → Prop} {sz : Nat} {A : (Nat → Prop) → H → α → List V → Prop} {h : H} {ops : List α} {a : Option (Nat × Nat)} {e : Nat} (r : RowG S sz A h ops a e) (i : Nat) (o : α) (ho : ops[i]? = some o) : ∃ q off vs md P, a = some (q, off) ∧ e = sz ∧ h.get q = some (.cells vs md) ∧ A S h o P ∧ ∀ k, k < sz → vs[off + (i * sz + k)]? = P[k]? := by
  rcases r with r | ⟨q, off, vs, md, e1, e2, hs, hq, g, hl, at_⟩
  · rw [r] at ho; simp at ho
  · refine ⟨q, off, vs, md, _, e1, e2, g, at_ i o ho, fun k hk => ?_⟩
    rw [List.getElem?_take, if_pos hk, List.getElem?_drop, Nat.add_assoc]
end Go.Eng
namespace Go.Eng
open Go
variable {E : Nat → Option Fn} {X : Orc}
set_option linter.unusedSimpArgs false
set_option linter.unusedVariables false
def gtOk (t : TxQ) : Prop := t.ins.length ≤ 60 ∧ t.outs.length ≤ 60 ∧ (∀ o ∈ t.ins, o.l.length ≤ 2100) ∧ ∀ o ∈ t.outs, o.l.length ≤ 2100
end Go.Eng
namespace Go.Eng
open Go
variable {E : Nat → Option Fn} {X : Orc}
set_option linter.unusedSimpArgs false
set_option linter.unusedVariables false
noncomputable def alT (k : Nat) : Orc := pureX k aliveS
theorem vbeq_slc (a : Option (Nat × Nat)) (l : Nat) (c : Option Nat) (e : Nat) : V.beq (.slice a l c e) (.slice a l c e) = true := by unfold V.beq; simp
structure NoTl (X : Orc) : Prop where
  te : NoTe X
  tc : NoTc X
  gr : ∀ a h, X (.fn k_purserref06_Great) a h = none
  sz : ∀ a h, X (.fn k_purserlaw06_size) a h = none
end Go.Eng
namespace Go.Eng
open Go
variable {E : Nat → Option Fn} {X : Orc}
set_option linter.unusedSimpArgs false
set_option linter.unusedVariables false
theorem NoTl.al : NoTl (alT k_purserlaw06_alive) := by repeat' (first | exact fun _ _ => rfl | exact fun _ _ _ => rfl | exact fun _ => rfl | constructor)
end Go.Eng
