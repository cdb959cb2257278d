/- What functions of the program come to: own work. -/
import Derived.Test.YtfopajklnakmpaaBtR
import Derived.Test.YtfopajklnakmpaaBtS
namespace Go.Eng
open Go
variable {E : Nat → Option Fn} {X : Orc}
set_option linter.unusedSimpArgs false
set_option linter.unusedVariables false
end Go.Eng
namespace Go.Eng
open Go
variable {E : Nat → Option Fn} {X : Orc}
set_option linter.unusedSimpArgs false
set_option linter.unusedVariables false
end Go.Eng
namespace Go.Eng
open Go
variable {E : Nat → Option Fn} {X : Orc}
set_option linter.unusedSimpArgs false
set_option linter.unusedVariables false
end Go.Eng
namespace Go.Eng
open Go
variable {E : Nat → Option Fn} {X : Orc}
set_option linter.unusedSimpArgs false
set_option linter.unusedVariables false
theorem Nw.toS {h h' : H} {l : List Nat} {a : Option (Nat × Nat)} {c : Option Nat} {e : Nat} (nw : Nw h h' l a c e) (S : Nat → Prop) (w : ∀ j, h.next ≤ j → S j) : SrcS S h' a e l := nw.wb.src.toS S (fun q z hz => w q (nw.ge q z hz))

end Go.Eng
namespace Go.Eng
open Go
variable {E : Nat → Option Fn} {X : Orc}
set_option linter.unusedSimpArgs false
set_option linter.unusedVariables false
theorem RowF.weak {α : Type} {K K' : Nat → Prop} {lo lo' sz : Nat} {A : (Nat → Prop) → H → α → List V → Prop} (it : ItA sz A) {h : H} {ops : List α} {a : Option (Nat × Nat)} {c : Option Nat} {e : Nat} (r : RowF K lo sz A h ops a c e) (hl : lo' ≤ lo) (k : ∀ j, K j → K' j) : RowF K' lo' sz A h ops a c e := by
  rcases r with r | ⟨h1, q, md, ps, e1, e2, e3, g, al, hm, hl', hq⟩
  · exact .inl r
  · exact .inr ⟨h1, q, md, ps, e1, e2, e3, g, al.imp (fun _ _ x => it.mono x (Nat.le_refl _) (fun i _ _ => rfl) (fun _ hk _ => ⟨k _ hk.1, hk.2⟩)), hm, by omega, hq⟩
end Go.Eng
