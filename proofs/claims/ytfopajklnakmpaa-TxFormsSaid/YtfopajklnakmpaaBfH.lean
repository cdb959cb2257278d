import Derived.Test.YtfopajklnakmpaaBfE
namespace Go.Eng
open Go
variable {E:Nat→Option Fn} {X:Orc}
set_option linter.unusedSimpArgs false
set_option linter.unusedVariables false
theorem first_bad {α:Type} (p:α→Prop) (dec:∀ a,p a∨¬ p a) (l:List α):(∀ o ∈ l,p o)∨∃ (j:Nat) (o:α),l[j]?=some o∧¬ p o∧∀ (i:Nat) (o':α),i<j→l[i]?=some o'→p o':=by
  induction l with
  | nil=>exact .inl (fun o ho=>by cases ho)
  | cons a r ih =>
    rcases dec a with ha | ha
    · rcases ih with ih | ⟨j,o,h1,h2,h3⟩
      · exact .inl (fun o ho=>by rcases List.mem_cons.1 ho with rfl | ho; exact ha; exact ih o ho)
      · refine .inr ⟨j+1,o,by simpa using h1,h2,fun i o' hi ho=>?_⟩
        cases i with
        | zero=>simp at ho; subst ho; exact ha
        | succ i=>simp at ho; exact h3 i o' (by omega) ho
    · exact .inr ⟨0,a,rfl,ha,fun i o' hi=>by omega⟩
end Go.Eng
