/- The evaluator by which closed calls are run, part I: own work.
-/
import Derived.Test.YtfopajklnakmpaaEngH
import Derived.ProofKit
set_option linter.unusedVariables false
set_option linter.unusedSimpArgs false
set_option linter.unusedSectionVars false
/-
  ENGINE, part 29: a law with arguments, by an evaluation with known calls. Own work.
-/
namespace Go.Eng
open Go Go.ChangeShapes Go.WideShapes Go.ChangeAt Go.RowKit

variable {H : Type} {enc : TypeId × Value → H} {P : Program} {g : Gn} {W W' : World}
theorem law_runX {X : Orc} (hX : QOk P ⟨id, id, fun _ _ h => h⟩ X) {T : TypeId → Prop} (K : Kids P T) (hz : ∀ t e, T t → P.underlying t = some (.slice e) → 0 < P.cellsOf e) {r : Reach} {base : Nat} {n k N : Nat} {ts : List TypeId} {args : Array Value} {ds : List (DataW H)} {ps : List MemPlace} (hT : ∀ t ∈ ts, T t)
    (hA : DataW.TrodAll enc P W 0 (fun _ => true) true ts args.toList ds ps) (hok : ∀ (j : Nat) t v, ts[j]? = some t → args.toList[j]? = some v → Value.okWide P W r base t v) {avs : List V} {bl : List (Nat × List V)} {nx : Nat} (ha : absA P n ts ds 0 = some (avs, bl, nx))
    (h : isTrue (callX (Edyn P) X N (.fn k) avs (mkH bl nx)) = true) : Calls P k args W (fun e W' => e = .returned (.bool true) ∧ Left0 W W') := by
  obtain ⟨_, k2⟩ := absA_ok (g := ⟨id, id, fun _ _ h => h⟩) K hz ts args.toList ds ps hT hA hok 0 avs bl nx ha
  obtain ⟨μ, _, f1, r1, b1⟩ := k2 (fun _ => none) (fun _ _ => rfl)
  obtain ⟨h1, hh⟩ := isTrue_some h
  have hr : HR P ⟨id, id, fun _ _ h => h⟩ μ (mkH bl nx) W := by
    refine ⟨fun i hi => f1 i hi, fun i b hb => ?_, fun i j bi bj a x y hb _ ho => ?_⟩
    · obtain ⟨x, h2, rfl, rfl⟩ := mkB_get bl i b hb
      obtain ⟨c, base, h3, h4⟩ := b1 x h2
      exact ⟨c, base, h3, h4⟩
    · obtain ⟨x, h2, rfl, rfl⟩ := mkB_get bl i bi hb
      cases ho
  obtain ⟨_, c2⟩ := callX_ok (link_dyn P) hX N _ _ _ _ _ hh μ W hr args r1 k rfl
  intro cs
  obtain ⟨fr, μ1, w1, x, q1, q2, q3, q4, q5, q6⟩ := c2 cs
  cases q6
  refine ⟨.returned (.bool true), w1, fr, ⟨rfl, left0_of_ext q5 (fun i blk hb => ?_)⟩, q1, q2, q3⟩
  obtain ⟨x, h2, rfl, rfl⟩ := mkB_get bl i blk hb
  rfl

end Go.Eng
