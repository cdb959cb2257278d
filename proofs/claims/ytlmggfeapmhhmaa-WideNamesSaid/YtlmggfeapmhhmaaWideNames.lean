/- The closed statement WideNames: the call returns true and leaves all memory that was there as it was. By an evaluation of the program on abstract heaps that is proved to say what the machine does, on every tape, order and capacity. No condition. -/
import Derived.Test.YtlmggfeapmhhmaaExt
import Derived.Test.YtlmggfeapmhhmaaWdC
import Derived.Test.YtlmggfeapmhhmaaShelf
import Derived.Test.YtlmggfeapmhhmaaRows
import Derived.ProofKit
namespace Go.Proofs.Ytlmggfeapmhhmaa.namesWideNames
open Go Go.Eng Go.ChangeShapes Go.WideShapes Go.ChangeAt Go.RowKit

theorem own : ownKnob Try.prog.godebug = none := by kernel_rfl

theorem wideF : WideFE (Edyn Try.prog) := ⟨by kernel_rfl, by kernel_rfl, by kernel_rfl, by kernel_rfl, by kernel_rfl, by kernel_rfl, by kernel_rfl, by kernel_rfl, by kernel_rfl, by kernel_rfl, by kernel_rfl, by kernel_rfl, by kernel_rfl, by kernel_rfl, by kernel_rfl⟩
theorem repOk : QOk Try.prog g0 (pureX 18 repS) := repX_ok (Go.Proofs.enters_of Try.func18 (by kernel_rfl) rfl) (fun s c w h1 h2 => Go.Proofs.Try.strings_Repeat s c w h1 h2)
noncomputable def theX : Orc := (orX (pureX 18 repS) wideXD)
theorem hX : QOk Try.prog ⟨id, id, fun _ _ h => h⟩ theX := (orX_ok repOk (wideXD_ok (link_dyn Try.prog) wideF))
set_option maxRecDepth 1000000 in
theorem names : isTrue (callX (Edyn Try.prog) theX 5000 (.fn 3) [] Eng.H.empty) = true := by kernel_rfl

set_option maxRecDepth 100000 in
theorem lifted (os : Os) (started : os.Started) (H : Type) (enc : TypeId × Value → H) :
    ReturnsInHanded {} Try.checked os 3 .any (Rows.wideNamesSpec.pre6 enc Try.prog Try.f3 Rows.wideNamesRow.domain false) (Rows.wideNamesSpec.post enc Try.prog Try.f3 false true false false) := by
  refine returnsInHanded_of_change (C := Try.checked) own started (by kernel_rfl) Try.func3
    (ChangeSpec.witness6 (enc := enc) (C := Try.checked) false ⟨#[], #[], []⟩ 8 (by kernel_rfl) (by kernel_rfl) (by kernel_rfl) (by kernel_rfl)) ?_
  intro W base args ds gs before hval0 hW hcnd _
  have hW' := hW
  obtain ⟨p, q, hA0, hV, rfl, hfz, hnd⟩ := hW
  have hA : DataW.TrodAll enc Try.prog W 0 (fun _ => true) true Try.f3.params.toList args.toList ds p := hA0
  rw [Try.params3] at hA
  obtain ⟨e1, rfl, rfl⟩ := trodAll_nil hA
  obtain rfl : args = #[] := by cases args; simp_all
  obtain ⟨rfl, rfl⟩ := trodVars_none hV
  clear hA0
  simp only [List.append_nil] at hW'
  refine (runs_trueX Try.prog hX 5000 3 names W).mono fun e W' ⟨he, hg⟩ => ?_
  subst he
  refine ⟨_, rfl, [], [], [], [], [], [], hW', trodAll_mk1 (shut_bool Try.underlying4 _), trodAll_mk0, rfl, World.keptBut_mono (fun _ h => h.elim) hg.1, fun h => by cases h⟩

theorem proved : Rows.WideNamesSaid :=
  OpenClaim.holds_of_wide 3 Try.f3 rfl rfl rfl rfl rfl rfl rfl ⟨rfl, rfl, rfl, rfl, rfl⟩ rfl rfl rfl rfl rfl (by kernel_rfl) Try.func3 (by kernel_rfl)
    (of_decide_eq_true (by kernel_rfl)) (by unfold Func.isWrapper; first | (rw [if_pos (by decide +kernel)]; kernel_rfl) | (rw [if_neg (by decide +kernel)]; exact ⟨rfl, rfl⟩))
    (fun os started H enc _ => lifted os started H enc)
end Go.Proofs.Ytlmggfeapmhhmaa.namesWideNames
