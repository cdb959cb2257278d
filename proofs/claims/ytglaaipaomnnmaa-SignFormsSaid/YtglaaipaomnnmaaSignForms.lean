/- SignForms: for every input the call returns true and the arguments read as before. The program is run on abstract heaps (an evaluation that is proved to say what the machine does on every tape, order and capacity), with unknown numbers. No condition. -/
import Derived.Test.YtglaaipaomnnmaaRfB
import Derived.Test.YtglaaipaomnnmaaArgs
import Derived.Test.YtglaaipaomnnmaaRows
import Derived.ProofKit
namespace Go.Proofs.Ytglaaipaomnnmaa.lawSignForms
open Go Go.Eng Go.ChangeShapes Go.WideShapes Go.ChangeAt Go.RowKit

theorem own : ownKnob Try.prog.godebug = none := by kernel_rfl
theorem kids : Kids Try.prog (· < Try.prog.types.size) := kids_rows (by kernel_rfl) (by kernel_rfl)
theorem full : ∀ t e, t < Try.prog.types.size → Try.prog.underlying t = some (.slice e) → 0 < Try.prog.cellsOf e := slices_full_of Try.prog (by kernel_rfl)
theorem inRange : ∀ t ∈ [25, 25], t < Try.prog.types.size := by
  intro t ht
  have h : ([25, 25].all fun t => decide (t < Try.prog.types.size)) = true := by kernel_rfl
  exact of_decide_eq_true (List.all_eq_true.1 h t ht)
theorem enSha : EnSha (Edyn Try.prog) := ⟨by kernel_rfl, by kernel_rfl, by kernel_rfl, by kernel_rfl, by kernel_rfl, by kernel_rfl, by kernel_rfl, by kernel_rfl, by kernel_rfl, by kernel_rfl, by kernel_rfl, by kernel_rfl, by kernel_rfl⟩
theorem eOf : Edyn Try.prog k_sha_Of = some f_sha_Of := by kernel_rfl
theorem enSign : EnSign (Edyn Try.prog) := ⟨by kernel_rfl, by kernel_rfl, by kernel_rfl, by kernel_rfl⟩
theorem enRf : EnRf (Edyn Try.prog) := ⟨by kernel_rfl, by kernel_rfl, by kernel_rfl, by kernel_rfl, by kernel_rfl⟩
theorem enRs : EnRs (Edyn Try.prog) := ⟨by kernel_rfl, by kernel_rfl⟩
theorem eLaw : Edyn Try.prog k_purserlaw09_SignForms = some f_purserlaw09_SignForms := by kernel_rfl
theorem hO : QOk Try.prog ⟨id, id, fun _ _ h => h⟩ ofX1 := ofX_ok (link_dyn Try.prog) enSha eOf
theorem hR : QOk Try.prog ⟨id, id, fun _ _ h => h⟩ rofX := rofX_ok (link_dyn Try.prog) enRf
theorem hX : QOk Try.prog ⟨id, id, fun _ _ h => h⟩ sfX := orX_ok hR (orX_ok (rpubX_ok (link_dyn Try.prog) enRs hR) (orX_ok (rsignX_ok (link_dyn Try.prog) enRs hR) (orX_ok hO (orX_ok (pubX_ok (link_dyn Try.prog) enSign hO) (orX_ok (signX_ok (link_dyn Try.prog) enSign hO) (isX_ok (link_dyn Try.prog) enSign hO))))))

set_option maxRecDepth 100000 in
theorem lifted (os : Os) (started : os.Started) (H : Type) (enc : TypeId × Value → H) :
    ReturnsInHanded {} Try.checked os 10 .any (Rows.signFormsSpec.pre6 enc Try.prog Try.f10 Rows.signFormsRow.domain false) (Rows.signFormsSpec.post enc Try.prog Try.f10 false true false false) := by
  refine returnsInHanded_of_change (C := Try.checked) own started (by kernel_rfl) Try.func10
    (ChangeSpec.witness6 (enc := enc) (C := Try.checked) false ⟨#[], #[.agg #[.int .u8 0, .int .u8 0, .int .u8 0, .int .u8 0, .int .u8 0, .int .u8 0, .int .u8 0, .int .u8 0, .int .u8 0, .int .u8 0, .int .u8 0, .int .u8 0, .int .u8 0, .int .u8 0, .int .u8 0, .int .u8 0, .int .u8 0, .int .u8 0, .int .u8 0, .int .u8 0, .int .u8 0, .int .u8 0, .int .u8 0, .int .u8 0, .int .u8 0, .int .u8 0, .int .u8 0, .int .u8 0, .int .u8 0, .int .u8 0, .int .u8 0, .int .u8 0], .agg #[.int .u8 0, .int .u8 0, .int .u8 0, .int .u8 0, .int .u8 0, .int .u8 0, .int .u8 0, .int .u8 0, .int .u8 0, .int .u8 0, .int .u8 0, .int .u8 0, .int .u8 0, .int .u8 0, .int .u8 0, .int .u8 0, .int .u8 0, .int .u8 0, .int .u8 0, .int .u8 0, .int .u8 0, .int .u8 0, .int .u8 0, .int .u8 0, .int .u8 0, .int .u8 0, .int .u8 0, .int .u8 0, .int .u8 0, .int .u8 0, .int .u8 0, .int .u8 0]], []⟩ 8 (by kernel_rfl) (by kernel_rfl) (by kernel_rfl) (by kernel_rfl)) ?_
  intro W base args ds gs before hval0 hW hcnd _
  have hW' := hW
  obtain ⟨p, q, hA0, hV, _, _, _⟩ := hW
  obtain ⟨rfl, _⟩ := trodVars_none hV
  have hval : ∀ (j : Nat) t v, Try.f10.params.toList[j]? = some t → args.toList[j]? = some v → Value.okWide Try.prog W .any base t v := fun j t v h1 h2 => hval0 j t v (by rw [← Array.getElem?_toList]; exact h1) (by rw [← Array.getElem?_toList]; exact h2)
  rw [Try.params10] at hA0 hval
  have hA : DataW.TrodAll enc Try.prog W 0 (fun _ => true) true [25, 25] args.toList ds p := hA0
  obtain ⟨v0, vs0, d0, ds0, p0, q0, _, rfl, t0, hB0⟩ := Go.Eng.trodAll_cons hA
  obtain ⟨s0, hs0, by0, r0⟩ := Go.Eng.trod_hash Try.underlying25 Try.underlying5 t0
  obtain ⟨v1, vs1, d1, ds1, p1, q1, _, rfl, t1, hB1⟩ := Go.Eng.trodAll_cons hB0
  obtain ⟨s1, hs1, by1, r1⟩ := Go.Eng.trod_hash Try.underlying25 Try.underlying5 t1
  obtain rfl := Go.Eng.trodAll_end hB1
  have hab : absA Try.prog 8 [25, 25] _ 0 = some ([.agg (ofI .u8 s0), .agg (ofI .u8 s1)], [] ++ ([] ++ ([])), 0) := (absA_cons (r0 6 _) (argV_arr Try.underlying25 _) (absA_cons (r1 6 _) (argV_arr Try.underlying25 _) (absA_nil _ _ _)))
  have hrun := law_runX hX (P := Try.prog) (k := 10) kids full inRange hA hval hab (N := 1000) (by
    obtain ⟨h2, this⟩ := law_SignForms (E := Edyn Try.prog) 898 eLaw (fun _ _ => rfl) s0 s1 hs0 hs1 by0 by1 (mkH ([] ++ ([] ++ ([]))) 0)
    rw [show (k_purserlaw09_SignForms : Nat) = 10 from rfl] at this
    rw [this]; rfl)
  exact hrun.mono fun e W' ⟨he, hl⟩ => ⟨_, he, law_post kids full (by rw [Try.params10]; exact inRange) hW' rfl rfl Try.underlying4 rfl hl⟩

theorem proved : Rows.SignFormsSaid :=
  OpenClaim.holds_of_wide 10 Try.f10 rfl rfl rfl rfl rfl rfl rfl ⟨rfl, rfl, rfl, rfl, rfl⟩ rfl rfl rfl rfl rfl (by kernel_rfl) Try.func10 (by kernel_rfl)
    (of_decide_eq_true (by kernel_rfl)) (by unfold Func.isWrapper; first | (rw [if_pos (by decide +kernel)]; kernel_rfl) | (rw [if_neg (by decide +kernel)]; exact ⟨rfl, rfl⟩))
    (fun os started H enc _ => lifted os started H enc)
end Go.Proofs.Ytglaaipaomnnmaa.lawSignForms
