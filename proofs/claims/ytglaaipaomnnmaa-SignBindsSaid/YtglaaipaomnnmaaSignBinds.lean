/- SignBinds: for every input the call returns true and the arguments read as before. The program is run on abstract heaps (an evaluation that is proved to say what the machine does on every tape, order and capacity), with unknown numbers. No condition. -/
import Derived.Test.YtglaaipaomnnmaaSgC
import Derived.Test.YtglaaipaomnnmaaArgs
import Derived.Test.YtglaaipaomnnmaaRows
import Derived.ProofKit
namespace Go.Proofs.Ytglaaipaomnnmaa.lawSignBinds
open Go Go.Eng Go.ChangeShapes Go.WideShapes Go.ChangeAt Go.RowKit

theorem own : ownKnob Try.prog.godebug = none := by kernel_rfl
theorem kids : Kids Try.prog (· < Try.prog.types.size) := kids_rows (by kernel_rfl) (by kernel_rfl)
theorem full : ∀ t e, t < Try.prog.types.size → Try.prog.underlying t = some (.slice e) → 0 < Try.prog.cellsOf e := slices_full_of Try.prog (by kernel_rfl)
theorem inRange : ∀ t ∈ [25, 25, 25, 25], t < Try.prog.types.size := by
  intro t ht
  have h : ([25, 25, 25, 25].all fun t => decide (t < Try.prog.types.size)) = true := by kernel_rfl
  exact of_decide_eq_true (List.all_eq_true.1 h t ht)
theorem enSha : EnSha (Edyn Try.prog) := ⟨by kernel_rfl, by kernel_rfl, by kernel_rfl, by kernel_rfl, by kernel_rfl, by kernel_rfl, by kernel_rfl, by kernel_rfl, by kernel_rfl, by kernel_rfl, by kernel_rfl, by kernel_rfl, by kernel_rfl⟩
theorem eOf : Edyn Try.prog k_sha_Of = some f_sha_Of := by kernel_rfl
theorem enSign : EnSign (Edyn Try.prog) := ⟨by kernel_rfl, by kernel_rfl, by kernel_rfl, by kernel_rfl⟩
theorem eLaw : Edyn Try.prog k_purserlaw09_SignBinds = some f_purserlaw09_SignBinds := by kernel_rfl
set_option maxRecDepth 1000000 in
theorem aliveRun : isTrue (callX (Edyn Try.prog) (bytesX k_sha_Of ofF) 2000 (.fn k_purserlaw09_alive) [] Eng.H.empty) = true := by kernel_rfl
theorem hX0 : QOk Try.prog ⟨id, id, fun _ _ h => h⟩ (sgX k_purserlaw09_alive) := sgX_ok (link_dyn Try.prog) enSha eOf enSign aliveRun
theorem eMeet : Edyn Try.prog k_purserlaw09_meet = some f_purserlaw09_meet := by kernel_rfl
theorem eBeh : Edyn Try.prog k_purserlaw09_behind = some f_purserlaw09_behind := by kernel_rfl
theorem hX : QOk Try.prog ⟨id, id, fun _ _ h => h⟩ (sbX k_purserlaw09_alive) := orX_ok hX0 (behX_ok (link_dyn Try.prog) eBeh)

set_option maxRecDepth 100000 in
theorem lifted (os : Os) (started : os.Started) (H : Type) (enc : TypeId × Value → H) :
    ReturnsInHanded {} Try.checked os 12 .any (Rows.signBindsSpec.pre6 enc Try.prog Try.f12 Rows.signBindsRow.domain false) (Rows.signBindsSpec.post enc Try.prog Try.f12 false true false false) := by
  refine returnsInHanded_of_change (C := Try.checked) own started (by kernel_rfl) Try.func12
    (ChangeSpec.witness6 (enc := enc) (C := Try.checked) false ⟨#[], #[.agg #[.int .u8 0, .int .u8 0, .int .u8 0, .int .u8 0, .int .u8 0, .int .u8 0, .int .u8 0, .int .u8 0, .int .u8 0, .int .u8 0, .int .u8 0, .int .u8 0, .int .u8 0, .int .u8 0, .int .u8 0, .int .u8 0, .int .u8 0, .int .u8 0, .int .u8 0, .int .u8 0, .int .u8 0, .int .u8 0, .int .u8 0, .int .u8 0, .int .u8 0, .int .u8 0, .int .u8 0, .int .u8 0, .int .u8 0, .int .u8 0, .int .u8 0, .int .u8 0], .agg #[.int .u8 0, .int .u8 0, .int .u8 0, .int .u8 0, .int .u8 0, .int .u8 0, .int .u8 0, .int .u8 0, .int .u8 0, .int .u8 0, .int .u8 0, .int .u8 0, .int .u8 0, .int .u8 0, .int .u8 0, .int .u8 0, .int .u8 0, .int .u8 0, .int .u8 0, .int .u8 0, .int .u8 0, .int .u8 0, .int .u8 0, .int .u8 0, .int .u8 0, .int .u8 0, .int .u8 0, .int .u8 0, .int .u8 0, .int .u8 0, .int .u8 0, .int .u8 0], .agg #[.int .u8 0, .int .u8 0, .int .u8 0, .int .u8 0, .int .u8 0, .int .u8 0, .int .u8 0, .int .u8 0, .int .u8 0, .int .u8 0, .int .u8 0, .int .u8 0, .int .u8 0, .int .u8 0, .int .u8 0, .int .u8 0, .int .u8 0, .int .u8 0, .int .u8 0, .int .u8 0, .int .u8 0, .int .u8 0, .int .u8 0, .int .u8 0, .int .u8 0, .int .u8 0, .int .u8 0, .int .u8 0, .int .u8 0, .int .u8 0, .int .u8 0, .int .u8 0], .agg #[.int .u8 0, .int .u8 0, .int .u8 0, .int .u8 0, .int .u8 0, .int .u8 0, .int .u8 0, .int .u8 0, .int .u8 0, .int .u8 0, .int .u8 0, .int .u8 0, .int .u8 0, .int .u8 0, .int .u8 0, .int .u8 0, .int .u8 0, .int .u8 0, .int .u8 0, .int .u8 0, .int .u8 0, .int .u8 0, .int .u8 0, .int .u8 0, .int .u8 0, .int .u8 0, .int .u8 0, .int .u8 0, .int .u8 0, .int .u8 0, .int .u8 0, .int .u8 0]], []⟩ 8 (by kernel_rfl) (by kernel_rfl) (by kernel_rfl) (by kernel_rfl)) ?_
  intro W base args ds gs before hval0 hW hcnd _
  have hW' := hW
  obtain ⟨p, q, hA0, hV, _, _, _⟩ := hW
  obtain ⟨rfl, _⟩ := trodVars_none hV
  have hval : ∀ (j : Nat) t v, Try.f12.params.toList[j]? = some t → args.toList[j]? = some v → Value.okWide Try.prog W .any base t v := fun j t v h1 h2 => hval0 j t v (by rw [← Array.getElem?_toList]; exact h1) (by rw [← Array.getElem?_toList]; exact h2)
  rw [Try.params12] at hA0 hval
  have hA : DataW.TrodAll enc Try.prog W 0 (fun _ => true) true [25, 25, 25, 25] args.toList ds p := hA0
  obtain ⟨v0, vs0, d0, ds0, p0, q0, _, rfl, t0, hB0⟩ := Go.Eng.trodAll_cons hA
  obtain ⟨s0, hs0, by0, r0⟩ := Go.Eng.trod_hash Try.underlying25 Try.underlying5 t0
  obtain ⟨v1, vs1, d1, ds1, p1, q1, _, rfl, t1, hB1⟩ := Go.Eng.trodAll_cons hB0
  obtain ⟨s1, hs1, by1, r1⟩ := Go.Eng.trod_hash Try.underlying25 Try.underlying5 t1
  obtain ⟨v2, vs2, d2, ds2, p2, q2, _, rfl, t2, hB2⟩ := Go.Eng.trodAll_cons hB1
  obtain ⟨s2, hs2, by2, r2⟩ := Go.Eng.trod_hash Try.underlying25 Try.underlying5 t2
  obtain ⟨v3, vs3, d3, ds3, p3, q3, _, rfl, t3, hB3⟩ := Go.Eng.trodAll_cons hB2
  obtain ⟨s3, hs3, by3, r3⟩ := Go.Eng.trod_hash Try.underlying25 Try.underlying5 t3
  obtain rfl := Go.Eng.trodAll_end hB3
  have hab : absA Try.prog 8 [25, 25, 25, 25] _ 0 = some ([.agg (ofI .u8 s0), .agg (ofI .u8 s1), .agg (ofI .u8 s2), .agg (ofI .u8 s3)], [] ++ ([] ++ ([] ++ ([] ++ ([])))), 0) := (absA_cons (r0 6 _) (argV_arr Try.underlying25 _) (absA_cons (r1 6 _) (argV_arr Try.underlying25 _) (absA_cons (r2 6 _) (argV_arr Try.underlying25 _) (absA_cons (r3 6 _) (argV_arr Try.underlying25 _) (absA_nil _ _ _)))))
  have hrun := law_runX hX (P := Try.prog) (k := 12) kids full inRange hA hval hab (N := 2000) (by
    obtain ⟨h2, this⟩ := law_SignBinds (E := Edyn Try.prog) k_purserlaw09_alive 997 eLaw eMeet rfl (fun _ _ => rfl) (fun _ _ => rfl) (fun _ _ => rfl) (fun _ => rfl) s0 s1 s2 s3 hs0 hs1 hs2 hs3 by0 by1 by2 by3 (mkH ([] ++ ([] ++ ([] ++ ([] ++ ([]))))) 0)
    rw [show (k_purserlaw09_SignBinds : Nat) = 12 from rfl] at this
    rw [this]; rfl)
  exact hrun.mono fun e W' ⟨he, hl⟩ => ⟨_, he, law_post kids full (by rw [Try.params12]; exact inRange) hW' rfl rfl Try.underlying4 rfl hl⟩

theorem proved : Rows.SignBindsSaid :=
  OpenClaim.holds_of_wide 12 Try.f12 rfl rfl rfl rfl rfl rfl rfl ⟨rfl, rfl, rfl, rfl, rfl⟩ rfl rfl rfl rfl rfl (by kernel_rfl) Try.func12 (by kernel_rfl)
    (of_decide_eq_true (by kernel_rfl)) (by unfold Func.isWrapper; first | (rw [if_pos (by decide +kernel)]; kernel_rfl) | (rw [if_neg (by decide +kernel)]; exact ⟨rfl, rfl⟩))
    (fun os started H enc _ => lifted os started H enc)
end Go.Proofs.Ytglaaipaomnnmaa.lawSignBinds
