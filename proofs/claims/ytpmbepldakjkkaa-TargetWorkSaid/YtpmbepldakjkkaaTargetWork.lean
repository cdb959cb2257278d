/- TargetWork: for every input the call returns true and the arguments read as before. The program is run on abstract heaps (an evaluation that is proved to say what the machine does on every tape, order and capacity), with unknown numbers. No condition. -/
import Derived.Test.YtpmbepldakjkkaaTgA
import Derived.Test.YtpmbepldakjkkaaRows
import Derived.ProofKit
namespace Go.Proofs.Ytpmbepldakjkkaa.lawTargetWork
open Go Go.Eng Go.ChangeShapes Go.WideShapes Go.ChangeAt Go.RowKit

theorem own : ownKnob Try.prog.godebug = none := by kernel_rfl
theorem kids : Kids Try.prog (· < Try.prog.types.size) := kids_rows (by kernel_rfl) (by kernel_rfl)
theorem full : ∀ t e, t < Try.prog.types.size → Try.prog.underlying t = some (.slice e) → 0 < Try.prog.cellsOf e := slices_full_of Try.prog (by kernel_rfl)
theorem inRange : ∀ t ∈ [24, 24], t < Try.prog.types.size := by
  intro t ht
  have h : ([24, 24].all fun t => decide (t < Try.prog.types.size)) = true := by kernel_rfl
  exact of_decide_eq_true (List.all_eq_true.1 h t ht)
theorem wideF : WideFE (Edyn Try.prog) := ⟨by kernel_rfl, by kernel_rfl, by kernel_rfl, by kernel_rfl, by kernel_rfl, by kernel_rfl, by kernel_rfl, by kernel_rfl, by kernel_rfl, by kernel_rfl, by kernel_rfl, by kernel_rfl, by kernel_rfl, by kernel_rfl, by kernel_rfl⟩
theorem eWork : Edyn Try.prog k_target_Work = some f_target_Work := by kernel_rfl
theorem eLaw : Edyn Try.prog k_purserlaw05_TargetWork = some f_purserlaw05_TargetWork := by kernel_rfl
set_option maxRecDepth 1000000 in
theorem aliveRun : isTrue (callX (Edyn Try.prog) tgtX 2000 (.fn k_purserlaw05_alive) [] Eng.H.empty) = true := by kernel_rfl
theorem hX : QOk Try.prog ⟨id, id, fun _ _ h => h⟩ (lawT k_purserlaw05_alive) := aliveX_ok (tgtX_ok (link_dyn Try.prog) wideF eWork) (link_dyn Try.prog) aliveRun

set_option maxRecDepth 100000 in
theorem lifted (os : Os) (started : os.Started) (H : Type) (enc : TypeId × Value → H) :
    ReturnsInHanded {} Try.checked os 4 .any (Rows.targetWorkSpec.pre6 enc Try.prog Try.f4 Rows.targetWorkRow.domain false) (Rows.targetWorkSpec.post enc Try.prog Try.f4 false true false false) := by
  refine returnsInHanded_of_change (C := Try.checked) own started (by kernel_rfl) Try.func4
    (ChangeSpec.witness6 (enc := enc) (C := Try.checked) false ⟨#[], #[.agg #[.int .u64 0, .int .u64 0, .int .u64 0, .int .u64 0], .agg #[.int .u64 0, .int .u64 0, .int .u64 0, .int .u64 0]], []⟩ 8 (by kernel_rfl) (by kernel_rfl) (by kernel_rfl) (by kernel_rfl)) ?_
  intro W base args ds gs before hval0 hW hcnd _
  have hW' := hW
  obtain ⟨p, q, hA0, hV, _, _, _⟩ := hW
  obtain ⟨rfl, _⟩ := trodVars_none hV
  have hval : ∀ (j : Nat) t v, Try.f4.params.toList[j]? = some t → args.toList[j]? = some v → Value.okWide Try.prog W .any base t v := fun j t v h1 h2 => hval0 j t v (by rw [← Array.getElem?_toList]; exact h1) (by rw [← Array.getElem?_toList]; exact h2)
  rw [Try.params4] at hA0 hval
  have hA : DataW.TrodAll enc Try.prog W 0 (fun _ => true) true [24, 24] args.toList ds p := hA0
  obtain ⟨v0, vs0, d0, ds0, p0, q0, _, rfl, t0, hB0⟩ := Go.Eng.trodAll_cons hA
  obtain ⟨x0, l0, n00, n01, n02, n03, rfl, w0⟩ := Go.Eng.trod_arr4 Try.underlying24 Try.underlying22 t0
  obtain ⟨v1, vs1, d1, ds1, p1, q1, _, rfl, t1, hB1⟩ := Go.Eng.trodAll_cons hB0
  obtain ⟨x1, l1, n10, n11, n12, n13, rfl, w1⟩ := Go.Eng.trod_arr4 Try.underlying24 Try.underlying22 t1
  obtain rfl := Go.Eng.trodAll_end hB1
  have hrun := law_runX hX (P := Try.prog) (k := 4) kids full inRange hA hval (n := 2) (avs := [.agg [.int .u64 n00, .int .u64 n01, .int .u64 n02, .int .u64 n03], .agg [.int .u64 n10, .int .u64 n11, .int .u64 n12, .int .u64 n13]]) (bl := []) (nx := 0) (by simp only [absA, absD, absL, argV, Try.underlying22, Try.underlying24]; rfl) (N := 2000) (by
    obtain ⟨h2, this⟩ := law_TargetWork (E := Edyn Try.prog) 1998 eLaw rfl rfl rfl (fun args h => lawT_no args h rfl rfl rfl rfl) x0 x1 l0 l1
    rw [w0, w1]
    rw [show (k_purserlaw05_TargetWork : Nat) = 4 from rfl] at this
    rw [this]; rfl)
  exact hrun.mono fun e W' ⟨he, hl⟩ => ⟨_, he, law_post kids full (by rw [Try.params4]; exact inRange) hW' rfl rfl Try.underlying4 rfl hl⟩

theorem proved : Rows.TargetWorkSaid :=
  OpenClaim.holds_of_wide 4 Try.f4 rfl rfl rfl rfl rfl rfl rfl ⟨rfl, rfl, rfl, rfl, rfl⟩ rfl rfl rfl rfl rfl (by kernel_rfl) Try.func4 (by kernel_rfl)
    (of_decide_eq_true (by kernel_rfl)) (by unfold Func.isWrapper; first | (rw [if_pos (by decide +kernel)]; kernel_rfl) | (rw [if_neg (by decide +kernel)]; exact ⟨rfl, rfl⟩))
    (fun os started H enc _ => lifted os started H enc)
end Go.Proofs.Ytpmbepldakjkkaa.lawTargetWork
