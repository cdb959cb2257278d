/- RecordForms: for every input the call returns true and the arguments read as before. The program is run on abstract heaps (an evaluation that is proved to say what the machine does on every tape, order and capacity), with unknown numbers. No condition. -/
import Derived.Test.YtpgocblbihbfpaaDrH
import Derived.Test.YtpgocblbihbfpaaRows
import Derived.ProofKit
import Derived.SizedLaws
namespace Go.Proofs.Ytpgocblbihbfpaa.lawRecordForms
open Go Go.Eng Go.ChangeShapes Go.WideShapes Go.ChangeAt Go.RowKit

theorem own : ownKnob Try.prog.godebug = none := by kernel_rfl
theorem kids : Kids Try.prog (· < Try.prog.types.size) := kids_rows (by kernel_rfl) (by kernel_rfl)
theorem full : ∀ t e, t < Try.prog.types.size → Try.prog.underlying t = some (.slice e) → 0 < Try.prog.cellsOf e := slices_full_of Try.prog (by kernel_rfl)
theorem inRange : ∀ t ∈ [51, 51], t < Try.prog.types.size := by
  intro t ht
  have h : ([51, 51].all fun t => decide (t < Try.prog.types.size)) = true := by kernel_rfl
  exact of_decide_eq_true (List.all_eq_true.1 h t ht)
theorem enCrc : EnCrc (Edyn Try.prog) := ⟨by kernel_rfl, by kernel_rfl, by kernel_rfl, by kernel_rfl⟩
theorem eLaw : Edyn Try.prog k_purserlaw16_RecordForms = some f_purserlaw16_RecordForms := by kernel_rfl
def sndH : Option (V × Eng.H) → Eng.H
  | some (_, h) => h
  | none => Eng.H.empty
set_option maxRecDepth 1000000 in
theorem stepsRun : callX (Edyn Try.prog) noX 2000 (.fn k_crc_steps) [] Eng.H.empty = some (.agg (ofI .u32 tab), sndH (callX (Edyn Try.prog) noX 2000 (.fn k_crc_steps) [] Eng.H.empty)) := by kernel_rfl
theorem hS : QOk Try.prog ⟨id, id, fun _ _ h => h⟩ (pureX k_crc_steps stepsS) := by
  refine pureX_ok (callX_ok (link_dyn Try.prog) noX_ok 2000) ?_
  intro args v hs
  unfold stepsS at hs
  split at hs
  · cases hs
    exact ⟨rfl, by simp only [dataV, datas_ofI], ⟨_, stepsRun⟩⟩
  · cases hs
theorem eLook : Edyn Try.prog k_octet_Look = some f_octet_Look := by kernel_rfl
theorem enWid : EnWid (Edyn Try.prog) := ⟨by kernel_rfl, by kernel_rfl, by kernel_rfl⟩
theorem enPut : EnPut (Edyn Try.prog) := ⟨by kernel_rfl, enWid⟩
theorem enFix : EnFix (Edyn Try.prog) := ⟨by kernel_rfl, by kernel_rfl, enPut⟩
theorem enSize : EnSize (Edyn Try.prog) := ⟨by kernel_rfl, by kernel_rfl, by kernel_rfl, enPut⟩
theorem enPen : EnPen (Edyn Try.prog) := ⟨enFix, enSize, by kernel_rfl, by kernel_rfl, by kernel_rfl⟩
theorem enEye : EnEye (Edyn Try.prog) := ⟨by kernel_rfl, by kernel_rfl, by kernel_rfl, by kernel_rfl, by kernel_rfl, by kernel_rfl, by kernel_rfl, by kernel_rfl, by kernel_rfl, by kernel_rfl, by kernel_rfl, by kernel_rfl, by kernel_rfl, enWid⟩
theorem enRc : EnRc (Edyn Try.prog) := ⟨by kernel_rfl, by kernel_rfl, by kernel_rfl, by kernel_rfl⟩
theorem enRf : EnRf (Edyn Try.prog) := ⟨by kernel_rfl, by kernel_rfl, by kernel_rfl, by kernel_rfl, by kernel_rfl⟩
theorem enCm : EnCm (Edyn Try.prog) := ⟨by kernel_rfl, by kernel_rfl, enPen, enEye, eLook, enCrc, enRc, enRf, by kernel_rfl, by kernel_rfl, by kernel_rfl⟩
theorem enRd : EnRd (Edyn Try.prog) := ⟨enCm, by kernel_rfl, by kernel_rfl, by kernel_rfl, by kernel_rfl, by kernel_rfl, by kernel_rfl, by kernel_rfl, by kernel_rfl⟩
theorem enSm : EnSm (Edyn Try.prog) := ⟨by kernel_rfl, by kernel_rfl, by kernel_rfl, by kernel_rfl⟩
theorem enRo : EnRo (Edyn Try.prog) := ⟨enCm, by kernel_rfl, by kernel_rfl, by kernel_rfl, by kernel_rfl, by kernel_rfl, by kernel_rfl⟩
theorem x_rd : NoRd (pureX k_crc_steps stepsS) := by repeat' (first | exact fun _ _ => rfl | exact fun _ _ _ => rfl | exact fun _ => rfl | constructor)
theorem x_sm : NoSm (pureX k_crc_steps stepsS) := by repeat' (first | exact fun _ _ => rfl | constructor)
theorem x_ro : NoRo (pureX k_crc_steps stepsS) := ⟨x_rd.cm, fun _ _ => rfl, fun _ _ => rfl, fun _ _ => rfl, fun _ _ => rfl, fun _ _ => rfl, fun _ _ => rfl⟩
theorem hX : QOk Try.prog ⟨id, id, fun _ _ h => h⟩ (pureX k_crc_steps stepsS) := hS


set_option maxRecDepth 100000 in
theorem lifted (os : Os) (started : os.Started) (H : Type) (enc : TypeId × Value → H) :
    ReturnsInHanded {} Try.checked os 6 .any (Rows.recordFormsSpec.pre6 enc Try.prog Try.f6 Rows.recordFormsRow.domain false) (Rows.recordFormsSpec.post enc Try.prog Try.f6 false true false false) := by
  refine returnsInHanded_of_change_sized (C := Try.checked) own started (by kernel_rfl) Try.func6
    (ChangeSpec.witness6 (enc := enc) (C := Try.checked) false ⟨#[], #[.slice none 0 0, .slice none 0 0], []⟩ 8 (by kernel_rfl) (by kernel_rfl) (by kernel_rfl) (by kernel_rfl)) ?_
  intro W base args ds gs before hval0 hW hcnd hsz _
  have hW' := hW
  obtain ⟨p, q, hA0, hV, _, _, _⟩ := hW
  obtain ⟨rfl, _⟩ := trodVars_none hV
  have hval : ∀ (j : Nat) t v, Try.f6.params.toList[j]? = some t → args.toList[j]? = some v → Value.okWide Try.prog W .any base t v := fun j t v h1 h2 => hval0 j t v (by rw [← Array.getElem?_toList]; exact h1) (by rw [← Array.getElem?_toList]; exact h2)
  rw [Try.params6] at hA0 hval hsz
  have hwt : ∀ (j : Nat) (t : TypeId) (d : DataW H), ([51, 51] : List TypeId)[j]? = some t → ds[j]? = some d → ∀ n ∈ d.weights Try.prog t, n ≤ reachBytes := fun j t d h1 h2 n hn => by
    have h3 := List.all_eq_true.1 hsz n (by rw [show Rows.recordFormsSpec.plain.varTypes Try.checked.prog = [] from rfl, List.append_nil, List.append_nil]; exact DataW.weights_mem_each (j := j) h1 h2 n hn)
    simpa using h3
  have hA : DataW.TrodAll enc Try.prog W 0 (fun _ => true) true [51, 51] args.toList ds p := hA0
  obtain ⟨v0, vs0, d0, ds0, p0, q0, _, rfl, t0, hB0⟩ := Go.Eng.trodAll_cons hA
  obtain ⟨f0, tf0⟩ := id t0
  obtain ⟨l0, by0, wt0, r0⟩ := Go.Eng.trod_rqs (P := Try.prog) Try.underlying51 Try.underlying59 Try.underlying3 Try.underlying25 Try.underlying5 (by kernel_rfl) (by kernel_rfl) t0
  obtain ⟨vs0', bl0, n0, e0, L0, R0⟩ := r0 4 0
  obtain ⟨v1, vs1, d1, ds1, p1, q1, _, rfl, t1, hB1⟩ := Go.Eng.trodAll_cons hB0
  obtain ⟨f1, tf1⟩ := id t1
  obtain ⟨l1, by1, wt1, r1⟩ := Go.Eng.trod_rqs (P := Try.prog) Try.underlying51 Try.underlying59 Try.underlying3 Try.underlying25 Try.underlying5 (by kernel_rfl) (by kernel_rfl) t1
  obtain ⟨vs1', bl1, n1, e1, L1, R1⟩ := r1 4 n0
  obtain rfl := Go.Eng.trodAll_end hB1
  have lay := (LayB.app L0 (LayB.app L1 (LayB.nil _)))
  have has := has_mk lay
  obtain ⟨a0, rfl, S0⟩ := R0 _ (has.l)
  obtain ⟨a1, rfl, S1⟩ := R1 _ (has.r.l)
  have hab : absA Try.prog 8 [51, 51] _ 0 = some ([.slice a0 l0.length none 2, .slice a1 l1.length none 2], bl0 ++ (bl1 ++ ([])), n1) := (absA_cons e0 (argV_slc Try.underlying51 _) (absA_cons e1 (argV_slc Try.underlying51 _) (absA_nil _ _ _)))
  have hrun := law_runX hX (P := Try.prog) (k := 6) kids full inRange hA hval hab (N := 120026) (by
    obtain ⟨wB1, _⟩ := wt0 (by kernel_rfl) (by kernel_rfl) reachBytes (hwt 0 _ _ rfl rfl)
    obtain ⟨wB2, _⟩ := wt1 (by kernel_rfl) (by kernel_rfl) reachBytes (hwt 1 _ _ rfl rfl)
    obtain ⟨h2, this⟩ := law_RecordForms (E := Edyn Try.prog) enRd x_rd enSm x_sm enRo x_ro eLaw (fun _ _ => rfl) 120000 (by decide) l0 by0 (Nat.lt_of_le_of_lt wB1 (by decide)) l1 by1 (Nat.lt_of_le_of_lt wB2 (by decide)) a0 a1 (mkH (bl0 ++ (bl1 ++ ([]))) n1) S0 S1
    rw [show (k_purserlaw16_RecordForms : Nat) = 6 from rfl] at this
    rw [this]; rfl)
  exact hrun.mono fun e W' ⟨he, hl⟩ => ⟨_, he, law_post kids full (by rw [Try.params6]; exact inRange) hW' rfl rfl Try.underlying4 rfl hl⟩

theorem proved : Rows.RecordFormsSaid :=
  OpenClaim.holds_of_wide 6 Try.f6 rfl rfl rfl rfl rfl rfl rfl ⟨rfl, rfl, rfl, rfl, rfl⟩ rfl rfl rfl rfl rfl (by kernel_rfl) Try.func6 (by kernel_rfl)
    (of_decide_eq_true (by kernel_rfl)) (by unfold Func.isWrapper; first | (rw [if_pos (by decide +kernel)]; kernel_rfl) | (rw [if_neg (by decide +kernel)]; exact ⟨rfl, rfl⟩))
    (fun os started H enc _ => lifted os started H enc)
end Go.Proofs.Ytpgocblbihbfpaa.lawRecordForms
