/- SegmentRuns: for every input the call returns true and the arguments read as before. The program is run on abstract heaps (an evaluation that is proved to say what the machine does on every tape, order and capacity), with unknown numbers. No condition. -/
import Derived.Test.YtnhjmgkmjgfiiaaSrH
import Derived.Test.YtnhjmgkmjgfiiaaRows
import Derived.ProofKit
import Derived.SizedLaws
namespace Go.Proofs.Ytnhjmgkmjgfiiaa.lawSegmentRuns
open Go Go.Eng Go.ChangeShapes Go.WideShapes Go.ChangeAt Go.RowKit

theorem own : ownKnob Try.prog.godebug = none := by kernel_rfl
theorem kids : Kids Try.prog (· < Try.prog.types.size) := kids_rows (by kernel_rfl) (by kernel_rfl)
theorem full : ∀ t e, t < Try.prog.types.size → Try.prog.underlying t = some (.slice e) → 0 < Try.prog.cellsOf e := slices_full_of Try.prog (by kernel_rfl)
theorem inRange : ∀ t ∈ [63, 71, 71, 70], t < Try.prog.types.size := by
  intro t ht
  have h : ([63, 71, 71, 70].all fun t => decide (t < Try.prog.types.size)) = true := by kernel_rfl
  exact of_decide_eq_true (List.all_eq_true.1 h t ht)
theorem enCrc : EnCrc (Edyn Try.prog) := ⟨by kernel_rfl, by kernel_rfl, by kernel_rfl, by kernel_rfl⟩
theorem eLaw : Edyn Try.prog k_purserlaw17_SegmentRuns = some f_purserlaw17_SegmentRuns := by kernel_rfl
def sndH : Option (V × Eng.H) → Eng.H
  | some (_, h) => h
  | none => Eng.H.empty
set_option maxRecDepth 1000000 in
theorem stepsRun : callX (Edyn Try.prog) noX 2000 (.fn k_crc_steps) [] Eng.H.empty = some (.agg (ofI .u32 tab), sndH (callX (Edyn Try.prog) noX 2000 (.fn k_crc_steps) [] Eng.H.empty)) := by kernel_rfl
theorem hS : QOk Try.prog ⟨id, id, fun _ _ h => h⟩ (pureX k_crc_steps stepsS) := by
  refine pureX_ok (callX_ok (link_dyn Try.prog) noX_ok 2000) ?_
  intro args v hs
  unfold stepsS at hs
  split at hs
  · cases hs
    exact ⟨rfl, by simp only [dataV, datas_ofI], ⟨_, stepsRun⟩⟩
  · cases hs
theorem eLook : Edyn Try.prog k_octet_Look = some f_octet_Look := by kernel_rfl
theorem enWid : EnWid (Edyn Try.prog) := ⟨by kernel_rfl, by kernel_rfl, by kernel_rfl⟩
theorem enPut : EnPut (Edyn Try.prog) := ⟨by kernel_rfl, enWid⟩
theorem enFix : EnFix (Edyn Try.prog) := ⟨by kernel_rfl, by kernel_rfl, enPut⟩
theorem enSize : EnSize (Edyn Try.prog) := ⟨by kernel_rfl, by kernel_rfl, by kernel_rfl, enPut⟩
theorem enPen : EnPen (Edyn Try.prog) := ⟨enFix, enSize, by kernel_rfl, by kernel_rfl, by kernel_rfl⟩
theorem enEye : EnEye (Edyn Try.prog) := ⟨by kernel_rfl, by kernel_rfl, by kernel_rfl, by kernel_rfl, by kernel_rfl, by kernel_rfl, by kernel_rfl, by kernel_rfl, by kernel_rfl, by kernel_rfl, by kernel_rfl, by kernel_rfl, by kernel_rfl, enWid⟩
theorem enRc : EnRc (Edyn Try.prog) := ⟨by kernel_rfl, by kernel_rfl, by kernel_rfl, by kernel_rfl⟩
theorem enRf : EnRf (Edyn Try.prog) := ⟨by kernel_rfl, by kernel_rfl, by kernel_rfl, by kernel_rfl, by kernel_rfl⟩
theorem enCm : EnCm (Edyn Try.prog) := ⟨by kernel_rfl, by kernel_rfl, enPen, enEye, eLook, enCrc, enRc, enRf, by kernel_rfl, by kernel_rfl, by kernel_rfl⟩
theorem enSg : EnSg (Edyn Try.prog) := ⟨enCm, by kernel_rfl, by kernel_rfl, by kernel_rfl, by kernel_rfl, by kernel_rfl, by kernel_rfl, by kernel_rfl, by kernel_rfl, by kernel_rfl, by kernel_rfl, by kernel_rfl, by kernel_rfl, by kernel_rfl, by kernel_rfl, by kernel_rfl, by kernel_rfl, by kernel_rfl, by kernel_rfl, by kernel_rfl, by kernel_rfl⟩
set_option maxRecDepth 1000000 in
theorem aliveRun : isTrue (callX (Edyn Try.prog) (pureX k_crc_steps stepsS) 3000 (.fn k_purserlaw17_alive) [] Eng.H.empty) = true := by kernel_rfl
theorem hX : QOk Try.prog ⟨id, id, fun _ _ h => h⟩ (alR k_purserlaw17_alive) := orX_ok hS (aliveX_ok (link_dyn Try.prog) hS aliveRun)


set_option maxRecDepth 100000 in
theorem lifted (os : Os) (started : os.Started) (H : Type) (enc : TypeId × Value → H) :
    ReturnsInHanded {} Try.checked os 9 .any (Rows.segmentRunsSpec.pre6 enc Try.prog Try.f9 Rows.segmentRunsRow.domain false) (Rows.segmentRunsSpec.post enc Try.prog Try.f9 false true false false) := by
  refine returnsInHanded_of_change_sized (C := Try.checked) own started (by kernel_rfl) Try.func9
    (ChangeSpec.witness6 (enc := enc) (C := Try.checked) false ⟨#[], #[.slice none 0 0, .int .u16 0, .int .u16 0, .int .u32 0], []⟩ 8 (by kernel_rfl) (by kernel_rfl) (by kernel_rfl) (by kernel_rfl)) ?_
  intro W base args ds gs before hval0 hW hcnd hsz _
  have hW' := hW
  obtain ⟨p, q, hA0, hV, _, _, _⟩ := hW
  obtain ⟨rfl, _⟩ := trodVars_none hV
  have hval : ∀ (j : Nat) t v, Try.f9.params.toList[j]? = some t → args.toList[j]? = some v → Value.okWide Try.prog W .any base t v := fun j t v h1 h2 => hval0 j t v (by rw [← Array.getElem?_toList]; exact h1) (by rw [← Array.getElem?_toList]; exact h2)
  rw [Try.params9] at hA0 hval hsz
  have hwt : ∀ (j : Nat) (t : TypeId) (d : DataW H), ([63, 71, 71, 70] : List TypeId)[j]? = some t → ds[j]? = some d → ∀ n ∈ d.weights Try.prog t, n ≤ reachBytes := fun j t d h1 h2 n hn => by
    have h3 := List.all_eq_true.1 hsz n (by rw [show Rows.segmentRunsSpec.plain.varTypes Try.checked.prog = [] from rfl, List.append_nil, List.append_nil]; exact DataW.weights_mem_each (j := j) h1 h2 n hn)
    simpa using h3
  have hA : DataW.TrodAll enc Try.prog W 0 (fun _ => true) true [63, 71, 71, 70] args.toList ds p := hA0
  obtain ⟨v0, vs0, d0, ds0, p0, q0, _, rfl, t0, hB0⟩ := Go.Eng.trodAll_cons hA
  obtain ⟨f0, tf0⟩ := id t0
  obtain ⟨l0, by0, wt0, r0⟩ := Go.Eng.trod_ggs (P := Try.prog) Try.underlying63 Try.underlying57 Try.underlying52 Try.underlying3 Try.underlying25 Try.underlying5 (by kernel_rfl) (by kernel_rfl) (by kernel_rfl) t0
  obtain ⟨vs0', bl0, n0, e0, L0, R0⟩ := r0 3 0
  obtain ⟨v1, vs1, d1, ds1, p1, q1, _, rfl, t1, hB1⟩ := Go.Eng.trodAll_cons hB0
  obtain ⟨x1, rfl, lo1, up1⟩ := Go.Eng.trod_int Try.underlying71 t1
  simp [IntKind.min, IntKind.max, IntKind.signed, IntKind.bits] at lo1 up1
  obtain ⟨v2, vs2, d2, ds2, p2, q2, _, rfl, t2, hB2⟩ := Go.Eng.trodAll_cons hB1
  obtain ⟨x2, rfl, lo2, up2⟩ := Go.Eng.trod_int Try.underlying71 t2
  simp [IntKind.min, IntKind.max, IntKind.signed, IntKind.bits] at lo2 up2
  obtain ⟨v3, vs3, d3, ds3, p3, q3, _, rfl, t3, hB3⟩ := Go.Eng.trodAll_cons hB2
  obtain ⟨x3, rfl, lo3, up3⟩ := Go.Eng.trod_int Try.underlying70 t3
  simp [IntKind.min, IntKind.max, IntKind.signed, IntKind.bits] at lo3 up3
  obtain rfl := Go.Eng.trodAll_end hB3
  have lay := (LayB.app L0 (LayB.app (LayB.nil _) (LayB.app (LayB.nil _) (LayB.app (LayB.nil _) (LayB.nil _)))))
  have has := has_mk lay
  obtain ⟨a0, rfl, S0⟩ := R0 _ (has.l)
  have hab : absA Try.prog 8 [63, 71, 71, 70] _ 0 = some ([.slice a0 l0.length none 1, .int .u16 x1, .int .u16 x2, .int .u32 x3], bl0 ++ ([] ++ ([] ++ ([] ++ ([])))), n0) := (absA_cons e0 (argV_slc Try.underlying63 _) (absA_cons (absD_int' 7 Try.underlying71 x1 _) (argV_int Try.underlying71 _) (absA_cons (absD_int' 7 Try.underlying71 x2 _) (argV_int Try.underlying71 _) (absA_cons (absD_int' 7 Try.underlying70 x3 _) (argV_int Try.underlying70 _) (absA_nil _ _ _)))))
  have hrun := law_runX hX (P := Try.prog) (k := 9) kids full inRange hA hval hab (N := 1000127) (by
    obtain ⟨wB1, wB2⟩ := wt0 (by kernel_rfl) (by kernel_rfl) (by kernel_rfl) reachBytes (hwt 0 _ _ rfl rfl)
    obtain ⟨m1, rfl⟩ := Int.eq_ofNat_of_zero_le lo1
    obtain ⟨m2, rfl⟩ := Int.eq_ofNat_of_zero_le lo2
    obtain ⟨m3, rfl⟩ := Int.eq_ofNat_of_zero_le lo3
    obtain ⟨h2, this⟩ := law_SegmentRuns (E := Edyn Try.prog) enSg eLaw 1000100 (by decide) l0 by0 (Nat.lt_of_le_of_lt wB1 (by decide)) (fun g hg => Nat.lt_of_le_of_lt (wB2 g hg).1 (by decide)) m1 m2 m3 (by omega) (by omega) (by omega) a0 (mkH (bl0 ++ ([] ++ ([] ++ ([] ++ ([]))))) n0) S0
    rw [show (k_purserlaw17_SegmentRuns : Nat) = 9 from rfl] at this
    rw [this]; rfl)
  exact hrun.mono fun e W' ⟨he, hl⟩ => ⟨_, he, law_post kids full (by rw [Try.params9]; exact inRange) hW' rfl rfl Try.underlying4 rfl hl⟩

theorem proved : Rows.SegmentRunsSaid :=
  OpenClaim.holds_of_wide 9 Try.f9 rfl rfl rfl rfl rfl rfl rfl ⟨rfl, rfl, rfl, rfl, rfl⟩ rfl rfl rfl rfl rfl (by kernel_rfl) Try.func9 (by kernel_rfl)
    (of_decide_eq_true (by kernel_rfl)) (by unfold Func.isWrapper; first | (rw [if_pos (by decide +kernel)]; kernel_rfl) | (rw [if_neg (by decide +kernel)]; exact ⟨rfl, rfl⟩))
    (fun os started H enc _ => lifted os started H enc)
end Go.Proofs.Ytnhjmgkmjgfiiaa.lawSegmentRuns
