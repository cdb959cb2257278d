/- CrcRuns: for every input the call returns true and the arguments read as before. The program is run on abstract heaps (an evaluation that is proved to say what the machine does on every tape, order and capacity), with unknown numbers. No condition. -/
import Derived.Test.YtgjoaeefnknpfaaQrB
import Derived.Test.YtgjoaeefnknpfaaRows
import Derived.ProofKit
namespace Go.Proofs.Ytgjoaeefnknpfaa.lawCrcRuns
open Go Go.Eng Go.ChangeShapes Go.WideShapes Go.ChangeAt Go.RowKit

theorem own : ownKnob Try.prog.godebug = none := by kernel_rfl
theorem kids : Kids Try.prog (· < Try.prog.types.size) := kids_rows (by kernel_rfl) (by kernel_rfl)
theorem full : ∀ t e, t < Try.prog.types.size → Try.prog.underlying t = some (.slice e) → 0 < Try.prog.cellsOf e := slices_full_of Try.prog (by kernel_rfl)
theorem inRange : ∀ t ∈ [25, 72, 63], t < Try.prog.types.size := by
  intro t ht
  have h : ([25, 72, 63].all fun t => decide (t < Try.prog.types.size)) = true := by kernel_rfl
  exact of_decide_eq_true (List.all_eq_true.1 h t ht)
theorem enCrc : EnCrc (Edyn Try.prog) := ⟨by kernel_rfl, by kernel_rfl, by kernel_rfl, by kernel_rfl⟩
theorem eLaw : Edyn Try.prog k_purserlaw02_CrcRuns = some f_purserlaw02_CrcRuns := by kernel_rfl
def sndH : Option (V × Eng.H) → Eng.H
  | some (_, h) => h
  | none => Eng.H.empty
set_option maxRecDepth 1000000 in
theorem stepsRun : callX (Edyn Try.prog) noX 2000 (.fn k_crc_steps) [] Eng.H.empty = some (.agg (ofI .u32 tab), sndH (callX (Edyn Try.prog) noX 2000 (.fn k_crc_steps) [] Eng.H.empty)) := by kernel_rfl
theorem hS : QOk Try.prog ⟨id, id, fun _ _ h => h⟩ (pureX k_crc_steps stepsS) := by
  refine pureX_ok (callX_ok (link_dyn Try.prog) noX_ok 2000) ?_
  intro args v hs
  unfold stepsS at hs
  split at hs
  · cases hs
    exact ⟨rfl, by simp only [dataV, datas_ofI], ⟨_, stepsRun⟩⟩
  · cases hs
set_option maxRecDepth 1000000 in
theorem aliveRun : isTrue (callX (Edyn Try.prog) (pureX k_crc_steps stepsS) 3000 (.fn k_purserlaw02_alive) [] Eng.H.empty) = true := by kernel_rfl
theorem hX : QOk Try.prog ⟨id, id, fun _ _ h => h⟩ (crX k_purserlaw02_alive) := orX_ok hS (aliveX_ok (link_dyn Try.prog) hS aliveRun)
theorem enFix : EnFix (Edyn Try.prog) := ⟨by kernel_rfl, by kernel_rfl, ⟨by kernel_rfl, ⟨by kernel_rfl, by kernel_rfl, by kernel_rfl⟩⟩⟩
theorem enMark : EnMark (Edyn Try.prog) := ⟨by kernel_rfl, by kernel_rfl, by kernel_rfl, enCrc, enFix⟩
theorem enBare : EnBare (Edyn Try.prog) := ⟨by kernel_rfl, by kernel_rfl, ⟨by kernel_rfl, by kernel_rfl, by kernel_rfl, by kernel_rfl, enFix⟩, enCrc⟩

set_option maxRecDepth 100000 in
theorem lifted (os : Os) (started : os.Started) (H : Type) (enc : TypeId × Value → H) :
    ReturnsInHanded {} Try.checked os 10 .any (Rows.crcRunsSpec.pre6 enc Try.prog Try.f10 Rows.crcRunsRow.domain false) (Rows.crcRunsSpec.post enc Try.prog Try.f10 false true false false) := by
  refine returnsInHanded_of_change (C := Try.checked) own started (by kernel_rfl) Try.func10
    (ChangeSpec.witness6 (enc := enc) (C := Try.checked) false ⟨#[], #[.slice none 0 0, .int .u16 0, .int .u32 0], []⟩ 8 (by kernel_rfl) (by kernel_rfl) (by kernel_rfl) (by kernel_rfl)) ?_
  intro W base args ds gs before hval0 hW hcnd _
  have hW' := hW
  obtain ⟨p, q, hA0, hV, _, _, _⟩ := hW
  obtain ⟨rfl, _⟩ := trodVars_none hV
  have hval : ∀ (j : Nat) t v, Try.f10.params.toList[j]? = some t → args.toList[j]? = some v → Value.okWide Try.prog W .any base t v := fun j t v h1 h2 => hval0 j t v (by rw [← Array.getElem?_toList]; exact h1) (by rw [← Array.getElem?_toList]; exact h2)
  rw [Try.params10] at hA0 hval
  have hA : DataW.TrodAll enc Try.prog W 0 (fun _ => true) true [25, 72, 63] args.toList ds p := hA0
  obtain ⟨v0, vs0, d0, ds0, p0, q0, _, rfl, t0, hB0⟩ := Go.Eng.trodAll_cons hA
  obtain ⟨l0, by0, r0⟩ := Go.Eng.trod_u8s Try.underlying25 Try.underlying5 (by kernel_rfl) t0
  obtain ⟨a0, bl0, n0, e0, L0⟩ := r0 6 0
  obtain ⟨v1, vs1, d1, ds1, p1, q1, _, rfl, t1, hB1⟩ := Go.Eng.trodAll_cons hB0
  obtain ⟨x1, rfl, lo1, up1⟩ := Go.Eng.trod_int Try.underlying72 t1
  simp [IntKind.min, IntKind.max, IntKind.signed, IntKind.bits] at lo1 up1
  obtain ⟨v2, vs2, d2, ds2, p2, q2, _, rfl, t2, hB2⟩ := Go.Eng.trodAll_cons hB1
  obtain ⟨x2, rfl, lo2, up2⟩ := Go.Eng.trod_int Try.underlying63 t2
  simp [IntKind.min, IntKind.max, IntKind.signed, IntKind.bits] at lo2 up2
  obtain rfl := Go.Eng.trodAll_end hB2
  have hab : absA Try.prog 8 [25, 72, 63] _ 0 = some ([.slice a0 l0.length none 1, .int .u16 x1, .int .u32 x2], bl0 ++ ([] ++ ([] ++ ([]))), n0) := (absA_cons e0 (argV_slc Try.underlying25 _) (absA_cons (absD_int' 7 Try.underlying72 x1 _) (argV_int Try.underlying72 _) (absA_cons (absD_int' 7 Try.underlying63 x2 _) (argV_int Try.underlying63 _) (absA_nil _ _ _))))
  have hrun := law_runX hX (P := Try.prog) (k := 10) kids full inRange hA hval hab (N := 13000) (by
    obtain ⟨m1, rfl⟩ := Int.eq_ofNat_of_zero_le lo1
    obtain ⟨m2, rfl⟩ := Int.eq_ofNat_of_zero_le lo2
    obtain ⟨h2, this⟩ := law_CrcRuns (N := 1000) (E := Edyn Try.prog) enMark enBare eLaw l0 by0 a0 m1 m2 (by omega) (by omega) (mkH (bl0 ++ ([] ++ ([] ++ ([])))) n0) (L0.src (pre := []) (post := [] ++ ([] ++ [])) (by simp) (Nat.le_refl _))
    rw [show (k_purserlaw02_CrcRuns : Nat) = 10 from rfl] at this
    rw [this]; rfl)
  exact hrun.mono fun e W' ⟨he, hl⟩ => ⟨_, he, law_post kids full (by rw [Try.params10]; exact inRange) hW' rfl rfl Try.underlying4 rfl hl⟩

theorem proved : Rows.CrcRunsSaid :=
  OpenClaim.holds_of_wide 10 Try.f10 rfl rfl rfl rfl rfl rfl rfl ⟨rfl, rfl, rfl, rfl, rfl⟩ rfl rfl rfl rfl rfl (by kernel_rfl) Try.func10 (by kernel_rfl)
    (of_decide_eq_true (by kernel_rfl)) (by unfold Func.isWrapper; first | (rw [if_pos (by decide +kernel)]; kernel_rfl) | (rw [if_neg (by decide +kernel)]; exact ⟨rfl, rfl⟩))
    (fun os started H enc _ => lifted os started H enc)
end Go.Proofs.Ytgjoaeefnknpfaa.lawCrcRuns
