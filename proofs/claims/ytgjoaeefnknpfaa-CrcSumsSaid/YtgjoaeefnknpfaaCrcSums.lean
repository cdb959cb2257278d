/- CrcSums: for every input the call returns true and the arguments read as before. The program is run on abstract heaps (an evaluation that is proved to say what the machine does on every tape, order and capacity), with unknown numbers. No condition. -/
import Derived.Test.YtgjoaeefnknpfaaCsA
import Derived.Test.YtgjoaeefnknpfaaRows
import Derived.ProofKit
namespace Go.Proofs.Ytgjoaeefnknpfaa.lawCrcSums
open Go Go.Eng Go.ChangeShapes Go.WideShapes Go.ChangeAt Go.RowKit

theorem own : ownKnob Try.prog.godebug = none := by kernel_rfl
theorem kids : Kids Try.prog (· < Try.prog.types.size) := kids_rows (by kernel_rfl) (by kernel_rfl)
theorem full : ∀ t e, t < Try.prog.types.size → Try.prog.underlying t = some (.slice e) → 0 < Try.prog.cellsOf e := slices_full_of Try.prog (by kernel_rfl)
theorem inRange : ∀ t ∈ [25, 63], t < Try.prog.types.size := by
  intro t ht
  have h : ([25, 63].all fun t => decide (t < Try.prog.types.size)) = true := by kernel_rfl
  exact of_decide_eq_true (List.all_eq_true.1 h t ht)
theorem enCrc : EnCrc (Edyn Try.prog) := ⟨by kernel_rfl, by kernel_rfl, by kernel_rfl, by kernel_rfl⟩
theorem eLaw : Edyn Try.prog k_purserlaw02_CrcSums = some f_purserlaw02_CrcSums := by kernel_rfl
def sndH : Option (V × Eng.H) → Eng.H
  | some (_, h) => h
  | none => Eng.H.empty
set_option maxRecDepth 1000000 in
theorem stepsRun : callX (Edyn Try.prog) noX 2000 (.fn k_crc_steps) [] Eng.H.empty = some (.agg (ofI .u32 tab), sndH (callX (Edyn Try.prog) noX 2000 (.fn k_crc_steps) [] Eng.H.empty)) := by kernel_rfl
theorem hS : QOk Try.prog ⟨id, id, fun _ _ h => h⟩ (pureX k_crc_steps stepsS) := by
  refine pureX_ok (callX_ok (link_dyn Try.prog) noX_ok 2000) ?_
  intro args v hs
  unfold stepsS at hs
  split at hs
  · cases hs
    exact ⟨rfl, by simp only [dataV, datas_ofI], ⟨_, stepsRun⟩⟩
  · cases hs
theorem enRc : EnRc (Edyn Try.prog) := ⟨by kernel_rfl, by kernel_rfl, by kernel_rfl, by kernel_rfl⟩
theorem eTwin : Edyn Try.prog k_purserref01_Twin = some f_purserref01_Twin := by kernel_rfl
theorem hX : QOk Try.prog ⟨id, id, fun _ _ h => h⟩ csX := hS

set_option maxRecDepth 100000 in
theorem lifted (os : Os) (started : os.Started) (H : Type) (enc : TypeId × Value → H) :
    ReturnsInHanded {} Try.checked os 8 .any (Rows.crcSumsSpec.pre6 enc Try.prog Try.f8 Rows.crcSumsRow.domain false) (Rows.crcSumsSpec.post enc Try.prog Try.f8 false true false false) := by
  refine returnsInHanded_of_change (C := Try.checked) own started (by kernel_rfl) Try.func8
    (ChangeSpec.witness6 (enc := enc) (C := Try.checked) false ⟨#[], #[.slice none 0 0, .int .u32 0], []⟩ 8 (by kernel_rfl) (by kernel_rfl) (by kernel_rfl) (by kernel_rfl)) ?_
  intro W base args ds gs before hval0 hW hcnd _
  have hW' := hW
  obtain ⟨p, q, hA0, hV, _, _, _⟩ := hW
  obtain ⟨rfl, _⟩ := trodVars_none hV
  have hval : ∀ (j : Nat) t v, Try.f8.params.toList[j]? = some t → args.toList[j]? = some v → Value.okWide Try.prog W .any base t v := fun j t v h1 h2 => hval0 j t v (by rw [← Array.getElem?_toList]; exact h1) (by rw [← Array.getElem?_toList]; exact h2)
  rw [Try.params8] at hA0 hval
  have hA : DataW.TrodAll enc Try.prog W 0 (fun _ => true) true [25, 63] args.toList ds p := hA0
  obtain ⟨v0, vs0, d0, ds0, p0, q0, _, rfl, t0, hB0⟩ := Go.Eng.trodAll_cons hA
  obtain ⟨l0, by0, r0⟩ := Go.Eng.trod_u8s Try.underlying25 Try.underlying5 (by kernel_rfl) t0
  obtain ⟨a0, bl0, n0, e0, L0⟩ := r0 6 0
  obtain ⟨v1, vs1, d1, ds1, p1, q1, _, rfl, t1, hB1⟩ := Go.Eng.trodAll_cons hB0
  obtain ⟨x1, rfl, lo1, up1⟩ := Go.Eng.trod_int Try.underlying63 t1
  simp [IntKind.min, IntKind.max, IntKind.signed, IntKind.bits] at lo1 up1
  obtain rfl := Go.Eng.trodAll_end hB1
  have hab : absA Try.prog 8 [25, 63] _ 0 = some ([.slice a0 l0.length none 1, .int .u32 x1], bl0 ++ ([] ++ ([])), n0) := (absA_cons e0 (argV_slc Try.underlying25 _) (absA_cons (absD_int' 7 Try.underlying63 x1 _) (argV_int Try.underlying63 _) (absA_nil _ _ _)))
  have hrun := law_runX hX (P := Try.prog) (k := 8) kids full inRange hA hval hab (N := 12000) (by
    obtain ⟨m1, rfl⟩ := Int.eq_ofNat_of_zero_le lo1
    obtain ⟨h2, this⟩ := law_CrcSums (E := Edyn Try.prog) enCrc enRc eTwin eLaw 1000 l0 by0 a0 m1 (by omega) (mkH (bl0 ++ ([] ++ ([]))) n0) (L0.src (pre := []) (post := [] ++ []) (by simp) (Nat.le_refl _))
    rw [show (k_purserlaw02_CrcSums : Nat) = 8 from rfl] at this
    rw [this]; rfl)
  exact hrun.mono fun e W' ⟨he, hl⟩ => ⟨_, he, law_post kids full (by rw [Try.params8]; exact inRange) hW' rfl rfl Try.underlying4 rfl hl⟩

theorem proved : Rows.CrcSumsSaid :=
  OpenClaim.holds_of_wide 8 Try.f8 rfl rfl rfl rfl rfl rfl rfl ⟨rfl, rfl, rfl, rfl, rfl⟩ rfl rfl rfl rfl rfl (by kernel_rfl) Try.func8 (by kernel_rfl)
    (of_decide_eq_true (by kernel_rfl)) (by unfold Func.isWrapper; first | (rw [if_pos (by decide +kernel)]; kernel_rfl) | (rw [if_neg (by decide +kernel)]; exact ⟨rfl, rfl⟩))
    (fun os started H enc _ => lifted os started H enc)
end Go.Proofs.Ytgjoaeefnknpfaa.lawCrcSums
