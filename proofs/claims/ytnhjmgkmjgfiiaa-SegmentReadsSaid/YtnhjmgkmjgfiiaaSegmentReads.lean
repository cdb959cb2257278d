/- SegmentReads: for every input the call returns true and the arguments read as before. The program is run on abstract heaps (an evaluation that is proved to say what the machine does on every tape, order and capacity), with unknown numbers. No condition. -/
import Derived.Test.YtnhjmgkmjgfiiaaSsJ
import Derived.Test.YtnhjmgkmjgfiiaaRows
import Derived.ProofKit
import Derived.SizedLaws
namespace Go.Proofs.Ytnhjmgkmjgfiiaa.lawSegmentReads
open Go Go.Eng Go.ChangeShapes Go.WideShapes Go.ChangeAt Go.RowKit

theorem own : ownKnob Try.prog.godebug = none := by kernel_rfl
theorem kids : Kids Try.prog (· < Try.prog.types.size) := kids_rows (by kernel_rfl) (by kernel_rfl)
theorem full : ∀ t e, t < Try.prog.types.size → Try.prog.underlying t = some (.slice e) → 0 < Try.prog.cellsOf e := slices_full_of Try.prog (by kernel_rfl)
theorem inRange : ∀ t ∈ [25, 23, 63], t < Try.prog.types.size := by
  intro t ht
  have h : ([25, 23, 63].all fun t => decide (t < Try.prog.types.size)) = true := by kernel_rfl
  exact of_decide_eq_true (List.all_eq_true.1 h t ht)
theorem enCrc : EnCrc (Edyn Try.prog) := ⟨by kernel_rfl, by kernel_rfl, by kernel_rfl, by kernel_rfl⟩
theorem eLaw : Edyn Try.prog k_purserlaw17_SegmentReads = some f_purserlaw17_SegmentReads := by kernel_rfl
def sndH : Option (V × Eng.H) → Eng.H
  | some (_, h) => h
  | none => Eng.H.empty
set_option maxRecDepth 1000000 in
theorem stepsRun : callX (Edyn Try.prog) noX 2000 (.fn k_crc_steps) [] Eng.H.empty = some (.agg (ofI .u32 tab), sndH (callX (Edyn Try.prog) noX 2000 (.fn k_crc_steps) [] Eng.H.empty)) := by kernel_rfl
theorem hS : QOk Try.prog ⟨id, id, fun _ _ h => h⟩ (pureX k_crc_steps stepsS) := by
  refine pureX_ok (callX_ok (link_dyn Try.prog) noX_ok 2000) ?_
  intro args v hs
  unfold stepsS at hs
  split at hs
  · cases hs
    exact ⟨rfl, by simp only [dataV, datas_ofI], ⟨_, stepsRun⟩⟩
  · cases hs
theorem eLook : Edyn Try.prog k_octet_Look = some f_octet_Look := by kernel_rfl
theorem enWid : EnWid (Edyn Try.prog) := ⟨by kernel_rfl, by kernel_rfl, by kernel_rfl⟩
theorem enPut : EnPut (Edyn Try.prog) := ⟨by kernel_rfl, enWid⟩
theorem enFix : EnFix (Edyn Try.prog) := ⟨by kernel_rfl, by kernel_rfl, enPut⟩
theorem enSize : EnSize (Edyn Try.prog) := ⟨by kernel_rfl, by kernel_rfl, by kernel_rfl, enPut⟩
theorem enPen : EnPen (Edyn Try.prog) := ⟨enFix, enSize, by kernel_rfl, by kernel_rfl, by kernel_rfl⟩
theorem enEye : EnEye (Edyn Try.prog) := ⟨by kernel_rfl, by kernel_rfl, by kernel_rfl, by kernel_rfl, by kernel_rfl, by kernel_rfl, by kernel_rfl, by kernel_rfl, by kernel_rfl, by kernel_rfl, by kernel_rfl, by kernel_rfl, by kernel_rfl, enWid⟩
theorem enRc : EnRc (Edyn Try.prog) := ⟨by kernel_rfl, by kernel_rfl, by kernel_rfl, by kernel_rfl⟩
theorem enRf : EnRf (Edyn Try.prog) := ⟨by kernel_rfl, by kernel_rfl, by kernel_rfl, by kernel_rfl, by kernel_rfl⟩
theorem enCm : EnCm (Edyn Try.prog) := ⟨by kernel_rfl, by kernel_rfl, enPen, enEye, eLook, enCrc, enRc, enRf, by kernel_rfl, by kernel_rfl, by kernel_rfl⟩
theorem enSg : EnSg (Edyn Try.prog) := ⟨enCm, by kernel_rfl, by kernel_rfl, by kernel_rfl, by kernel_rfl, by kernel_rfl, by kernel_rfl, by kernel_rfl, by kernel_rfl, by kernel_rfl, by kernel_rfl, by kernel_rfl, by kernel_rfl, by kernel_rfl, by kernel_rfl, by kernel_rfl, by kernel_rfl, by kernel_rfl, by kernel_rfl, by kernel_rfl, by kernel_rfl⟩
theorem enRo : EnRo (Edyn Try.prog) := ⟨enCm, by kernel_rfl, by kernel_rfl, by kernel_rfl, by kernel_rfl, by kernel_rfl⟩
theorem enRg : EnRg (Edyn Try.prog) := ⟨enRf, by kernel_rfl⟩
theorem enRa : EnRa (Edyn Try.prog) := ⟨enRo, enRg, by kernel_rfl⟩
theorem enDg : EnDg (Edyn Try.prog) := ⟨enRa, enRf, by kernel_rfl, by kernel_rfl, by kernel_rfl⟩
theorem enSm : EnSm (Edyn Try.prog) := ⟨by kernel_rfl, by kernel_rfl, by kernel_rfl, by kernel_rfl⟩
theorem enSs : EnSs (Edyn Try.prog) := ⟨enSm, by kernel_rfl, by kernel_rfl⟩
theorem x_sg : NoSg (pureX k_crc_steps stepsS) := by repeat' (first | exact fun _ _ => rfl | exact fun _ _ _ => rfl | exact fun _ => rfl | constructor)
theorem x_dg : NoDg (pureX k_crc_steps stepsS) := by repeat' (first | exact fun _ _ => rfl | exact fun _ _ _ => rfl | exact fun _ => rfl | constructor)
theorem x_ss : NoSs (pureX k_crc_steps stepsS) := by repeat' (first | exact fun _ _ => rfl | exact fun _ _ _ => rfl | exact fun _ => rfl | constructor)
theorem hX : QOk Try.prog ⟨id, id, fun _ _ h => h⟩ (pureX k_crc_steps stepsS) := hS


set_option maxRecDepth 100000 in
theorem lifted (os : Os) (started : os.Started) (H : Type) (enc : TypeId × Value → H) :
    ReturnsInHanded {} Try.checked os 7 .any (Rows.segmentReadsSpec.pre6 enc Try.prog Try.f7 Rows.segmentReadsRow.domain false) (Rows.segmentReadsSpec.post enc Try.prog Try.f7 false true false false) := by
  refine returnsInHanded_of_change_sized (C := Try.checked) own started (by kernel_rfl) Try.func7
    (ChangeSpec.witness6 (enc := enc) (C := Try.checked) false ⟨#[], #[.slice none 0 0, .int .u64 0, .slice none 0 0], []⟩ 8 (by kernel_rfl) (by kernel_rfl) (by kernel_rfl) (by kernel_rfl)) ?_
  intro W base args ds gs before hval0 hW hcnd hsz _
  have hW' := hW
  obtain ⟨p, q, hA0, hV, _, _, _⟩ := hW
  obtain ⟨rfl, _⟩ := trodVars_none hV
  have hval : ∀ (j : Nat) t v, Try.f7.params.toList[j]? = some t → args.toList[j]? = some v → Value.okWide Try.prog W .any base t v := fun j t v h1 h2 => hval0 j t v (by rw [← Array.getElem?_toList]; exact h1) (by rw [← Array.getElem?_toList]; exact h2)
  rw [Try.params7] at hA0 hval hsz
  have hwt : ∀ (j : Nat) (t : TypeId) (d : DataW H), ([25, 23, 63] : List TypeId)[j]? = some t → ds[j]? = some d → ∀ n ∈ d.weights Try.prog t, n ≤ reachBytes := fun j t d h1 h2 n hn => by
    have h3 := List.all_eq_true.1 hsz n (by rw [show Rows.segmentReadsSpec.plain.varTypes Try.checked.prog = [] from rfl, List.append_nil, List.append_nil]; exact DataW.weights_mem_each (j := j) h1 h2 n hn)
    simpa using h3
  have hA : DataW.TrodAll enc Try.prog W 0 (fun _ => true) true [25, 23, 63] args.toList ds p := hA0
  obtain ⟨v0, vs0, d0, ds0, p0, q0, _, rfl, t0, hB0⟩ := Go.Eng.trodAll_cons hA
  obtain ⟨f0, tf0⟩ := id t0
  obtain ⟨l0, by0, wt0, r0⟩ := Go.Eng.trod_u8s' Try.underlying25 Try.underlying5 (by kernel_rfl) tf0
  obtain ⟨vs0', bl0, n0, e0, L0, R0⟩ := r0 6 0
  obtain ⟨v1, vs1, d1, ds1, p1, q1, _, rfl, t1, hB1⟩ := Go.Eng.trodAll_cons hB0
  obtain ⟨x1, rfl, lo1, up1⟩ := Go.Eng.trod_int Try.underlying23 t1
  simp [IntKind.min, IntKind.max, IntKind.signed, IntKind.bits] at lo1 up1
  obtain ⟨v2, vs2, d2, ds2, p2, q2, _, rfl, t2, hB2⟩ := Go.Eng.trodAll_cons hB1
  obtain ⟨f2, tf2⟩ := id t2
  obtain ⟨l2, by2, wt2, r2⟩ := Go.Eng.trod_ggs (P := Try.prog) Try.underlying63 Try.underlying57 Try.underlying52 Try.underlying3 Try.underlying25 Try.underlying5 (by kernel_rfl) (by kernel_rfl) (by kernel_rfl) t2
  obtain ⟨vs2', bl2, n2, e2, L2, R2⟩ := r2 3 n0
  obtain rfl := Go.Eng.trodAll_end hB2
  have lay := (LayB.app L0 (LayB.app (LayB.nil _) (LayB.app L2 (LayB.nil _))))
  have has := has_mk lay
  obtain ⟨a0, rfl, S0⟩ := R0 _ (has.l)
  obtain ⟨a2, rfl, S2⟩ := R2 _ (has.r.r.l)
  have hab : absA Try.prog 8 [25, 23, 63] _ 0 = some ([.slice a0 l0.length none 1, .int .u64 x1, .slice a2 l2.length none 1], bl0 ++ ([] ++ (bl2 ++ ([]))), n2) := (absA_cons e0 (argV_slc Try.underlying25 _) (absA_cons (absD_int' 7 Try.underlying23 x1 _) (argV_int Try.underlying23 _) (absA_cons e2 (argV_slc Try.underlying63 _) (absA_nil _ _ _))))
  have hrun := law_runX hX (P := Try.prog) (k := 7) kids full inRange hA hval hab (N := 1000127) (by
    obtain ⟨wB1, wB2⟩ := wt2 (by kernel_rfl) (by kernel_rfl) (by kernel_rfl) reachBytes (hwt 2 _ _ rfl rfl)
    obtain ⟨m1, rfl⟩ := Int.eq_ofNat_of_zero_le lo1
    obtain ⟨h2, this⟩ := law_SegmentReads (E := Edyn Try.prog) enSg x_sg enDg x_dg enSs x_ss (by kernel_rfl) (fun _ _ => rfl) eLaw (fun _ _ => rfl) 1000100 (by decide) l0 by0 m1 (by omega) l2 by2 (Nat.lt_of_le_of_lt wB1 (by decide)) (fun g hg => Nat.lt_of_le_of_lt (wB2 g hg).1 (by decide)) a0 a2 (mkH (bl0 ++ ([] ++ (bl2 ++ ([])))) n2) S0 S2
    rw [show (k_purserlaw17_SegmentReads : Nat) = 7 from rfl] at this
    rw [this]; rfl)
  exact hrun.mono fun e W' ⟨he, hl⟩ => ⟨_, he, law_post kids full (by rw [Try.params7]; exact inRange) hW' rfl rfl Try.underlying4 rfl hl⟩

theorem proved : Rows.SegmentReadsSaid :=
  OpenClaim.holds_of_wide 7 Try.f7 rfl rfl rfl rfl rfl rfl rfl ⟨rfl, rfl, rfl, rfl, rfl⟩ rfl rfl rfl rfl rfl (by kernel_rfl) Try.func7 (by kernel_rfl)
    (of_decide_eq_true (by kernel_rfl)) (by unfold Func.isWrapper; first | (rw [if_pos (by decide +kernel)]; kernel_rfl) | (rw [if_neg (by decide +kernel)]; exact ⟨rfl, rfl⟩))
    (fun os started H enc _ => lifted os started H enc)
end Go.Proofs.Ytnhjmgkmjgfiiaa.lawSegmentReads
