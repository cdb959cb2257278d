/- CrcParts: for every input the call returns true and the arguments read as before. The program is run on abstract heaps (an evaluation that is proved to say what the machine does on every tape, order and capacity), with unknown numbers. No condition. -/
import Derived.Test.YtgjoaeefnknpfaaCrA
import Derived.Test.YtgjoaeefnknpfaaRows
import Derived.ProofKit
namespace Go.Proofs.Ytgjoaeefnknpfaa.lawCrcParts
open Go Go.Eng Go.ChangeShapes Go.WideShapes Go.ChangeAt Go.RowKit

theorem own : ownKnob Try.prog.godebug = none := by kernel_rfl
theorem kids : Kids Try.prog (· < Try.prog.types.size) := kids_rows (by kernel_rfl) (by kernel_rfl)
theorem full : ∀ t e, t < Try.prog.types.size → Try.prog.underlying t = some (.slice e) → 0 < Try.prog.cellsOf e := slices_full_of Try.prog (by kernel_rfl)
theorem inRange : ∀ t ∈ [25, 25, 25, 72, 72], t < Try.prog.types.size := by
  intro t ht
  have h : ([25, 25, 25, 72, 72].all fun t => decide (t < Try.prog.types.size)) = true := by kernel_rfl
  exact of_decide_eq_true (List.all_eq_true.1 h t ht)
theorem enCrc : EnCrc (Edyn Try.prog) := ⟨by kernel_rfl, by kernel_rfl, by kernel_rfl, by kernel_rfl⟩
theorem eLaw : Edyn Try.prog k_purserlaw02_CrcParts = some f_purserlaw02_CrcParts := by kernel_rfl
def sndH : Option (V × Eng.H) → Eng.H
  | some (_, h) => h
  | none => Eng.H.empty
set_option maxRecDepth 1000000 in
theorem stepsRun : callX (Edyn Try.prog) noX 2000 (.fn k_crc_steps) [] Eng.H.empty = some (.agg (ofI .u32 tab), sndH (callX (Edyn Try.prog) noX 2000 (.fn k_crc_steps) [] Eng.H.empty)) := by kernel_rfl
theorem hS : QOk Try.prog ⟨id, id, fun _ _ h => h⟩ (pureX k_crc_steps stepsS) := by
  refine pureX_ok (callX_ok (link_dyn Try.prog) noX_ok 2000) ?_
  intro args v hs
  unfold stepsS at hs
  split at hs
  · cases hs
    exact ⟨rfl, by simp only [dataV, datas_ofI], ⟨_, stepsRun⟩⟩
  · cases hs
set_option maxRecDepth 1000000 in
theorem aliveRun : isTrue (callX (Edyn Try.prog) (pureX k_crc_steps stepsS) 3000 (.fn k_purserlaw02_alive) [] Eng.H.empty) = true := by kernel_rfl
theorem hX : QOk Try.prog ⟨id, id, fun _ _ h => h⟩ (crX k_purserlaw02_alive) := orX_ok hS (aliveX_ok (link_dyn Try.prog) hS aliveRun)

set_option maxRecDepth 100000 in
theorem lifted (os : Os) (started : os.Started) (H : Type) (enc : TypeId × Value → H) :
    ReturnsInHanded {} Try.checked os 11 .any (Rows.crcPartsSpec.pre6 enc Try.prog Try.f11 Rows.crcPartsRow.domain false) (Rows.crcPartsSpec.post enc Try.prog Try.f11 false true false false) := by
  refine returnsInHanded_of_change (C := Try.checked) own started (by kernel_rfl) Try.func11
    (ChangeSpec.witness6 (enc := enc) (C := Try.checked) false ⟨#[], #[.slice none 0 0, .slice none 0 0, .slice none 0 0, .int .u16 0, .int .u16 0], []⟩ 8 (by kernel_rfl) (by kernel_rfl) (by kernel_rfl) (by kernel_rfl)) ?_
  intro W base args ds gs before hval0 hW hcnd _
  have hW' := hW
  obtain ⟨p, q, hA0, hV, _, _, _⟩ := hW
  obtain ⟨rfl, _⟩ := trodVars_none hV
  have hval : ∀ (j : Nat) t v, Try.f11.params.toList[j]? = some t → args.toList[j]? = some v → Value.okWide Try.prog W .any base t v := fun j t v h1 h2 => hval0 j t v (by rw [← Array.getElem?_toList]; exact h1) (by rw [← Array.getElem?_toList]; exact h2)
  rw [Try.params11] at hA0 hval
  have hA : DataW.TrodAll enc Try.prog W 0 (fun _ => true) true [25, 25, 25, 72, 72] args.toList ds p := hA0
  obtain ⟨v0, vs0, d0, ds0, p0, q0, _, rfl, t0, hB0⟩ := Go.Eng.trodAll_cons hA
  obtain ⟨l0, by0, r0⟩ := Go.Eng.trod_u8s Try.underlying25 Try.underlying5 (by kernel_rfl) t0
  obtain ⟨a0, bl0, n0, e0, L0⟩ := r0 6 0
  obtain ⟨v1, vs1, d1, ds1, p1, q1, _, rfl, t1, hB1⟩ := Go.Eng.trodAll_cons hB0
  obtain ⟨l1, by1, r1⟩ := Go.Eng.trod_u8s Try.underlying25 Try.underlying5 (by kernel_rfl) t1
  obtain ⟨a1, bl1, n1, e1, L1⟩ := r1 6 n0
  obtain ⟨v2, vs2, d2, ds2, p2, q2, _, rfl, t2, hB2⟩ := Go.Eng.trodAll_cons hB1
  obtain ⟨l2, by2, r2⟩ := Go.Eng.trod_u8s Try.underlying25 Try.underlying5 (by kernel_rfl) t2
  obtain ⟨a2, bl2, n2, e2, L2⟩ := r2 6 n1
  obtain ⟨v3, vs3, d3, ds3, p3, q3, _, rfl, t3, hB3⟩ := Go.Eng.trodAll_cons hB2
  obtain ⟨x3, rfl, lo3, up3⟩ := Go.Eng.trod_int Try.underlying72 t3
  simp [IntKind.min, IntKind.max, IntKind.signed, IntKind.bits] at lo3 up3
  obtain ⟨v4, vs4, d4, ds4, p4, q4, _, rfl, t4, hB4⟩ := Go.Eng.trodAll_cons hB3
  obtain ⟨x4, rfl, lo4, up4⟩ := Go.Eng.trod_int Try.underlying72 t4
  simp [IntKind.min, IntKind.max, IntKind.signed, IntKind.bits] at lo4 up4
  obtain rfl := Go.Eng.trodAll_end hB4
  have hab : absA Try.prog 8 [25, 25, 25, 72, 72] _ 0 = some ([.slice a0 l0.length none 1, .slice a1 l1.length none 1, .slice a2 l2.length none 1, .int .u16 x3, .int .u16 x4], bl0 ++ (bl1 ++ (bl2 ++ ([] ++ ([] ++ ([]))))), n2) := (absA_cons e0 (argV_slc Try.underlying25 _) (absA_cons e1 (argV_slc Try.underlying25 _) (absA_cons e2 (argV_slc Try.underlying25 _) (absA_cons (absD_int' 7 Try.underlying72 x3 _) (argV_int Try.underlying72 _) (absA_cons (absD_int' 7 Try.underlying72 x4 _) (argV_int Try.underlying72 _) (absA_nil _ _ _))))))
  have hrun := law_runX hX (P := Try.prog) (k := 11) kids full inRange hA hval hab (N := 5000) (by
    obtain ⟨m3, rfl⟩ := Int.eq_ofNat_of_zero_le lo3
    obtain ⟨m4, rfl⟩ := Int.eq_ofNat_of_zero_le lo4
    have s2 : SrcH (mkH (bl0 ++ (bl1 ++ (bl2 ++ ([] ++ ([] ++ ([])))))) n2) a2 1 l2 := by
      have := L2.src (pre := bl0 ++ bl1) (post := [] ++ ([] ++ [])) (fun x hx => by
        rcases List.mem_append.1 hx with hx | hx
        · exact Nat.lt_of_lt_of_le (L0.keys x hx).2 L1.1
        · exact (L1.keys x hx).2) (Nat.le_refl _)
      rwa [List.append_assoc] at this
    obtain ⟨h2, this⟩ := law_CrcParts (N := 1000) (E := Edyn Try.prog) enCrc eLaw l0 l1 l2 by0 by1 by2 a0 a1 a2 m3 m4 (by omega) (by omega) (mkH (bl0 ++ (bl1 ++ (bl2 ++ ([] ++ ([] ++ ([])))))) n2) (L0.src (pre := []) (post := bl1 ++ (bl2 ++ ([] ++ ([] ++ [])))) (by simp) (Nat.le_trans L1.1 L2.1)) (L1.src (pre := bl0) (post := bl2 ++ ([] ++ ([] ++ []))) (fun x hx => (L0.keys x hx).2) L2.1) s2
    rw [show (k_purserlaw02_CrcParts : Nat) = 11 from rfl] at this
    rw [this]; rfl)
  exact hrun.mono fun e W' ⟨he, hl⟩ => ⟨_, he, law_post kids full (by rw [Try.params11]; exact inRange) hW' rfl rfl Try.underlying4 rfl hl⟩

theorem proved : Rows.CrcPartsSaid :=
  OpenClaim.holds_of_wide 11 Try.f11 rfl rfl rfl rfl rfl rfl rfl ⟨rfl, rfl, rfl, rfl, rfl⟩ rfl rfl rfl rfl rfl (by kernel_rfl) Try.func11 (by kernel_rfl)
    (of_decide_eq_true (by kernel_rfl)) (by unfold Func.isWrapper; first | (rw [if_pos (by decide +kernel)]; kernel_rfl) | (rw [if_neg (by decide +kernel)]; exact ⟨rfl, rfl⟩))
    (fun os started H enc _ => lifted os started H enc)
end Go.Proofs.Ytgjoaeefnknpfaa.lawCrcParts
