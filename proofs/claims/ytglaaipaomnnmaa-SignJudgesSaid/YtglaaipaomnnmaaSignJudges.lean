/- SignJudges: for every input the call returns true and the arguments read as before. The program is run on abstract heaps (an evaluation that is proved to say what the machine does on every tape, order and capacity), with unknown numbers. No condition. -/
import Derived.Test.YtglaaipaomnnmaaSjA
import Derived.Test.YtglaaipaomnnmaaRows
import Derived.ProofKit
namespace Go.Proofs.Ytglaaipaomnnmaa.lawSignJudges
open Go Go.Eng Go.ChangeShapes Go.WideShapes Go.ChangeAt Go.RowKit

theorem own : ownKnob Try.prog.godebug = none := by kernel_rfl
theorem kids : Kids Try.prog (· < Try.prog.types.size) := kids_rows (by kernel_rfl) (by kernel_rfl)
theorem full : ∀ t e, t < Try.prog.types.size → Try.prog.underlying t = some (.slice e) → 0 < Try.prog.cellsOf e := slices_full_of Try.prog (by kernel_rfl)
theorem inRange : ∀ t ∈ [22, 22, 25], t < Try.prog.types.size := by
  intro t ht
  have h : ([22, 22, 25].all fun t => decide (t < Try.prog.types.size)) = true := by kernel_rfl
  exact of_decide_eq_true (List.all_eq_true.1 h t ht)
theorem enSha : EnSha (Edyn Try.prog) := ⟨by kernel_rfl, by kernel_rfl, by kernel_rfl, by kernel_rfl, by kernel_rfl, by kernel_rfl, by kernel_rfl, by kernel_rfl, by kernel_rfl, by kernel_rfl, by kernel_rfl, by kernel_rfl, by kernel_rfl⟩
theorem eOf : Edyn Try.prog k_sha_Of = some f_sha_Of := by kernel_rfl
theorem enSign : EnSign (Edyn Try.prog) := ⟨by kernel_rfl, by kernel_rfl, by kernel_rfl, by kernel_rfl⟩
theorem enRf : EnRf (Edyn Try.prog) := ⟨by kernel_rfl, by kernel_rfl, by kernel_rfl, by kernel_rfl, by kernel_rfl⟩
theorem enRs : EnRs (Edyn Try.prog) := ⟨by kernel_rfl, by kernel_rfl⟩
theorem eRis : Edyn Try.prog k_purserref09_Is = some f_purserref09_Is := by kernel_rfl
theorem eLaw : Edyn Try.prog k_purserlaw09_SignJudges = some f_purserlaw09_SignJudges := by kernel_rfl
theorem hO : QOk Try.prog ⟨id, id, fun _ _ h => h⟩ ofX1 := ofX_ok (link_dyn Try.prog) enSha eOf
theorem hR : QOk Try.prog ⟨id, id, fun _ _ h => h⟩ rofX := rofX_ok (link_dyn Try.prog) enRf
theorem hX : QOk Try.prog ⟨id, id, fun _ _ h => h⟩ sjX := orX_ok hR (orX_ok (rpubX_ok (link_dyn Try.prog) enRs hR) (orX_ok (rsignX_ok (link_dyn Try.prog) enRs hR) hO))

set_option maxRecDepth 100000 in
theorem lifted (os : Os) (started : os.Started) (H : Type) (enc : TypeId × Value → H) :
    ReturnsInHanded {} Try.checked os 11 .any (Rows.signJudgesSpec.pre6 enc Try.prog Try.f11 Rows.signJudgesRow.domain false) (Rows.signJudgesSpec.post enc Try.prog Try.f11 false true false false) := by
  refine returnsInHanded_of_change (C := Try.checked) own started (by kernel_rfl) Try.func11
    (ChangeSpec.witness6 (enc := enc) (C := Try.checked) false ⟨#[], #[.slice none 0 0, .slice none 0 0, .agg #[.int .u8 0, .int .u8 0, .int .u8 0, .int .u8 0, .int .u8 0, .int .u8 0, .int .u8 0, .int .u8 0, .int .u8 0, .int .u8 0, .int .u8 0, .int .u8 0, .int .u8 0, .int .u8 0, .int .u8 0, .int .u8 0, .int .u8 0, .int .u8 0, .int .u8 0, .int .u8 0, .int .u8 0, .int .u8 0, .int .u8 0, .int .u8 0, .int .u8 0, .int .u8 0, .int .u8 0, .int .u8 0, .int .u8 0, .int .u8 0, .int .u8 0, .int .u8 0]], []⟩ 8 (by kernel_rfl) (by kernel_rfl) (by kernel_rfl) (by kernel_rfl)) ?_
  intro W base args ds gs before hval0 hW hcnd _
  have hW' := hW
  obtain ⟨p, q, hA0, hV, _, _, _⟩ := hW
  obtain ⟨rfl, _⟩ := trodVars_none hV
  have hval : ∀ (j : Nat) t v, Try.f11.params.toList[j]? = some t → args.toList[j]? = some v → Value.okWide Try.prog W .any base t v := fun j t v h1 h2 => hval0 j t v (by rw [← Array.getElem?_toList]; exact h1) (by rw [← Array.getElem?_toList]; exact h2)
  rw [Try.params11] at hA0 hval
  have hA : DataW.TrodAll enc Try.prog W 0 (fun _ => true) true [22, 22, 25] args.toList ds p := hA0
  obtain ⟨v0, vs0, d0, ds0, p0, q0, _, rfl, t0, hB0⟩ := Go.Eng.trodAll_cons hA
  obtain ⟨l0, by0, r0⟩ := Go.Eng.trod_u8s Try.underlying22 Try.underlying5 (by kernel_rfl) t0
  obtain ⟨a0, bl0, n0, e0, L0⟩ := r0 6 0
  obtain ⟨v1, vs1, d1, ds1, p1, q1, _, rfl, t1, hB1⟩ := Go.Eng.trodAll_cons hB0
  obtain ⟨l1, by1, r1⟩ := Go.Eng.trod_u8s Try.underlying22 Try.underlying5 (by kernel_rfl) t1
  obtain ⟨a1, bl1, n1, e1, L1⟩ := r1 6 n0
  obtain ⟨v2, vs2, d2, ds2, p2, q2, _, rfl, t2, hB2⟩ := Go.Eng.trodAll_cons hB1
  obtain ⟨s2, hs2, by2, r2⟩ := Go.Eng.trod_hash Try.underlying25 Try.underlying5 t2
  obtain rfl := Go.Eng.trodAll_end hB2
  have hab : absA Try.prog 8 [22, 22, 25] _ 0 = some ([.slice a0 l0.length none 1, .slice a1 l1.length none 1, .agg (ofI .u8 s2)], bl0 ++ (bl1 ++ ([] ++ ([]))), n1) := (absA_cons e0 (argV_slc Try.underlying22 _) (absA_cons e1 (argV_slc Try.underlying22 _) (absA_cons (r2 6 _) (argV_arr Try.underlying25 _) (absA_nil _ _ _))))
  have hrun := law_runX hX (P := Try.prog) (k := 11) kids full inRange hA hval hab (N := 1000) (by
    obtain ⟨h2, this⟩ := law_SignJudges (E := Edyn Try.prog) 898 eLaw eRis enSign l0 l1 s2 by0 by1 hs2 by2 a0 a1 (mkH (bl0 ++ (bl1 ++ ([] ++ ([])))) n1) (L0.src (pre := []) (post := bl1 ++ ([] ++ [])) (by simp) L1.1) (L1.src (pre := bl0) (post := [] ++ []) (fun x hx => (L0.keys x hx).2) (Nat.le_refl _))
    rw [show (k_purserlaw09_SignJudges : Nat) = 11 from rfl] at this
    rw [this]; rfl)
  exact hrun.mono fun e W' ⟨he, hl⟩ => ⟨_, he, law_post kids full (by rw [Try.params11]; exact inRange) hW' rfl rfl Try.underlying4 rfl hl⟩

theorem proved : Rows.SignJudgesSaid :=
  OpenClaim.holds_of_wide 11 Try.f11 rfl rfl rfl rfl rfl rfl rfl ⟨rfl, rfl, rfl, rfl, rfl⟩ rfl rfl rfl rfl rfl (by kernel_rfl) Try.func11 (by kernel_rfl)
    (of_decide_eq_true (by kernel_rfl)) (by unfold Func.isWrapper; first | (rw [if_pos (by decide +kernel)]; kernel_rfl) | (rw [if_neg (by decide +kernel)]; exact ⟨rfl, rfl⟩))
    (fun os started H enc _ => lifted os started H enc)
end Go.Proofs.Ytglaaipaomnnmaa.lawSignJudges
