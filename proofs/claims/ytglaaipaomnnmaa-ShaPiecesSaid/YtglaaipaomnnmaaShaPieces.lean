/- ShaPieces: for every input the call returns true and the arguments read as before. The program is run on abstract heaps (an evaluation that is proved to say what the machine does on every tape, order and capacity), with unknown numbers. No condition. -/
import Derived.Test.YtglaaipaomnnmaaSpG
import Derived.Test.YtglaaipaomnnmaaRows
import Derived.ProofKit
import Derived.SizedLaws
namespace Go.Proofs.Ytglaaipaomnnmaa.lawShaPieces
open Go Go.Eng Go.ChangeShapes Go.WideShapes Go.ChangeAt Go.RowKit

theorem own : ownKnob Try.prog.godebug = none := by kernel_rfl
theorem kids : Kids Try.prog (· < Try.prog.types.size) := kids_rows (by kernel_rfl) (by kernel_rfl)
theorem full : ∀ t e, t < Try.prog.types.size → Try.prog.underlying t = some (.slice e) → 0 < Try.prog.cellsOf e := slices_full_of Try.prog (by kernel_rfl)
theorem inRange : ∀ t ∈ [28, 5], t < Try.prog.types.size := by
  intro t ht
  have h : ([28, 5].all fun t => decide (t < Try.prog.types.size)) = true := by kernel_rfl
  exact of_decide_eq_true (List.all_eq_true.1 h t ht)
theorem eLaw : Edyn Try.prog k_purserlaw04_ShaPieces = some f_purserlaw04_ShaPieces := by kernel_rfl
theorem enSha : EnSha (Edyn Try.prog) := ⟨by kernel_rfl, by kernel_rfl, by kernel_rfl, by kernel_rfl, by kernel_rfl, by kernel_rfl, by kernel_rfl, by kernel_rfl, by kernel_rfl, by kernel_rfl, by kernel_rfl, by kernel_rfl, by kernel_rfl⟩
theorem enRf : EnRf (Edyn Try.prog) := ⟨by kernel_rfl, by kernel_rfl, by kernel_rfl, by kernel_rfl, by kernel_rfl⟩
theorem noPc : NoPc rofX := ⟨⟨fun _ _ => rfl, fun _ _ => rfl, fun _ _ => rfl, fun _ _ => rfl, fun _ _ => rfl, fun _ _ => rfl, fun _ _ => rfl, fun _ _ => rfl, fun _ _ => rfl, fun _ _ => rfl, fun _ _ => rfl, fun _ _ => rfl, fun _ _ => rfl, fun _ _ _ => rfl⟩, fun _ _ => rfl, fun _ _ => rfl, fun _ h _ _ e q => bytesX_yes h e q⟩
theorem hX : QOk Try.prog ⟨id, id, fun _ _ h => h⟩ rofX := rofX_ok (link_dyn Try.prog) enRf

set_option maxRecDepth 100000 in
theorem lifted (os : Os) (started : os.Started) (H : Type) (enc : TypeId × Value → H) :
    ReturnsInHanded {} Try.checked os 4 .any (Rows.shaPiecesSpec.pre6 enc Try.prog Try.f4 Rows.shaPiecesRow.domain false) (Rows.shaPiecesSpec.post enc Try.prog Try.f4 false true false false) := by
  refine returnsInHanded_of_change_sized (C := Try.checked) own started (by kernel_rfl) Try.func4
    (ChangeSpec.witness6 (enc := enc) (C := Try.checked) false ⟨#[], #[.slice none 0 0, .int .u8 0], []⟩ 8 (by kernel_rfl) (by kernel_rfl) (by kernel_rfl) (by kernel_rfl)) ?_
  intro W base args ds gs before hval0 hW hcnd hsz _
  have hW' := hW
  obtain ⟨p, q, hA0, hV, _, _, _⟩ := hW
  obtain ⟨rfl, _⟩ := trodVars_none hV
  have hval : ∀ (j : Nat) t v, Try.f4.params.toList[j]? = some t → args.toList[j]? = some v → Value.okWide Try.prog W .any base t v := fun j t v h1 h2 => hval0 j t v (by rw [← Array.getElem?_toList]; exact h1) (by rw [← Array.getElem?_toList]; exact h2)
  rw [Try.params4] at hA0 hval hsz
  have hwt : ∀ (j : Nat) (t : TypeId) (d : DataW H), ([28, 5] : List TypeId)[j]? = some t → ds[j]? = some d → ∀ n ∈ d.weights Try.prog t, n ≤ reachBytes := fun j t d h1 h2 n hn => by
    have h3 := List.all_eq_true.1 hsz n (by rw [show Rows.shaPiecesSpec.plain.varTypes Try.checked.prog = [] from rfl, List.append_nil, List.append_nil]; exact DataW.weights_mem_each (j := j) h1 h2 n hn)
    simpa using h3
  have hA : DataW.TrodAll enc Try.prog W 0 (fun _ => true) true [28, 5] args.toList ds p := hA0
  obtain ⟨v0, vs0, d0, ds0, p0, q0, _, rfl, t0, hB0⟩ := Go.Eng.trodAll_cons hA
  obtain ⟨f0, tf0⟩ := id t0
  obtain ⟨l0, by0, wt0, r0⟩ := Go.Eng.trod_bss (P := Try.prog) Try.underlying28 Try.underlying22 Try.underlying5 (by kernel_rfl) (by kernel_rfl) t0
  obtain ⟨vs0', bl0, n0, e0, L0, R0⟩ := r0 4 0
  obtain ⟨v1, vs1, d1, ds1, p1, q1, _, rfl, t1, hB1⟩ := Go.Eng.trodAll_cons hB0
  obtain ⟨x1, rfl, lo1, up1⟩ := Go.Eng.trod_int Try.underlying5 t1
  simp [IntKind.min, IntKind.max, IntKind.signed, IntKind.bits] at lo1 up1
  obtain rfl := Go.Eng.trodAll_end hB1
  have lay := (LayB.app L0 (LayB.app (LayB.nil _) (LayB.nil _)))
  have has := has_mk lay
  obtain ⟨a0, rfl, S0⟩ := R0 _ (has.l)
  have hab : absA Try.prog 8 [28, 5] _ 0 = some ([.slice a0 l0.length none 1, .int .u8 x1], bl0 ++ ([] ++ ([])), n0) := (absA_cons e0 (argV_slc Try.underlying28 _) (absA_cons (absD_int' 7 Try.underlying5 x1 _) (argV_int Try.underlying5 _) (absA_nil _ _ _)))
  have hrun := law_runX hX (P := Try.prog) (k := 4) kids full inRange hA hval hab (N := 9082) (by
    obtain ⟨hB1, hB2⟩ := wt0 (by kernel_rfl) (by kernel_rfl) reachBytes (hwt 0 _ _ rfl rfl)
    obtain ⟨cd, rfl⟩ := Int.eq_ofNat_of_zero_le lo1
    have hR : reachBytes < 9223372036854775807 := by decide
    obtain ⟨h2, this⟩ := law_ShaPieces (E := Edyn Try.prog) (X := rofX) ⟨enSha, by kernel_rfl, by kernel_rfl⟩ noPc eLaw (fun _ _ => rfl) 9000 (by decide) l0 by0 cd (by omega) (Nat.lt_of_le_of_lt hB1 hR) (fun l hl => Nat.lt_of_le_of_lt (hB2 l hl) hR) a0 (mkH (bl0 ++ ([] ++ ([]))) n0) S0
    rw [show (k_purserlaw04_ShaPieces : Nat) = 4 from rfl] at this
    rw [this]; rfl)
  exact hrun.mono fun e W' ⟨he, hl⟩ => ⟨_, he, law_post kids full (by rw [Try.params4]; exact inRange) hW' rfl rfl Try.underlying4 rfl hl⟩

theorem proved : Rows.ShaPiecesSaid :=
  OpenClaim.holds_of_wide 4 Try.f4 rfl rfl rfl rfl rfl rfl rfl ⟨rfl, rfl, rfl, rfl, rfl⟩ rfl rfl rfl rfl rfl (by kernel_rfl) Try.func4 (by kernel_rfl)
    (of_decide_eq_true (by kernel_rfl)) (by unfold Func.isWrapper; first | (rw [if_pos (by decide +kernel)]; kernel_rfl) | (rw [if_neg (by decide +kernel)]; exact ⟨rfl, rfl⟩))
    (fun os started H enc _ => lifted os started H enc)
end Go.Proofs.Ytglaaipaomnnmaa.lawShaPieces
