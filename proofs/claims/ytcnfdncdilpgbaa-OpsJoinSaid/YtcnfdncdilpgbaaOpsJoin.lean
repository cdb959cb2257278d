/- OpsJoin: for every input the call returns true and the arguments read as before. The program is run on abstract heaps (an evaluation that is proved to say what the machine does on every tape, order and capacity), with unknown numbers. No condition. -/
import Derived.Test.YtcnfdncdilpgbaaOjC
import Derived.Test.YtcnfdncdilpgbaaRows
import Derived.ProofKit
import Derived.SizedLaws
namespace Go.Proofs.Ytcnfdncdilpgbaa.lawOpsJoin
open Go Go.Eng Go.ChangeShapes Go.WideShapes Go.ChangeAt Go.RowKit

theorem own : ownKnob Try.prog.godebug = none := by kernel_rfl
theorem kids : Kids Try.prog (· < Try.prog.types.size) := kids_rows (by kernel_rfl) (by kernel_rfl)
theorem full : ∀ t e, t < Try.prog.types.size → Try.prog.underlying t = some (.slice e) → 0 < Try.prog.cellsOf e := slices_full_of Try.prog (by kernel_rfl)
theorem inRange : ∀ t ∈ [23, 23, 22], t < Try.prog.types.size := by
  intro t ht
  have h : ([23, 23, 22].all fun t => decide (t < Try.prog.types.size)) = true := by kernel_rfl
  exact of_decide_eq_true (List.all_eq_true.1 h t ht)
theorem eLaw : Edyn Try.prog k_purserlaw10_OpsJoin = some f_purserlaw10_OpsJoin := by kernel_rfl
theorem enOp : EnOp (Edyn Try.prog) := ⟨by kernel_rfl, by kernel_rfl, by kernel_rfl, by kernel_rfl, by kernel_rfl, by kernel_rfl, by kernel_rfl, by kernel_rfl, by kernel_rfl, by kernel_rfl, by kernel_rfl, by kernel_rfl⟩
theorem enRo : EnRo (Edyn Try.prog) := ⟨by kernel_rfl, by kernel_rfl, by kernel_rfl, by kernel_rfl, by kernel_rfl, by kernel_rfl, by kernel_rfl⟩
theorem hX : QOk Try.prog ⟨id, id, fun _ _ h => h⟩ noX := noX_ok

set_option maxRecDepth 100000 in
theorem lifted (os : Os) (started : os.Started) (H : Type) (enc : TypeId × Value → H) :
    ReturnsInHanded {} Try.checked os 4 .any (Rows.opsJoinSpec.pre6 enc Try.prog Try.f4 Rows.opsJoinRow.domain false) (Rows.opsJoinSpec.post enc Try.prog Try.f4 false true false false) := by
  refine returnsInHanded_of_change_sized (C := Try.checked) own started (by kernel_rfl) Try.func4
    (ChangeSpec.witness6 (enc := enc) (C := Try.checked) false ⟨#[], #[.slice none 0 0, .slice none 0 0, .slice none 0 0], []⟩ 8 (by kernel_rfl) (by kernel_rfl) (by kernel_rfl) (by kernel_rfl)) ?_
  intro W base args ds gs before hval0 hW hcnd hsz _
  have hW' := hW
  obtain ⟨p, q, hA0, hV, _, _, _⟩ := hW
  obtain ⟨rfl, _⟩ := trodVars_none hV
  have hval : ∀ (j : Nat) t v, Try.f4.params.toList[j]? = some t → args.toList[j]? = some v → Value.okWide Try.prog W .any base t v := fun j t v h1 h2 => hval0 j t v (by rw [← Array.getElem?_toList]; exact h1) (by rw [← Array.getElem?_toList]; exact h2)
  rw [Try.params4] at hA0 hval hsz
  have hwt : ∀ (j : Nat) (t : TypeId) (d : DataW H), ([23, 23, 22] : List TypeId)[j]? = some t → ds[j]? = some d → ∀ n ∈ d.weights Try.prog t, n ≤ reachBytes := fun j t d h1 h2 n hn => by
    have h3 := List.all_eq_true.1 hsz n (by rw [show Rows.opsJoinSpec.plain.varTypes Try.checked.prog = [] from rfl, List.append_nil, List.append_nil]; exact DataW.weights_mem_each (j := j) h1 h2 n hn)
    simpa using h3
  have hA : DataW.TrodAll enc Try.prog W 0 (fun _ => true) true [23, 23, 22] args.toList ds p := hA0
  obtain ⟨v0, vs0, d0, ds0, p0, q0, _, rfl, t0, hB0⟩ := Go.Eng.trodAll_cons hA
  obtain ⟨f0, tf0⟩ := id t0
  obtain ⟨l0, by0, wt0, r0⟩ := Go.Eng.trod_oqs (P := Try.prog) Try.underlying23 Try.underlying32 Try.underlying5 Try.underlying22 Try.underlying5 (by kernel_rfl) (by kernel_rfl) t0
  obtain ⟨vs0', bl0, n0, e0, L0, R0⟩ := r0 4 0
  obtain ⟨v1, vs1, d1, ds1, p1, q1, _, rfl, t1, hB1⟩ := Go.Eng.trodAll_cons hB0
  obtain ⟨f1, tf1⟩ := id t1
  obtain ⟨l1, by1, wt1, r1⟩ := Go.Eng.trod_oqs (P := Try.prog) Try.underlying23 Try.underlying32 Try.underlying5 Try.underlying22 Try.underlying5 (by kernel_rfl) (by kernel_rfl) t1
  obtain ⟨vs1', bl1, n1, e1, L1, R1⟩ := r1 4 n0
  obtain ⟨v2, vs2, d2, ds2, p2, q2, _, rfl, t2, hB2⟩ := Go.Eng.trodAll_cons hB1
  obtain ⟨f2, tf2⟩ := id t2
  obtain ⟨l2, by2, wt2, r2⟩ := Go.Eng.trod_u8s' Try.underlying22 Try.underlying5 (by kernel_rfl) tf2
  obtain ⟨vs2', bl2, n2, e2, L2, R2⟩ := r2 6 n1
  obtain rfl := Go.Eng.trodAll_end hB2
  have lay := (LayB.app L0 (LayB.app L1 (LayB.app L2 (LayB.nil _))))
  have has := has_mk lay
  obtain ⟨a0, rfl, S0⟩ := R0 _ (has.l)
  obtain ⟨a1, rfl, S1⟩ := R1 _ (has.r.l)
  obtain ⟨a2, rfl, S2⟩ := R2 _ (has.r.r.l)
  have hab : absA Try.prog 8 [23, 23, 22] _ 0 = some ([.slice a0 l0.length none 2, .slice a1 l1.length none 2, .slice a2 l2.length none 1], bl0 ++ (bl1 ++ (bl2 ++ ([]))), n2) := (absA_cons e0 (argV_slc Try.underlying23 _) (absA_cons e1 (argV_slc Try.underlying23 _) (absA_cons e2 (argV_slc Try.underlying22 _) (absA_nil _ _ _))))
  have hrun := law_runX hX (P := Try.prog) (k := 4) kids full inRange hA hval hab (N := 120000 + l0.length + l1.length + 201) (by
    obtain ⟨hB1, hB2⟩ := wt0 (by kernel_rfl) (by kernel_rfl) reachBytes (hwt 0 _ _ rfl rfl)
    obtain ⟨hC1, hC2⟩ := wt1 (by kernel_rfl) (by kernel_rfl) reachBytes (hwt 1 _ _ rfl rfl)
    obtain ⟨h2, this⟩ := law_OpsJoin (E := Edyn Try.prog) (X := noX) ⟨enOp, enRo, by kernel_rfl, by kernel_rfl, by kernel_rfl⟩ no_oj eLaw (fun _ _ => rfl) 120000 (by decide) l0 l1 by0 by1 reachBytes (by decide) hB1 hB2 hC1 hC2 l2 by2 a0 a1 a2 (mkH (bl0 ++ (bl1 ++ (bl2 ++ ([])))) n2) S0 S1 S2
    rw [show (k_purserlaw10_OpsJoin : Nat) = 4 from rfl] at this
    rw [this]; rfl)
  exact hrun.mono fun e W' ⟨he, hl⟩ => ⟨_, he, law_post kids full (by rw [Try.params4]; exact inRange) hW' rfl rfl Try.underlying4 rfl hl⟩

theorem proved : Rows.OpsJoinSaid :=
  OpenClaim.holds_of_wide 4 Try.f4 rfl rfl rfl rfl rfl rfl rfl ⟨rfl, rfl, rfl, rfl, rfl⟩ rfl rfl rfl rfl rfl (by kernel_rfl) Try.func4 (by kernel_rfl)
    (of_decide_eq_true (by kernel_rfl)) (by unfold Func.isWrapper; first | (rw [if_pos (by decide +kernel)]; kernel_rfl) | (rw [if_neg (by decide +kernel)]; exact ⟨rfl, rfl⟩))
    (fun os started H enc _ => lifted os started H enc)
end Go.Proofs.Ytcnfdncdilpgbaa.lawOpsJoin
