/- NumMade: for every input the call returns true and the arguments read as before. The program is run on abstract heaps (an evaluation that is proved to say what the machine does on every tape, order and capacity), with unknown numbers. No condition. -/
import Derived.Test.YtniiddgjepkmeaaNmD
import Derived.Test.YtniiddgjepkmeaaRows
import Derived.ProofKit
namespace Go.Proofs.Ytniiddgjepkmeaa.lawNumMade
open Go Go.Eng Go.ChangeShapes Go.WideShapes Go.ChangeAt Go.RowKit

theorem own : ownKnob Try.prog.godebug = none := by kernel_rfl
theorem kids : Kids Try.prog (· < Try.prog.types.size) := kids_rows (by kernel_rfl) (by kernel_rfl)
theorem full : ∀ t e, t < Try.prog.types.size → Try.prog.underlying t = some (.slice e) → 0 < Try.prog.cellsOf e := slices_full_of Try.prog (by kernel_rfl)
theorem inRange : ∀ t ∈ [5, 2, 2], t < Try.prog.types.size := by
  intro t ht
  have h : ([5, 2, 2].all fun t => decide (t < Try.prog.types.size)) = true := by kernel_rfl
  exact of_decide_eq_true (List.all_eq_true.1 h t ht)
theorem numE : NumE (Edyn Try.prog) := ⟨by kernel_rfl, by kernel_rfl, by kernel_rfl, by kernel_rfl, by kernel_rfl, by kernel_rfl, by kernel_rfl, by kernel_rfl, by kernel_rfl, by kernel_rfl, by kernel_rfl, by kernel_rfl, by kernel_rfl, by kernel_rfl, by kernel_rfl, by kernel_rfl, by kernel_rfl, by kernel_rfl, by kernel_rfl, by kernel_rfl, by kernel_rfl, by kernel_rfl, by kernel_rfl, by kernel_rfl, by kernel_rfl, by kernel_rfl, by kernel_rfl, by kernel_rfl, by kernel_rfl, by kernel_rfl, by kernel_rfl, by kernel_rfl⟩
theorem numX : NumX (Edyn Try.prog) noX := ⟨by kernel_rfl, by kernel_rfl, by kernel_rfl, by kernel_rfl, by kernel_rfl, fun _ _ _ => rfl, fun _ _ _ => rfl⟩
theorem eLaw : Edyn Try.prog k_purserlaw11_NumMade = some f_purserlaw11_NumMade := by kernel_rfl
theorem eTrue : Edyn Try.prog k_num_True = some f_num_True := by kernel_rfl
theorem eFlag : Edyn Try.prog k_num_Flag = some f_num_Flag := by kernel_rfl
set_option maxRecDepth 1000000 in
theorem alive : isTrue (callN (Edyn Try.prog) 1999 (.fn k_purserlaw11_alive) [] H.empty) = true := by kernel_rfl
theorem hX : QOk Try.prog ⟨id, id, fun _ _ h => h⟩ madeX := madeX_ok (link_dyn Try.prog) numX numE eTrue alive

set_option maxRecDepth 100000 in
theorem lifted (os : Os) (started : os.Started) (H : Type) (enc : TypeId × Value → H) :
    ReturnsInHanded {} Try.checked os 13 .any (Rows.numMadeSpec.pre6 enc Try.prog Try.f13 Rows.numMadeRow.domain false) (Rows.numMadeSpec.post enc Try.prog Try.f13 false true false false) := by
  refine returnsInHanded_of_change (C := Try.checked) own started (by kernel_rfl) Try.func13
    (ChangeSpec.witness6 (enc := enc) (C := Try.checked) false ⟨#[], #[.int .u8 0, .int .i64 0, .int .i64 0], []⟩ 8 (by kernel_rfl) (by kernel_rfl) (by kernel_rfl) (by kernel_rfl)) ?_
  intro W base args ds gs before hval0 hW hcnd _
  have hW' := hW
  obtain ⟨p, q, hA0, hV, _, _, _⟩ := hW
  obtain ⟨rfl, _⟩ := trodVars_none hV
  have hval : ∀ (j : Nat) t v, Try.f13.params.toList[j]? = some t → args.toList[j]? = some v → Value.okWide Try.prog W .any base t v := fun j t v h1 h2 => hval0 j t v (by rw [← Array.getElem?_toList]; exact h1) (by rw [← Array.getElem?_toList]; exact h2)
  rw [Try.params13] at hA0 hval
  have hA : DataW.TrodAll enc Try.prog W 0 (fun _ => true) true [5, 2, 2] args.toList ds p := hA0
  obtain ⟨v0, vs0, d0, ds0, p0, q0, _, rfl, t0, hB0⟩ := Go.Eng.trodAll_cons hA
  obtain ⟨x0, rfl, l0, u0⟩ := Go.Eng.trod_int Try.underlying5 t0
  simp [IntKind.min, IntKind.max, IntKind.signed, IntKind.bits] at l0 u0
  obtain ⟨v1, vs1, d1, ds1, p1, q1, _, rfl, t1, hB1⟩ := Go.Eng.trodAll_cons hB0
  obtain ⟨x1, rfl, l1, u1⟩ := Go.Eng.trod_int Try.underlying2 t1
  simp [IntKind.min, IntKind.max, IntKind.signed, IntKind.bits] at l1 u1
  obtain ⟨v2, vs2, d2, ds2, p2, q2, _, rfl, t2, hB2⟩ := Go.Eng.trodAll_cons hB1
  obtain ⟨x2, rfl, l2, u2⟩ := Go.Eng.trod_int Try.underlying2 t2
  simp [IntKind.min, IntKind.max, IntKind.signed, IntKind.bits] at l2 u2
  obtain rfl := Go.Eng.trodAll_end hB2
  have hrun := law_runX hX (P := Try.prog) (k := 13) kids full inRange hA hval (n := 1) (avs := [.int .u8 x0, .int .i64 x1, .int .i64 x2]) (bl := []) (nx := 0) (by simp only [absA, absD, argV, Try.underlying5, Try.underlying2]; rfl) (N := 2000) (by
    obtain ⟨h2, this⟩ := law_NumMade (E := Edyn Try.prog) madeX_is eLaw eFlag x0 x1 x2 (mkH [] 0)
    rw [show (k_purserlaw11_NumMade : Nat) = 13 from rfl] at this
    rw [this]; rfl)
  exact hrun.mono fun e W' ⟨he, hl⟩ => ⟨_, he, law_post kids full (by rw [Try.params13]; exact inRange) hW' rfl rfl Try.underlying4 rfl hl⟩

theorem proved : Rows.NumMadeSaid :=
  OpenClaim.holds_of_wide 13 Try.f13 rfl rfl rfl rfl rfl rfl rfl ⟨rfl, rfl, rfl, rfl, rfl⟩ rfl rfl rfl rfl rfl (by kernel_rfl) Try.func13 (by kernel_rfl)
    (of_decide_eq_true (by kernel_rfl)) (by unfold Func.isWrapper; first | (rw [if_pos (by decide +kernel)]; kernel_rfl) | (rw [if_neg (by decide +kernel)]; exact ⟨rfl, rfl⟩))
    (fun os started H enc _ => lifted os started H enc)
end Go.Proofs.Ytniiddgjepkmeaa.lawNumMade
