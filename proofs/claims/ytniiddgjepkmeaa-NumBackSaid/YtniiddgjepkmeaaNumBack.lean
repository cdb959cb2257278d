/- NumBack: for every input the call returns true and the arguments read as before. The program is run on abstract heaps (an evaluation that is proved to say what the machine does on every tape, order and capacity), with unknown numbers. No condition. -/
import Derived.Test.YtniiddgjepkmeaaNmG
import Derived.Test.YtniiddgjepkmeaaRows
import Derived.ProofKit
namespace Go.Proofs.Ytniiddgjepkmeaa.lawNumBack
open Go Go.Eng Go.ChangeShapes Go.WideShapes Go.ChangeAt Go.RowKit

theorem own : ownKnob Try.prog.godebug = none := by kernel_rfl
theorem kids : Kids Try.prog (· < Try.prog.types.size) := kids_rows (by kernel_rfl) (by kernel_rfl)
theorem full : ∀ t e, t < Try.prog.types.size → Try.prog.underlying t = some (.slice e) → 0 < Try.prog.cellsOf e := slices_full_of Try.prog (by kernel_rfl)
theorem inRange : ∀ t ∈ [2, 45], t < Try.prog.types.size := by
  intro t ht
  have h : ([2, 45].all fun t => decide (t < Try.prog.types.size)) = true := by kernel_rfl
  exact of_decide_eq_true (List.all_eq_true.1 h t ht)
theorem numX : NumX (Edyn Try.prog) noX := ⟨by kernel_rfl, by kernel_rfl, by kernel_rfl, by kernel_rfl, by kernel_rfl, fun _ _ _ => rfl, fun _ _ _ => rfl⟩
theorem eLaw : Edyn Try.prog k_purserlaw11_NumBack = some f_purserlaw11_NumBack := by kernel_rfl
theorem eTrue : Edyn Try.prog k_num_True = some f_num_True := by kernel_rfl
theorem eDec : Edyn Try.prog k_num_Decode = some f_num_Decode := by kernel_rfl
theorem eNum : Edyn Try.prog k_num_number = some f_num_number := by kernel_rfl
theorem eEq : Edyn Try.prog k_bytes_Equal = some f_bytes_Equal := by kernel_rfl
set_option maxRecDepth 1000000 in
theorem alive : isTrue (callN (Edyn Try.prog) 1999 (.fn k_purserlaw11_alive) [] H.empty) = true := by kernel_rfl
theorem hX : QOk Try.prog ⟨id, id, fun _ _ h => h⟩ backX := backX_ok (link_dyn Try.prog) numX eTrue eDec eNum eEq alive

set_option maxRecDepth 100000 in
theorem lifted (os : Os) (started : os.Started) (H : Type) (enc : TypeId × Value → H) :
    ReturnsInHanded {} Try.checked os 10 .any (Rows.numBackSpec.pre6 enc Try.prog Try.f10 Rows.numBackRow.domain false) (Rows.numBackSpec.post enc Try.prog Try.f10 false true false false) := by
  refine returnsInHanded_of_change (C := Try.checked) own started (by kernel_rfl) Try.func10
    (ChangeSpec.witness6 (enc := enc) (C := Try.checked) false ⟨#[], #[.int .i64 0, .slice none 0 0], []⟩ 8 (by kernel_rfl) (by kernel_rfl) (by kernel_rfl) (by kernel_rfl)) ?_
  intro W base args ds gs before hval0 hW hcnd _
  have hW' := hW
  obtain ⟨p, q, hA0, hV, _, _, _⟩ := hW
  obtain ⟨rfl, _⟩ := trodVars_none hV
  have hval : ∀ (j : Nat) t v, Try.f10.params.toList[j]? = some t → args.toList[j]? = some v → Value.okWide Try.prog W .any base t v := fun j t v h1 h2 => hval0 j t v (by rw [← Array.getElem?_toList]; exact h1) (by rw [← Array.getElem?_toList]; exact h2)
  rw [Try.params10] at hA0 hval
  have hA : DataW.TrodAll enc Try.prog W 0 (fun _ => true) true [2, 45] args.toList ds p := hA0
  obtain ⟨v0, vs0, d0, ds0, p0, q0, _, rfl, t0, hB0⟩ := Go.Eng.trodAll_cons hA
  obtain ⟨x0, rfl, l0, u0⟩ := Go.Eng.trod_int Try.underlying2 t0
  simp [IntKind.min, IntKind.max, IntKind.signed, IntKind.bits] at l0 u0
  obtain ⟨v1, vs1, d1, ds1, p1, q1, _, rfl, t1, hB1⟩ := Go.Eng.trodAll_cons hB0
  obtain ⟨l1, a1, bl, nx, c1, b1, B1⟩ := Go.Eng.trod_bytes Try.underlying45 Try.underlying5 (by kernel_rfl) t1
  obtain rfl := Go.Eng.trodAll_end hB1
  have hrun := law_runX hX (P := Try.prog) (k := 10) kids full inRange hA hval (n := 2) (avs := [.int .i64 x0, .slice a1 l1.length none 1]) (bl := bl) (nx := nx) (by simp only [absA, argV, List.nil_append, List.append_nil, Go.Eng.absD_int Try.prog 1 Try.underlying2, (show absD Try.prog 2 45 d1 0 = _ from b1 0), Try.underlying2, Try.underlying45]) (N := 2000) (by
    obtain ⟨h2, this⟩ := law_NumBack' (E := Edyn Try.prog) backX_is eLaw x0 l1 c1 a1 none (mkH bl nx) B1
    rw [show (k_purserlaw11_NumBack : Nat) = 10 from rfl] at this
    rw [this]; rfl)
  exact hrun.mono fun e W' ⟨he, hl⟩ => ⟨_, he, law_post kids full (by rw [Try.params10]; exact inRange) hW' rfl rfl Try.underlying4 rfl hl⟩

theorem proved : Rows.NumBackSaid :=
  OpenClaim.holds_of_wide 10 Try.f10 rfl rfl rfl rfl rfl rfl rfl ⟨rfl, rfl, rfl, rfl, rfl⟩ rfl rfl rfl rfl rfl (by kernel_rfl) Try.func10 (by kernel_rfl)
    (of_decide_eq_true (by kernel_rfl)) (by unfold Func.isWrapper; first | (rw [if_pos (by decide +kernel)]; kernel_rfl) | (rw [if_neg (by decide +kernel)]; exact ⟨rfl, rfl⟩))
    (fun os started H enc _ => lifted os started H enc)
end Go.Proofs.Ytniiddgjepkmeaa.lawNumBack
