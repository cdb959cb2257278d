/- NumForms: for every input the call returns true and the arguments read as before. The program is run on abstract heaps (an evaluation that is proved to say what the machine does on every tape, order and capacity), with unknown numbers. No condition. -/
import Derived.Test.YtniiddgjepkmeaaNnK
import Derived.Test.YtniiddgjepkmeaaRows
import Derived.ProofKit
namespace Go.Proofs.Ytniiddgjepkmeaa.lawNumForms
open Go Go.Eng Go.ChangeShapes Go.WideShapes Go.ChangeAt Go.RowKit

theorem own : ownKnob Try.prog.godebug = none := by kernel_rfl
theorem kids : Kids Try.prog (· < Try.prog.types.size) := kids_rows (by kernel_rfl) (by kernel_rfl)
theorem full : ∀ t e, t < Try.prog.types.size → Try.prog.underlying t = some (.slice e) → 0 < Try.prog.cellsOf e := slices_full_of Try.prog (by kernel_rfl)
theorem inRange : ∀ t ∈ [2, 45, 4], t < Try.prog.types.size := by
  intro t ht
  have h : ([2, 45, 4].all fun t => decide (t < Try.prog.types.size)) = true := by kernel_rfl
  exact of_decide_eq_true (List.all_eq_true.1 h t ht)
theorem numX : NumX (Edyn Try.prog) noX := ⟨by kernel_rfl, by kernel_rfl, by kernel_rfl, by kernel_rfl, by kernel_rfl, fun _ _ _ => rfl, fun _ _ _ => rfl⟩
theorem formE : FormE (Edyn Try.prog) := ⟨by kernel_rfl, by kernel_rfl, by kernel_rfl, by kernel_rfl, by kernel_rfl⟩
theorem eTrue : Edyn Try.prog k_num_True = some f_num_True := by kernel_rfl
theorem eDec : Edyn Try.prog k_num_Decode = some f_num_Decode := by kernel_rfl
theorem eNum : Edyn Try.prog k_num_number = some f_num_number := by kernel_rfl
theorem eEq : Edyn Try.prog k_bytes_Equal = some f_bytes_Equal := by kernel_rfl
theorem rEnc : Edyn Try.prog k_purserref11_Encode = some f_purserref11_Encode := by kernel_rfl
theorem rTrue : Edyn Try.prog k_purserref11_True = some f_purserref11_True := by kernel_rfl
theorem rDec : Edyn Try.prog k_purserref11_Decode = some f_purserref11_Decode := by kernel_rfl
theorem hX : QOk Try.prog ⟨id, id, fun _ _ h => h⟩ formX := formX_ok (link_dyn Try.prog) numX eTrue eDec eNum eEq rEnc formE.rB rTrue rDec

set_option maxRecDepth 100000 in
theorem lifted (os : Os) (started : os.Started) (H : Type) (enc : TypeId × Value → H) :
    ReturnsInHanded {} Try.checked os 8 .any (Rows.numFormsSpec.pre6 enc Try.prog Try.f8 Rows.numFormsRow.domain false) (Rows.numFormsSpec.post enc Try.prog Try.f8 false true false false) := by
  refine returnsInHanded_of_change (C := Try.checked) own started (by kernel_rfl) Try.func8
    (ChangeSpec.witness6 (enc := enc) (C := Try.checked) false ⟨#[], #[.int .i64 0, .slice none 0 0, .bool false], []⟩ 8 (by kernel_rfl) (by kernel_rfl) (by kernel_rfl) (by kernel_rfl)) ?_
  intro W base args ds gs before hval0 hW hcnd _
  have hW' := hW
  obtain ⟨p, q, hA0, hV, _, _, _⟩ := hW
  obtain ⟨rfl, _⟩ := trodVars_none hV
  have hval : ∀ (j : Nat) t v, Try.f8.params.toList[j]? = some t → args.toList[j]? = some v → Value.okWide Try.prog W .any base t v := fun j t v h1 h2 => hval0 j t v (by rw [← Array.getElem?_toList]; exact h1) (by rw [← Array.getElem?_toList]; exact h2)
  rw [Try.params8] at hA0 hval
  have hA : DataW.TrodAll enc Try.prog W 0 (fun _ => true) true [2, 45, 4] args.toList ds p := hA0
  obtain ⟨v0, vs0, d0, ds0, p0, q0, _, rfl, t0, hB0⟩ := Go.Eng.trodAll_cons hA
  obtain ⟨x0, rfl, l0, u0⟩ := Go.Eng.trod_int Try.underlying2 t0
  simp [IntKind.min, IntKind.max, IntKind.signed, IntKind.bits] at l0 u0
  obtain ⟨v1, vs1, d1, ds1, p1, q1, _, rfl, t1, hB1⟩ := Go.Eng.trodAll_cons hB0
  obtain ⟨l1, a1, bl, nx, c1, b1, B1⟩ := Go.Eng.trod_bytes Try.underlying45 Try.underlying5 (by kernel_rfl) t1
  obtain ⟨v2, vs2, d2, ds2, p2, q2, _, rfl, t2, hB2⟩ := Go.Eng.trodAll_cons hB1
  obtain ⟨x2, rfl⟩ := Go.Eng.trod_bool Try.underlying4 t2
  obtain rfl := Go.Eng.trodAll_end hB2
  have hrun := law_runX hX (P := Try.prog) (k := 8) kids full inRange hA hval (n := 2) (avs := [.int .i64 x0, .slice a1 l1.length none 1, .bool x2]) (bl := bl) (nx := nx) (by simp only [absA, argV, List.nil_append, List.append_nil, Go.Eng.absD_int Try.prog 1 Try.underlying2, (show absD Try.prog 2 45 d1 0 = _ from b1 0), Go.Eng.absD_bool Try.prog 1 Try.underlying4, Try.underlying2, Try.underlying45, Try.underlying4]) (N := 2000) (by
    obtain ⟨h2, this⟩ := law_NumForms (E := Edyn Try.prog) formX_is formE x0 l1 c1 a1 x2 (mkH bl nx) B1
    rw [show (k_purserlaw11_NumForms : Nat) = 8 from rfl] at this
    rw [this]; rfl)
  exact hrun.mono fun e W' ⟨he, hl⟩ => ⟨_, he, law_post kids full (by rw [Try.params8]; exact inRange) hW' rfl rfl Try.underlying4 rfl hl⟩

theorem proved : Rows.NumFormsSaid :=
  OpenClaim.holds_of_wide 8 Try.f8 rfl rfl rfl rfl rfl rfl rfl ⟨rfl, rfl, rfl, rfl, rfl⟩ rfl rfl rfl rfl rfl (by kernel_rfl) Try.func8 (by kernel_rfl)
    (of_decide_eq_true (by kernel_rfl)) (by unfold Func.isWrapper; first | (rw [if_pos (by decide +kernel)]; kernel_rfl) | (rw [if_neg (by decide +kernel)]; exact ⟨rfl, rfl⟩))
    (fun os started H enc _ => lifted os started H enc)
end Go.Proofs.Ytniiddgjepkmeaa.lawNumForms
