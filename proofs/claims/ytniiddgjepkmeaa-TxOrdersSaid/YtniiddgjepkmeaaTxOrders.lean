/- TxOrders: for every input the call returns true and the arguments read as before. The program is run on abstract heaps (an evaluation that is proved to say what the machine does on every tape, order and capacity), with unknown numbers. No condition. -/
import Derived.Test.YtniiddgjepkmeaaOpA
import Derived.Test.YtniiddgjepkmeaaShelf
import Derived.Test.YtniiddgjepkmeaaCmp
import Derived.Test.YtniiddgjepkmeaaRows
import Derived.ProofKit
namespace Go.Proofs.Ytniiddgjepkmeaa.lawTxOrders
open Go Go.Eng Go.ChangeShapes Go.WideShapes Go.ChangeAt Go.RowKit

theorem own : ownKnob Try.prog.godebug = none := by kernel_rfl
theorem kids : Kids Try.prog (· < Try.prog.types.size) := kids_rows (by kernel_rfl) (by kernel_rfl)
theorem full : ∀ t e, t < Try.prog.types.size → Try.prog.underlying t = some (.slice e) → 0 < Try.prog.cellsOf e := slices_full_of Try.prog (by kernel_rfl)
theorem inRange : ∀ t ∈ [41, 41], t < Try.prog.types.size := by
  intro t ht
  have h : ([41, 41].all fun t => decide (t < Try.prog.types.size)) = true := by kernel_rfl
  exact of_decide_eq_true (List.all_eq_true.1 h t ht)
theorem txE : TxE (Edyn Try.prog) := ⟨by kernel_rfl, by kernel_rfl, by kernel_rfl⟩
theorem eLaw : Edyn Try.prog k_purserlaw06_TxOrders = some f_purserlaw06_TxOrders := by kernel_rfl
theorem eRef : Edyn Try.prog k_purserref06_Compare = some f_purserref06_Compare := by kernel_rfl
theorem repOk : QOk Try.prog g0 (pureX 64 repS) := repX_ok (Go.Proofs.enters_of Try.func64 (by kernel_rfl) rfl) (fun s c w h1 h2 => Go.Proofs.Try.strings_Repeat s c w h1 h2)
theorem cmpOk : QOk Try.prog g0 (bcmpX k_bytes_Compare) := bcmpX_ok (Go.Proofs.enters_of Try.func60 (by kernel_rfl) rfl) Go.Proofs.Try.bytes_Compare
theorem baseOk : QOk Try.prog g0 (baseO 64) := orX_ok cmpOk repOk
theorem txOk : QOk Try.prog g0 (txX 64) := txX_ok (link_dyn Try.prog) txE baseOk rfl rfl rfl rfl
theorem hX : QOk Try.prog g0 (refX 64) := refX_ok (link_dyn Try.prog) txE eRef txOk (fun args h => (orX_r (pureX_no h rfl)).trans (baseO_no args h rfl rfl))

set_option maxRecDepth 100000 in
theorem lifted (os : Os) (started : os.Started) (H : Type) (enc : TypeId × Value → H) :
    ReturnsInHanded {} Try.checked os 6 .any (Rows.txOrdersSpec.pre6 enc Try.prog Try.f6 Rows.txOrdersRow.domain false) (Rows.txOrdersSpec.post enc Try.prog Try.f6 false true false false) := by
  refine returnsInHanded_of_change (C := Try.checked) own started (by kernel_rfl) Try.func6
    (ChangeSpec.witness6 (enc := enc) (C := Try.checked) false ⟨#[], #[.agg #[.int .u8 0, .int .u8 0, .int .u8 0, .int .u8 0, .int .u8 0, .int .u8 0, .int .u8 0, .int .u8 0, .int .u8 0, .int .u8 0, .int .u8 0, .int .u8 0, .int .u8 0, .int .u8 0, .int .u8 0, .int .u8 0, .int .u8 0, .int .u8 0, .int .u8 0, .int .u8 0, .int .u8 0, .int .u8 0, .int .u8 0, .int .u8 0, .int .u8 0, .int .u8 0, .int .u8 0, .int .u8 0, .int .u8 0, .int .u8 0, .int .u8 0, .int .u8 0, .int .u32 0], .agg #[.int .u8 0, .int .u8 0, .int .u8 0, .int .u8 0, .int .u8 0, .int .u8 0, .int .u8 0, .int .u8 0, .int .u8 0, .int .u8 0, .int .u8 0, .int .u8 0, .int .u8 0, .int .u8 0, .int .u8 0, .int .u8 0, .int .u8 0, .int .u8 0, .int .u8 0, .int .u8 0, .int .u8 0, .int .u8 0, .int .u8 0, .int .u8 0, .int .u8 0, .int .u8 0, .int .u8 0, .int .u8 0, .int .u8 0, .int .u8 0, .int .u8 0, .int .u8 0, .int .u32 0]], []⟩ 8 (by kernel_rfl) (by kernel_rfl) (by kernel_rfl) (by kernel_rfl)) ?_
  intro W base args ds gs before hval0 hW hcnd _
  have hW' := hW
  obtain ⟨p, q, hA0, hV, _, _, _⟩ := hW
  obtain ⟨rfl, _⟩ := trodVars_none hV
  have hval : ∀ (j : Nat) t v, Try.f6.params.toList[j]? = some t → args.toList[j]? = some v → Value.okWide Try.prog W .any base t v := fun j t v h1 h2 => hval0 j t v (by rw [← Array.getElem?_toList]; exact h1) (by rw [← Array.getElem?_toList]; exact h2)
  rw [Try.params6] at hA0 hval
  have hA : DataW.TrodAll enc Try.prog W 0 (fun _ => true) true [41, 41] args.toList ds p := hA0
  obtain ⟨v0, vs0, d0, ds0, p0, q0, _, rfl, t0, hB0⟩ := Go.Eng.trodAll_cons hA
  obtain ⟨s0, m0, k0, a0⟩ := Go.Eng.trod_op Try.underlying41 rfl rfl Try.underlying38 Try.underlying5 Try.underlying39 t0
  have b0 : ∀ nx, absD Try.prog 3 41 d0 nx = some (opC s0 m0, [], nx) := fun nx => a0 0 nx
  obtain ⟨v1, vs1, d1, ds1, p1, q1, _, rfl, t1, hB1⟩ := Go.Eng.trodAll_cons hB0
  obtain ⟨s1, m1, k1, a1⟩ := Go.Eng.trod_op Try.underlying41 rfl rfl Try.underlying38 Try.underlying5 Try.underlying39 t1
  have b1 : ∀ nx, absD Try.prog 3 41 d1 nx = some (opC s1 m1, [], nx) := fun nx => a1 0 nx
  obtain rfl := Go.Eng.trodAll_end hB1
  have hrun := law_runX hX (P := Try.prog) (k := 6) kids full inRange hA hval (n := 3) (avs := [.agg (opC s0 m0), .agg (opC s1 m1)]) (bl := []) (nx := 0) (by simp only [absA, argV, b0, b1, Try.underlying41]; rfl) (N := 2000) (by
    obtain ⟨h2, this⟩ := law_TxOrders (E := Edyn Try.prog) (X := refX 64) 1998 eLaw (fun args h => (orX_r (pureX_no h rfl)).trans ((orX_r (pureX_no h rfl)).trans (baseO_no args h rfl rfl))) (fun s t n m h hs ht => (orX_r (pureX_no h rfl)).trans (txX_Cmp hs ht h)) (fun s t n m h hs ht => orX_l (pureX_yes h (txS_OP hs ht))) k0 k1
    rw [show (k_purserlaw06_TxOrders : Nat) = 6 from rfl] at this
    unfold OP at this
    rw [this]; rfl)
  exact hrun.mono fun e W' ⟨he, hl⟩ => ⟨_, he, law_post kids full (by rw [Try.params6]; exact inRange) hW' rfl rfl Try.underlying4 rfl hl⟩

theorem proved : Rows.TxOrdersSaid :=
  OpenClaim.holds_of_wide 6 Try.f6 rfl rfl rfl rfl rfl rfl rfl ⟨rfl, rfl, rfl, rfl, rfl⟩ rfl rfl rfl rfl rfl (by kernel_rfl) Try.func6 (by kernel_rfl)
    (of_decide_eq_true (by kernel_rfl)) (by unfold Func.isWrapper; first | (rw [if_pos (by decide +kernel)]; kernel_rfl) | (rw [if_neg (by decide +kernel)]; exact ⟨rfl, rfl⟩))
    (fun os started H enc _ => lifted os started H enc)
end Go.Proofs.Ytniiddgjepkmeaa.lawTxOrders
