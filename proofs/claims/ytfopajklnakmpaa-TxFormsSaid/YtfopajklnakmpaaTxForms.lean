/- TxForms: for every input the call returns true and the arguments read as before. The program is run on abstract heaps (an evaluation that is proved to say what the machine does on every tape, order and capacity), with unknown numbers. No condition. -/
import Derived.Test.YtfopajklnakmpaaBfY
import Derived.Test.YtfopajklnakmpaaRows
import Derived.ProofKit
import Derived.SizedLaws
namespace Go.Proofs.Ytfopajklnakmpaa.lawTxForms
open Go Go.Eng Go.ChangeShapes Go.WideShapes Go.ChangeAt Go.RowKit

theorem own : ownKnob Try.prog.godebug = none := by kernel_rfl
theorem kids : Kids Try.prog (· < Try.prog.types.size) := kids_rows (by kernel_rfl) (by kernel_rfl)
theorem full : ∀ t e, t < Try.prog.types.size → Try.prog.underlying t = some (.slice e) → 0 < Try.prog.cellsOf e := slices_full_of Try.prog (by kernel_rfl)
theorem inRange : ∀ t ∈ [49, 49], t < Try.prog.types.size := by
  intro t ht
  have h : ([49, 49].all fun t => decide (t < Try.prog.types.size)) = true := by kernel_rfl
  exact of_decide_eq_true (List.all_eq_true.1 h t ht)
theorem eLaw : Edyn Try.prog k_purserlaw06_TxForms = some f_purserlaw06_TxForms := by kernel_rfl
theorem eLook : Edyn Try.prog k_octet_Look = some f_octet_Look := by kernel_rfl
theorem enWid : EnWid (Edyn Try.prog) := ⟨by kernel_rfl, by kernel_rfl, by kernel_rfl⟩
theorem enPut : EnPut (Edyn Try.prog) := ⟨by kernel_rfl, enWid⟩
theorem enFix : EnFix (Edyn Try.prog) := ⟨by kernel_rfl, by kernel_rfl, enPut⟩
theorem enSize : EnSize (Edyn Try.prog) := ⟨by kernel_rfl, by kernel_rfl, by kernel_rfl, enPut⟩
theorem enPen : EnPen (Edyn Try.prog) := ⟨enFix, enSize, by kernel_rfl, by kernel_rfl, by kernel_rfl⟩
theorem enEye : EnEye (Edyn Try.prog) := ⟨by kernel_rfl, by kernel_rfl, by kernel_rfl, by kernel_rfl, by kernel_rfl, by kernel_rfl, by kernel_rfl, by kernel_rfl, by kernel_rfl, by kernel_rfl, by kernel_rfl, by kernel_rfl, by kernel_rfl, enWid⟩
theorem enTe : EnTe (Edyn Try.prog) := ⟨enPen, by kernel_rfl⟩
theorem enTc : EnTc (Edyn Try.prog) := ⟨by kernel_rfl, by kernel_rfl, by kernel_rfl, by kernel_rfl⟩
theorem enRr : EnRr (Edyn Try.prog) := ⟨enEye, eLook, by kernel_rfl, by kernel_rfl, by kernel_rfl, by kernel_rfl, by kernel_rfl, by kernel_rfl, by kernel_rfl, by kernel_rfl, by kernel_rfl, by kernel_rfl, by kernel_rfl⟩
theorem enTs : EnTs (Edyn Try.prog) := ⟨by kernel_rfl, by kernel_rfl, by kernel_rfl, by kernel_rfl, by kernel_rfl, by kernel_rfl⟩
theorem enTb : EnTb (Edyn Try.prog) := ⟨enTe, enTc, by kernel_rfl, enRr, enTs⟩
theorem enSha : EnSha (Edyn Try.prog) := ⟨by kernel_rfl, by kernel_rfl, by kernel_rfl, by kernel_rfl, by kernel_rfl, by kernel_rfl, by kernel_rfl, by kernel_rfl, by kernel_rfl, by kernel_rfl, by kernel_rfl, by kernel_rfl, by kernel_rfl⟩
theorem enTw : EnTw (Edyn Try.prog) := ⟨enSha, by kernel_rfl, by kernel_rfl⟩
theorem enCp : EnCp (Edyn Try.prog) := ⟨by kernel_rfl, by kernel_rfl, by kernel_rfl, by kernel_rfl⟩
theorem enAp : EnAp (Edyn Try.prog) := ⟨enTb, enTw, enCp, by kernel_rfl⟩
theorem enRf : EnRf (Edyn Try.prog) := by constructor <;> kernel_rfl
theorem enDb : EnDb (Edyn Try.prog) := ⟨enRf, by kernel_rfl, by kernel_rfl, by kernel_rfl⟩
theorem enDe : EnDe (Edyn Try.prog) := ⟨enDb, by kernel_rfl, by kernel_rfl⟩
theorem enRo : EnRo (Edyn Try.prog) := ⟨by kernel_rfl, by kernel_rfl, by kernel_rfl, by kernel_rfl, by kernel_rfl⟩
theorem enFm : EnFm (Edyn Try.prog) := ⟨enAp, enDe, enRo, by kernel_rfl, by kernel_rfl, by kernel_rfl, by kernel_rfl, by kernel_rfl, by kernel_rfl⟩
theorem hX : QOk Try.prog ⟨id, id, fun _ _ h => h⟩ noX := noX_ok


set_option maxRecDepth 100000 in
theorem lifted (os : Os) (started : os.Started) (H : Type) (enc : TypeId × Value → H) :
    ReturnsInHanded {} Try.checked os 5 .any (Rows.txFormsSpec.pre6 enc Try.prog Try.f5 Rows.txFormsRow.domain false) (Rows.txFormsSpec.post enc Try.prog Try.f5 false true false false) := by
  refine returnsInHanded_of_change_sized (C := Try.checked) own started (by kernel_rfl) Try.func5
    (ChangeSpec.witness6 (enc := enc) (C := Try.checked) false ⟨#[], #[.agg #[.int .u32 0, .slice none 0 0, .slice none 0 0, .int .u32 0], .agg #[.int .u32 0, .slice none 0 0, .slice none 0 0, .int .u32 0]], []⟩ 8 (by kernel_rfl) (by kernel_rfl) (by kernel_rfl) (by kernel_rfl)) ?_
  intro W base args ds gs before hval0 hW hcnd hsz _
  have hW' := hW
  obtain ⟨p, q, hA0, hV, _, _, _⟩ := hW
  obtain ⟨rfl, _⟩ := trodVars_none hV
  have hval : ∀ (j : Nat) t v, Try.f5.params.toList[j]? = some t → args.toList[j]? = some v → Value.okWide Try.prog W .any base t v := fun j t v h1 h2 => hval0 j t v (by rw [← Array.getElem?_toList]; exact h1) (by rw [← Array.getElem?_toList]; exact h2)
  rw [Try.params5] at hA0 hval hsz
  have hwt : ∀ (j : Nat) (t : TypeId) (d : DataW H), ([49, 49] : List TypeId)[j]? = some t → ds[j]? = some d → ∀ n ∈ d.weights Try.prog t, n ≤ reachBytes := fun j t d h1 h2 n hn => by
    have h3 := List.all_eq_true.1 hsz n (by rw [show Rows.txFormsSpec.plain.varTypes Try.checked.prog = [] from rfl, List.append_nil, List.append_nil]; exact DataW.weights_mem_each (j := j) h1 h2 n hn)
    simpa using h3
  have hA : DataW.TrodAll enc Try.prog W 0 (fun _ => true) true [49, 49] args.toList ds p := hA0
  obtain ⟨v0, vs0, d0, ds0, p0, q0, _, rfl, t0, hB0⟩ := Go.Eng.trodAll_cons hA
  obtain ⟨f0, tf0⟩ := id t0
  obtain ⟨t0, ok0, wt0, r0⟩ := Go.Eng.trod_tx (P := Try.prog) Try.underlying49 Try.underlying45 Try.underlying46 Try.underlying47 Try.underlying45 Try.underlying68 Try.underlying66 Try.underlying57 Try.underlying5 Try.underlying45 Try.underlying25 Try.underlying5 Try.underlying45 Try.underlying70 Try.underlying2 Try.underlying25 (by kernel_rfl) (by kernel_rfl) (by kernel_rfl) tf0
  obtain ⟨vs0', bl0, n0, e0, L0, R0⟩ := r0 2 0
  obtain ⟨v1, vs1, d1, ds1, p1, q1, _, rfl, t1, hB1⟩ := Go.Eng.trodAll_cons hB0
  obtain ⟨f1, tf1⟩ := id t1
  obtain ⟨t1, ok1, wt1, r1⟩ := Go.Eng.trod_tx (P := Try.prog) Try.underlying49 Try.underlying45 Try.underlying46 Try.underlying47 Try.underlying45 Try.underlying68 Try.underlying66 Try.underlying57 Try.underlying5 Try.underlying45 Try.underlying25 Try.underlying5 Try.underlying45 Try.underlying70 Try.underlying2 Try.underlying25 (by kernel_rfl) (by kernel_rfl) (by kernel_rfl) tf1
  obtain ⟨vs1', bl1, n1, e1, L1, R1⟩ := r1 2 n0
  obtain rfl := Go.Eng.trodAll_end hB1
  have lay := (LayB.app L0 (LayB.app L1 (LayB.nil _)))
  have has := has_mk lay
  obtain ⟨a0, b0, rfl, S0, Z0⟩ := R0 _ (has.l)
  obtain ⟨a1, b1, rfl, S1, Z1⟩ := R1 _ (has.r.l)
  have hab : absA Try.prog 8 [49, 49] _ 0 = some ([.agg [.int .u32 (t0.ver : Int), .slice a0 t0.ins.length none 35, .slice b0 t0.outs.length none 2, .int .u32 (t0.lock : Int)], .agg [.int .u32 (t1.ver : Int), .slice a1 t1.ins.length none 35, .slice b1 t1.outs.length none 2, .int .u32 (t1.lock : Int)]], bl0 ++ (bl1 ++ ([])), n1) := (absA_cons e0 (argV_str Try.underlying49 _) (absA_cons e1 (argV_str Try.underlying49 _) (absA_nil _ _ _)))
  have hrun := law_runX hX (P := Try.prog) (k := 5) kids full inRange hA hval hab (N := 600201) (by
    obtain ⟨⟨wI, _⟩, wO, _⟩ := wt0 (by kernel_rfl) 72 32 (by kernel_rfl) (by decide) (by kernel_rfl) (by decide) reachBytes (hwt 0 _ _ rfl rfl)
    obtain ⟨⟨uI, _⟩, uO, _⟩ := wt1 (by kernel_rfl) 72 32 (by kernel_rfl) (by decide) (by kernel_rfl) (by decide) reachBytes (hwt 1 _ _ rfl rfl)
    obtain ⟨h2, this⟩ := law_TxForms (E := Edyn Try.prog) enFm eLaw 600001 (by decide) t0 t1 ok0 ok1 (Nat.lt_of_le_of_lt wI (by decide)) (Nat.lt_of_le_of_lt wO (by decide)) (Nat.lt_of_le_of_lt uI (by decide)) (Nat.lt_of_le_of_lt uO (by decide)) [.int .u32 (t0.ver : Int), .slice a0 t0.ins.length none 35, .slice b0 t0.outs.length none 2, .int .u32 (t0.lock : Int)] [.int .u32 (t1.ver : Int), .slice a1 t1.ins.length none 35, .slice b1 t1.outs.length none 2, .int .u32 (t1.lock : Int)] (mkH (bl0 ++ (bl1 ++ ([]))) n1) ⟨a0, b0, none, none, 35, 2, rfl, S0.row ok0.io, Z0.row⟩ ⟨a1, b1, none, none, 35, 2, rfl, S1.row ok1.io, Z1.row⟩
    rw [show (k_purserlaw06_TxForms : Nat) = 5 from rfl] at this
    rw [this]; rfl)
  exact hrun.mono fun e W' ⟨he, hl⟩ => ⟨_, he, law_post kids full (by rw [Try.params5]; exact inRange) hW' rfl rfl Try.underlying4 rfl hl⟩

theorem proved : Rows.TxFormsSaid :=
  OpenClaim.holds_of_wide 5 Try.f5 rfl rfl rfl rfl rfl rfl rfl ⟨rfl, rfl, rfl, rfl, rfl⟩ rfl rfl rfl rfl rfl (by kernel_rfl) Try.func5 (by kernel_rfl)
    (of_decide_eq_true (by kernel_rfl)) (by unfold Func.isWrapper; first | (rw [if_pos (by decide +kernel)]; kernel_rfl) | (rw [if_neg (by decide +kernel)]; exact ⟨rfl, rfl⟩))
    (fun os started H enc _ => lifted os started H enc)
end Go.Proofs.Ytfopajklnakmpaa.lawTxForms
