/- BlockBack: for every input the call returns true and the arguments read as before. The program is run on abstract heaps (an evaluation that is proved to say what the machine does on every tape, order and capacity), with unknown numbers. No condition. -/
import Derived.Test.YtfopajklnakmpaaBjL
import Derived.Test.YtfopajklnakmpaaRows
import Derived.ProofKit
import Derived.SizedLaws
namespace Go.Proofs.Ytfopajklnakmpaa.lawBlockBack
open Go Go.Eng Go.ChangeShapes Go.WideShapes Go.ChangeAt Go.RowKit

theorem own : ownKnob Try.prog.godebug = none := by kernel_rfl
theorem kids : Kids Try.prog (· < Try.prog.types.size) := kids_rows (by kernel_rfl) (by kernel_rfl)
theorem full : ∀ t e, t < Try.prog.types.size → Try.prog.underlying t = some (.slice e) → 0 < Try.prog.cellsOf e := slices_full_of Try.prog (by kernel_rfl)
theorem inRange : ∀ t ∈ [99, 57, 25], t < Try.prog.types.size := by
  intro t ht
  have h : ([99, 57, 25].all fun t => decide (t < Try.prog.types.size)) = true := by kernel_rfl
  exact of_decide_eq_true (List.all_eq_true.1 h t ht)
theorem eLaw : Edyn Try.prog k_purserlaw07_BlockBack = some f_purserlaw07_BlockBack := by kernel_rfl
theorem eLook : Edyn Try.prog k_octet_Look = some f_octet_Look := by kernel_rfl
theorem enWid : EnWid (Edyn Try.prog) := ⟨by kernel_rfl, by kernel_rfl, by kernel_rfl⟩
theorem enPut : EnPut (Edyn Try.prog) := ⟨by kernel_rfl, enWid⟩
theorem enFix : EnFix (Edyn Try.prog) := ⟨by kernel_rfl, by kernel_rfl, enPut⟩
theorem enSize : EnSize (Edyn Try.prog) := ⟨by kernel_rfl, by kernel_rfl, by kernel_rfl, enPut⟩
theorem enPen : EnPen (Edyn Try.prog) := ⟨enFix, enSize, by kernel_rfl, by kernel_rfl, by kernel_rfl⟩
theorem enEye : EnEye (Edyn Try.prog) := ⟨by kernel_rfl, by kernel_rfl, by kernel_rfl, by kernel_rfl, by kernel_rfl, by kernel_rfl, by kernel_rfl, by kernel_rfl, by kernel_rfl, by kernel_rfl, by kernel_rfl, by kernel_rfl, by kernel_rfl, enWid⟩
theorem enTe : EnTe (Edyn Try.prog) := ⟨enPen, by kernel_rfl⟩
theorem enTc : EnTc (Edyn Try.prog) := ⟨by kernel_rfl, by kernel_rfl, by kernel_rfl, by kernel_rfl⟩
theorem enRr : EnRr (Edyn Try.prog) := ⟨enEye, eLook, by kernel_rfl, by kernel_rfl, by kernel_rfl, by kernel_rfl, by kernel_rfl, by kernel_rfl, by kernel_rfl, by kernel_rfl, by kernel_rfl, by kernel_rfl, by kernel_rfl⟩
theorem enBh : EnBh (Edyn Try.prog) := ⟨enPen, by kernel_rfl⟩
theorem enBr : EnBr (Edyn Try.prog) := ⟨enEye, eLook, by kernel_rfl, by kernel_rfl, by kernel_rfl⟩
theorem enBe : EnBe (Edyn Try.prog) := ⟨enBh, enTe, enTc, by kernel_rfl⟩
theorem enBd : EnBd (Edyn Try.prog) := ⟨enRr, enBr, by kernel_rfl, by kernel_rfl, by kernel_rfl, by kernel_rfl, by kernel_rfl⟩
theorem enBc : EnBc (Edyn Try.prog) := ⟨enBe, enBd, by kernel_rfl, by kernel_rfl, by kernel_rfl⟩
set_option maxRecDepth 1000000 in
theorem aliveRun : isTrue (callX (Edyn Try.prog) noX 3000 (.fn k_purserlaw07_alive) [] Eng.H.empty) = true := by kernel_rfl
theorem hX : QOk Try.prog ⟨id, id, fun _ _ h => h⟩ (alT k_purserlaw07_alive) := aliveX_ok (link_dyn Try.prog) noX_ok aliveRun
theorem enRf : EnRf (Edyn Try.prog) := ⟨by kernel_rfl, by kernel_rfl, by kernel_rfl, by kernel_rfl, by kernel_rfl⟩
theorem enDb : EnDb (Edyn Try.prog) := ⟨enRf, by kernel_rfl, by kernel_rfl, by kernel_rfl⟩
theorem enBs : EnBs (Edyn Try.prog) := ⟨by kernel_rfl, by kernel_rfl, by kernel_rfl, by kernel_rfl, by kernel_rfl⟩
theorem enBb : EnBb (Edyn Try.prog) := ⟨enBc, enBs, enDb, by kernel_rfl⟩


set_option maxRecDepth 100000 in
theorem lifted (os : Os) (started : os.Started) (H : Type) (enc : TypeId × Value → H) :
    ReturnsInHanded {} Try.checked os 11 .any (Rows.blockBackSpec.pre6 enc Try.prog Try.f11 Rows.blockBackRow.domain false) (Rows.blockBackSpec.post enc Try.prog Try.f11 false true false false) := by
  refine returnsInHanded_of_change_sized (C := Try.checked) own started (by kernel_rfl) Try.func11
    (ChangeSpec.witness6 (enc := enc) (C := Try.checked) false ⟨#[], #[.agg #[.int .u32 0, .int .u8 0, .int .u8 0, .int .u8 0, .int .u8 0, .int .u8 0, .int .u8 0, .int .u8 0, .int .u8 0, .int .u8 0, .int .u8 0, .int .u8 0, .int .u8 0, .int .u8 0, .int .u8 0, .int .u8 0, .int .u8 0, .int .u8 0, .int .u8 0, .int .u8 0, .int .u8 0, .int .u8 0, .int .u8 0, .int .u8 0, .int .u8 0, .int .u8 0, .int .u8 0, .int .u8 0, .int .u8 0, .int .u8 0, .int .u8 0, .int .u8 0, .int .u8 0, .int .u8 0, .int .u8 0, .int .u8 0, .int .u8 0, .int .u8 0, .int .u8 0, .int .u8 0, .int .u8 0, .int .u8 0, .int .u8 0, .int .u8 0, .int .u8 0, .int .u8 0, .int .u8 0, .int .u8 0, .int .u8 0, .int .u8 0, .int .u8 0, .int .u8 0, .int .u8 0, .int .u8 0, .int .u8 0, .int .u8 0, .int .u8 0, .int .u8 0, .int .u8 0, .int .u8 0, .int .u8 0, .int .u8 0, .int .u8 0, .int .u8 0, .int .u8 0, .int .u32 0, .int .u32 0, .int .u32 0, .slice none 0 0], .agg #[.int .u8 0, .int .u8 0, .int .u8 0, .int .u8 0, .int .u8 0, .int .u8 0, .int .u8 0, .int .u8 0, .int .u8 0, .int .u8 0, .int .u8 0, .int .u8 0, .int .u8 0, .int .u8 0, .int .u8 0, .int .u8 0, .int .u8 0, .int .u8 0, .int .u8 0, .int .u8 0, .int .u8 0, .int .u8 0, .int .u8 0, .int .u8 0, .int .u8 0, .int .u8 0, .int .u8 0, .int .u8 0, .int .u8 0, .int .u8 0, .int .u8 0, .int .u8 0], .slice none 0 0], []⟩ 8 (by kernel_rfl) (by kernel_rfl) (by kernel_rfl) (by kernel_rfl)) ?_
  intro W base args ds gs before hval0 hW hcnd hsz _
  have hW' := hW
  obtain ⟨p, q, hA0, hV, _, _, _⟩ := hW
  obtain ⟨rfl, _⟩ := trodVars_none hV
  have hval : ∀ (j : Nat) t v, Try.f11.params.toList[j]? = some t → args.toList[j]? = some v → Value.okWide Try.prog W .any base t v := fun j t v h1 h2 => hval0 j t v (by rw [← Array.getElem?_toList]; exact h1) (by rw [← Array.getElem?_toList]; exact h2)
  rw [Try.params11] at hA0 hval hsz
  have hwt : ∀ (j : Nat) (t : TypeId) (d : DataW H), ([99, 57, 25] : List TypeId)[j]? = some t → ds[j]? = some d → ∀ n ∈ d.weights Try.prog t, n ≤ reachBytes := fun j t d h1 h2 n hn => by
    have h3 := List.all_eq_true.1 hsz n (by rw [show Rows.blockBackSpec.plain.varTypes Try.checked.prog = [] from rfl, List.append_nil, List.append_nil]; exact DataW.weights_mem_each (j := j) h1 h2 n hn)
    simpa using h3
  have hA : DataW.TrodAll enc Try.prog W 0 (fun _ => true) true [99, 57, 25] args.toList ds p := hA0
  obtain ⟨v0, vs0, d0, ds0, p0, q0, _, rfl, t0, hB0⟩ := Go.Eng.trodAll_cons hA
  obtain ⟨f0, tf0⟩ := id t0
  obtain ⟨t0, ok0, wt0, r0⟩ := Go.Eng.trod_blk (P := Try.prog) Try.underlying99 Try.underlying85 Try.underlying45 Try.underlying57 Try.underlying57 Try.underlying45 Try.underlying45 Try.underlying45 Try.underlying97 Try.underlying49 Try.underlying45 Try.underlying46 Try.underlying47 Try.underlying45 Try.underlying68 Try.underlying66 Try.underlying57 Try.underlying5 Try.underlying45 Try.underlying25 Try.underlying5 Try.underlying45 Try.underlying70 Try.underlying2 Try.underlying25 (by kernel_rfl) (by kernel_rfl) (by kernel_rfl) (by kernel_rfl) tf0
  obtain ⟨vs0', bl0, n0, e0, L0, R0⟩ := r0 0 0
  obtain ⟨v1, vs1, d1, ds1, p1, q1, _, rfl, t1, hB1⟩ := Go.Eng.trodAll_cons hB0
  obtain ⟨s1, hs1, by1, r1⟩ := Go.Eng.trod_hash Try.underlying57 Try.underlying5 t1
  obtain ⟨v2, vs2, d2, ds2, p2, q2, _, rfl, t2, hB2⟩ := Go.Eng.trodAll_cons hB1
  obtain ⟨f2, tf2⟩ := id t2
  obtain ⟨l2, by2, wt2, r2⟩ := Go.Eng.trod_u8s' Try.underlying25 Try.underlying5 (by kernel_rfl) tf2
  obtain ⟨vs2', bl2, n2, e2, L2, R2⟩ := r2 6 n0
  obtain rfl := Go.Eng.trodAll_end hB2
  have lay := (LayB.app L0 (LayB.app (LayB.nil _) (LayB.app L2 (LayB.nil _))))
  have has := has_mk lay
  obtain ⟨a0, rfl, S0⟩ := R0 _ (has.l)
  obtain ⟨a2, rfl, S2⟩ := R2 _ (has.r.r.l)
  have hab : absA Try.prog 8 [99, 57, 25] _ 0 = some ([.agg (hdV t0.hd ++ [.slice a0 t0.txs.length none 4]), .agg (ofI .u8 s1), .slice a2 l2.length none 1], bl0 ++ ([] ++ (bl2 ++ ([]))), n2) := (absA_cons e0 (argV_str Try.underlying99 _) (absA_cons (r1 6 _) (argV_arr Try.underlying57 _) (absA_cons e2 (argV_slc Try.underlying25 _) (absA_nil _ _ _))))
  have hrun := law_runX hX (P := Try.prog) (k := 11) kids full inRange hA hval hab (N := 30000041) (by
    have wB := wt0 (by kernel_rfl) 72 32 64 (by kernel_rfl) (by decide) (by kernel_rfl) (by decide) (by kernel_rfl) (by decide) reachBytes (hwt 0 _ _ rfl rfl)
    obtain ⟨h2, this⟩ := law_BlockBack (E := Edyn Try.prog) enBb eLaw 30000001 (by decide) t0 ok0 (Nat.lt_of_le_of_lt wB.1 (by decide)) (fun t ht => ⟨Nat.lt_of_le_of_lt (wB.2 t ht).1.1 (by decide), Nat.lt_of_le_of_lt (wB.2 t ht).2.1 (by decide)⟩) (hdV t0.hd ++ [.slice a0 t0.txs.length none 4]) s1 hs1 by1 l2 by2 a2 (mkH (bl0 ++ ([] ++ (bl2 ++ ([])))) n2) ⟨a0, none, 4, rfl, BkAt.row ok0.t S0⟩ S2
    rw [show (k_purserlaw07_BlockBack : Nat) = 11 from rfl] at this
    rw [this]; rfl)
  exact hrun.mono fun e W' ⟨he, hl⟩ => ⟨_, he, law_post kids full (by rw [Try.params11]; exact inRange) hW' rfl rfl Try.underlying4 rfl hl⟩

theorem proved : Rows.BlockBackSaid :=
  OpenClaim.holds_of_wide 11 Try.f11 rfl rfl rfl rfl rfl rfl rfl ⟨rfl, rfl, rfl, rfl, rfl⟩ rfl rfl rfl rfl rfl (by kernel_rfl) Try.func11 (by kernel_rfl)
    (of_decide_eq_true (by kernel_rfl)) (by unfold Func.isWrapper; first | (rw [if_pos (by decide +kernel)]; kernel_rfl) | (rw [if_neg (by decide +kernel)]; exact ⟨rfl, rfl⟩))
    (fun os started H enc _ => lifted os started H enc)
end Go.Proofs.Ytfopajklnakmpaa.lawBlockBack
