/- BlockHeaders: for every input the call returns true and the arguments read as before. The program is run on abstract heaps (an evaluation that is proved to say what the machine does on every tape, order and capacity), with unknown numbers. No condition. -/
import Derived.Test.YtfopajklnakmpaaBxHe
import Derived.Test.YtfopajklnakmpaaRows
import Derived.ProofKit
import Derived.SizedLaws
namespace Go.Proofs.Ytfopajklnakmpaa.lawBlockHeaders
open Go Go.Eng Go.ChangeShapes Go.WideShapes Go.ChangeAt Go.RowKit

theorem own : ownKnob Try.prog.godebug = none := by kernel_rfl
theorem kids : Kids Try.prog (· < Try.prog.types.size) := kids_rows (by kernel_rfl) (by kernel_rfl)
theorem full : ∀ t e, t < Try.prog.types.size → Try.prog.underlying t = some (.slice e) → 0 < Try.prog.cellsOf e := slices_full_of Try.prog (by kernel_rfl)
theorem inRange : ∀ t ∈ [85, 25, 57, 9], t < Try.prog.types.size := by
  intro t ht
  have h : ([85, 25, 57, 9].all fun t => decide (t < Try.prog.types.size)) = true := by kernel_rfl
  exact of_decide_eq_true (List.all_eq_true.1 h t ht)
theorem eLaw : Edyn Try.prog k_purserlaw07_BlockHeaders = some f_purserlaw07_BlockHeaders := by kernel_rfl
theorem eLook : Edyn Try.prog k_octet_Look = some f_octet_Look := by kernel_rfl
theorem enWid : EnWid (Edyn Try.prog) := ⟨by kernel_rfl, by kernel_rfl, by kernel_rfl⟩
theorem enPut : EnPut (Edyn Try.prog) := ⟨by kernel_rfl, enWid⟩
theorem enFix : EnFix (Edyn Try.prog) := ⟨by kernel_rfl, by kernel_rfl, enPut⟩
theorem enSize : EnSize (Edyn Try.prog) := ⟨by kernel_rfl, by kernel_rfl, by kernel_rfl, enPut⟩
theorem enPen : EnPen (Edyn Try.prog) := ⟨enFix, enSize, by kernel_rfl, by kernel_rfl, by kernel_rfl⟩
theorem enEye : EnEye (Edyn Try.prog) := ⟨by kernel_rfl, by kernel_rfl, by kernel_rfl, by kernel_rfl, by kernel_rfl, by kernel_rfl, by kernel_rfl, by kernel_rfl, by kernel_rfl, by kernel_rfl, by kernel_rfl, by kernel_rfl, by kernel_rfl, enWid⟩
theorem enBh : EnBh (Edyn Try.prog) := ⟨enPen, by kernel_rfl⟩
theorem enBr : EnBr (Edyn Try.prog) := ⟨enEye, eLook, by kernel_rfl, by kernel_rfl, by kernel_rfl⟩
theorem enBs : EnBs (Edyn Try.prog) := ⟨by kernel_rfl, by kernel_rfl, by kernel_rfl, by kernel_rfl, by kernel_rfl⟩
theorem enSha : EnSha (Edyn Try.prog) := ⟨by kernel_rfl, by kernel_rfl, by kernel_rfl, by kernel_rfl, by kernel_rfl, by kernel_rfl, by kernel_rfl, by kernel_rfl, by kernel_rfl, by kernel_rfl, by kernel_rfl, by kernel_rfl, by kernel_rfl⟩
theorem enTw : EnTw (Edyn Try.prog) := ⟨enSha, by kernel_rfl, by kernel_rfl⟩
theorem enRf : EnRf (Edyn Try.prog) := by constructor <;> kernel_rfl
theorem enRo : EnRo (Edyn Try.prog) := ⟨by kernel_rfl, by kernel_rfl, by kernel_rfl, by kernel_rfl, by kernel_rfl⟩
theorem enHd : EnHd (Edyn Try.prog) := ⟨enRf, by kernel_rfl, by kernel_rfl, by kernel_rfl, by kernel_rfl, by kernel_rfl, by kernel_rfl, by kernel_rfl, by kernel_rfl, by kernel_rfl⟩
theorem enBhs : EnBhs (Edyn Try.prog) := ⟨enHd, enBr, enBs, enBh, by kernel_rfl, enTw, enRo, by kernel_rfl, by kernel_rfl⟩
theorem hX : QOk Try.prog ⟨id, id, fun _ _ h => h⟩ noX := noX_ok


set_option maxRecDepth 100000 in
theorem lifted (os : Os) (started : os.Started) (H : Type) (enc : TypeId × Value → H) :
    ReturnsInHanded {} Try.checked os 10 .any (Rows.blockHeadersSpec.pre6 enc Try.prog Try.f10 Rows.blockHeadersRow.domain false) (Rows.blockHeadersSpec.post enc Try.prog Try.f10 false true false false) := by
  refine returnsInHanded_of_change_sized (C := Try.checked) own started (by kernel_rfl) Try.func10
    (ChangeSpec.witness6 (enc := enc) (C := Try.checked) false ⟨#[], #[.agg #[.int .u32 0, .int .u8 0, .int .u8 0, .int .u8 0, .int .u8 0, .int .u8 0, .int .u8 0, .int .u8 0, .int .u8 0, .int .u8 0, .int .u8 0, .int .u8 0, .int .u8 0, .int .u8 0, .int .u8 0, .int .u8 0, .int .u8 0, .int .u8 0, .int .u8 0, .int .u8 0, .int .u8 0, .int .u8 0, .int .u8 0, .int .u8 0, .int .u8 0, .int .u8 0, .int .u8 0, .int .u8 0, .int .u8 0, .int .u8 0, .int .u8 0, .int .u8 0, .int .u8 0, .int .u8 0, .int .u8 0, .int .u8 0, .int .u8 0, .int .u8 0, .int .u8 0, .int .u8 0, .int .u8 0, .int .u8 0, .int .u8 0, .int .u8 0, .int .u8 0, .int .u8 0, .int .u8 0, .int .u8 0, .int .u8 0, .int .u8 0, .int .u8 0, .int .u8 0, .int .u8 0, .int .u8 0, .int .u8 0, .int .u8 0, .int .u8 0, .int .u8 0, .int .u8 0, .int .u8 0, .int .u8 0, .int .u8 0, .int .u8 0, .int .u8 0, .int .u8 0, .int .u32 0, .int .u32 0, .int .u32 0], .slice none 0 0, .agg #[.int .u8 0, .int .u8 0, .int .u8 0, .int .u8 0, .int .u8 0, .int .u8 0, .int .u8 0, .int .u8 0, .int .u8 0, .int .u8 0, .int .u8 0, .int .u8 0, .int .u8 0, .int .u8 0, .int .u8 0, .int .u8 0, .int .u8 0, .int .u8 0, .int .u8 0, .int .u8 0, .int .u8 0, .int .u8 0, .int .u8 0, .int .u8 0, .int .u8 0, .int .u8 0, .int .u8 0, .int .u8 0, .int .u8 0, .int .u8 0, .int .u8 0, .int .u8 0], .string ⟨#[]⟩], []⟩ 8 (by kernel_rfl) (by kernel_rfl) (by kernel_rfl) (by kernel_rfl)) ?_
  intro W base args ds gs before hval0 hW hcnd hsz _
  have hW' := hW
  obtain ⟨p, q, hA0, hV, _, _, _⟩ := hW
  obtain ⟨rfl, _⟩ := trodVars_none hV
  have hval : ∀ (j : Nat) t v, Try.f10.params.toList[j]? = some t → args.toList[j]? = some v → Value.okWide Try.prog W .any base t v := fun j t v h1 h2 => hval0 j t v (by rw [← Array.getElem?_toList]; exact h1) (by rw [← Array.getElem?_toList]; exact h2)
  rw [Try.params10] at hA0 hval hsz
  have hwt : ∀ (j : Nat) (t : TypeId) (d : DataW H), ([85, 25, 57, 9] : List TypeId)[j]? = some t → ds[j]? = some d → ∀ n ∈ d.weights Try.prog t, n ≤ reachBytes := fun j t d h1 h2 n hn => by
    have h3 := List.all_eq_true.1 hsz n (by rw [show Rows.blockHeadersSpec.plain.varTypes Try.checked.prog = [] from rfl, List.append_nil, List.append_nil]; exact DataW.weights_mem_each (j := j) h1 h2 n hn)
    simpa using h3
  have hA : DataW.TrodAll enc Try.prog W 0 (fun _ => true) true [85, 25, 57, 9] args.toList ds p := hA0
  obtain ⟨v0, vs0, d0, ds0, p0, q0, _, rfl, t0, hB0⟩ := Go.Eng.trodAll_cons hA
  obtain ⟨f0, tf0⟩ := id t0
  obtain ⟨t0, ok0, r0⟩ := Go.Eng.trod_hd (P := Try.prog) Try.underlying85 Try.underlying45 Try.underlying57 Try.underlying57 Try.underlying45 Try.underlying45 Try.underlying45 Try.underlying5 tf0
  obtain ⟨vs0', bl0, n0, e0, L0, R0⟩ := r0 5 0
  obtain ⟨v1, vs1, d1, ds1, p1, q1, _, rfl, t1, hB1⟩ := Go.Eng.trodAll_cons hB0
  obtain ⟨f1, tf1⟩ := id t1
  obtain ⟨l1, by1, wt1, r1⟩ := Go.Eng.trod_u8s' Try.underlying25 Try.underlying5 (by kernel_rfl) tf1
  obtain ⟨vs1', bl1, n1, e1, L1, R1⟩ := r1 6 n0
  obtain ⟨v2, vs2, d2, ds2, p2, q2, _, rfl, t2, hB2⟩ := Go.Eng.trodAll_cons hB1
  obtain ⟨s2, hs2, by2, r2⟩ := Go.Eng.trod_hash Try.underlying57 Try.underlying5 t2
  obtain ⟨v3, vs3, d3, ds3, p3, q3, _, rfl, t3, hB3⟩ := Go.Eng.trodAll_cons hB2
  obtain ⟨x3, rfl⟩ := Go.Eng.trod_strg Try.underlying9 t3
  obtain rfl := Go.Eng.trodAll_end hB3
  have lay := (LayB.app L0 (LayB.app L1 (LayB.app (LayB.nil _) (LayB.app (LayB.nil _) (LayB.nil _)))))
  have has := has_mk lay
  obtain ⟨rfl⟩ := R0 _ (has.l)
  obtain ⟨a1, rfl, S1⟩ := R1 _ (has.r.l)
  have hab : absA Try.prog 8 [85, 25, 57, 9] _ 0 = some ([.agg (hdV t0), .slice a1 l1.length none 1, .agg (ofI .u8 s2), .str (x3.map (·.toNat))], bl0 ++ (bl1 ++ ([] ++ ([] ++ ([])))), n1) := (absA_cons e0 (argV_str Try.underlying85 _) (absA_cons e1 (argV_slc Try.underlying25 _) (absA_cons (r2 6 _) (argV_arr Try.underlying57 _) (absA_cons (absD_strg _ 7 Try.underlying9 x3 _) (argV_strg Try.underlying9 _) (absA_nil _ _ _)))))
  have hrun := law_runX hX (P := Try.prog) (k := 10) kids full inRange hA hval hab (N := 100401) (by
    obtain ⟨h2, this⟩ := law_BlockHeaders (E := Edyn Try.prog) enBhs eLaw 100001 (by decide) t0 ok0 l1 by1 s2 hs2 by2 (x3.map (·.toNat)) (byt_u8s x3) a1 (mkH (bl0 ++ (bl1 ++ ([] ++ ([] ++ ([]))))) n1) S1
    rw [show (k_purserlaw07_BlockHeaders : Nat) = 10 from rfl] at this
    rw [this]; rfl)
  exact hrun.mono fun e W' ⟨he, hl⟩ => ⟨_, he, law_post kids full (by rw [Try.params10]; exact inRange) hW' rfl rfl Try.underlying4 rfl hl⟩

theorem proved : Rows.BlockHeadersSaid :=
  OpenClaim.holds_of_wide 10 Try.f10 rfl rfl rfl rfl rfl rfl rfl ⟨rfl, rfl, rfl, rfl, rfl⟩ rfl rfl rfl rfl rfl (by kernel_rfl) Try.func10 (by kernel_rfl)
    (of_decide_eq_true (by kernel_rfl)) (by unfold Func.isWrapper; first | (rw [if_pos (by decide +kernel)]; kernel_rfl) | (rw [if_neg (by decide +kernel)]; exact ⟨rfl, rfl⟩))
    (fun os started H enc _ => lifted os started H enc)
end Go.Proofs.Ytfopajklnakmpaa.lawBlockHeaders
