/- MerkleRoots: for every input the call returns true and the arguments read as before. The program is run on abstract heaps (an evaluation that is proved to say what the machine does on every tape, order and capacity), with unknown numbers. No condition. -/
import Derived.Test.YtcgfhdhjanmgaaaMrO
import Derived.Test.YtcgfhdhjanmgaaaRows
import Derived.ProofKit
import Derived.SizedLaws
namespace Go.Proofs.Ytcgfhdhjanmgaaa.lawMerkleRoots
open Go Go.Eng Go.ChangeShapes Go.WideShapes Go.ChangeAt Go.RowKit

theorem own : ownKnob Try.prog.godebug = none := by kernel_rfl
theorem kids : Kids Try.prog (· < Try.prog.types.size) := kids_rows (by kernel_rfl) (by kernel_rfl)
theorem full : ∀ t e, t < Try.prog.types.size → Try.prog.underlying t = some (.slice e) → 0 < Try.prog.cellsOf e := slices_full_of Try.prog (by kernel_rfl)
theorem inRange : ∀ t ∈ [22, 3, 24, 3, 22, 3], t < Try.prog.types.size := by
  intro t ht
  have h : ([22, 3, 24, 3, 22, 3].all fun t => decide (t < Try.prog.types.size)) = true := by kernel_rfl
  exact of_decide_eq_true (List.all_eq_true.1 h t ht)
theorem eLaw : Edyn Try.prog k_purserlaw08_MerkleRoots = some f_purserlaw08_MerkleRoots := by kernel_rfl
theorem enSha : EnSha (Edyn Try.prog) := ⟨by kernel_rfl, by kernel_rfl, by kernel_rfl, by kernel_rfl, by kernel_rfl, by kernel_rfl, by kernel_rfl, by kernel_rfl, by kernel_rfl, by kernel_rfl, by kernel_rfl, by kernel_rfl, by kernel_rfl⟩
theorem eOf : Edyn Try.prog k_sha_Of = some f_sha_Of := by kernel_rfl
theorem eTw : Edyn Try.prog k_sha_Twice = some f_sha_Twice := by kernel_rfl
theorem enCat : EnCat (Edyn Try.prog) := ⟨by kernel_rfl, by kernel_rfl⟩
theorem enAb : EnAb (Edyn Try.prog) := ⟨enCat, by kernel_rfl, by kernel_rfl, eTw⟩
theorem enPr : EnPr (Edyn Try.prog) := ⟨by kernel_rfl, by kernel_rfl, by kernel_rfl⟩
theorem enLv : EnLv (Edyn Try.prog) := ⟨enAb, enPr, by kernel_rfl, by kernel_rfl⟩
theorem enRt : EnRt (Edyn Try.prog) := ⟨enLv, by kernel_rfl⟩
theorem enSw : EnSw (Edyn Try.prog) := ⟨enLv, by kernel_rfl, by kernel_rfl⟩
theorem enNd : EnNd (Edyn Try.prog) := ⟨by kernel_rfl, by kernel_rfl, by kernel_rfl, by kernel_rfl⟩
theorem enMr : EnMr (Edyn Try.prog) := ⟨enRt, enSw, ⟨enLv, by kernel_rfl⟩, ⟨enAb, by kernel_rfl⟩, by kernel_rfl, enNd, by kernel_rfl, by kernel_rfl, by kernel_rfl, by kernel_rfl, by kernel_rfl⟩
theorem enRf : EnRf (Edyn Try.prog) := ⟨by kernel_rfl, by kernel_rfl, by kernel_rfl, by kernel_rfl, by kernel_rfl⟩
theorem eRt : Edyn Try.prog k_purserref04_Twice = some f_purserref04_Twice := by kernel_rfl
theorem hO : QOk Try.prog ⟨id, id, fun _ _ h => h⟩ ofX1 := ofX_ok (link_dyn Try.prog) enSha eOf
theorem hR : QOk Try.prog ⟨id, id, fun _ _ h => h⟩ rofX := rofX_ok (link_dyn Try.prog) enRf
theorem hX : QOk Try.prog ⟨id, id, fun _ _ h => h⟩ mrX := orX_ok hR (orX_ok (rtwX_ok (link_dyn Try.prog) eRt hR) (orX_ok (twX_ok (link_dyn Try.prog) eTw hO) hO))


set_option maxRecDepth 100000 in
theorem lifted (os : Os) (started : os.Started) (H : Type) (enc : TypeId × Value → H) :
    ReturnsInHanded {} Try.checked os 3 .any (Rows.merkleRootsSpec.pre6 enc Try.prog Try.f3 Rows.merkleRootsRow.domain false) (Rows.merkleRootsSpec.post enc Try.prog Try.f3 false true false false) := by
  refine returnsInHanded_of_change_sized (C := Try.checked) own started (by kernel_rfl) Try.func3
    (ChangeSpec.witness6 (enc := enc) (C := Try.checked) false ⟨#[], #[.slice none 0 0, .int .i64 0, .agg #[.int .u8 0, .int .u8 0, .int .u8 0, .int .u8 0, .int .u8 0, .int .u8 0, .int .u8 0, .int .u8 0, .int .u8 0, .int .u8 0, .int .u8 0, .int .u8 0, .int .u8 0, .int .u8 0, .int .u8 0, .int .u8 0, .int .u8 0, .int .u8 0, .int .u8 0, .int .u8 0, .int .u8 0, .int .u8 0, .int .u8 0, .int .u8 0, .int .u8 0, .int .u8 0, .int .u8 0, .int .u8 0, .int .u8 0, .int .u8 0, .int .u8 0, .int .u8 0], .int .i64 0, .slice none 0 0, .int .i64 0], []⟩ 8 (by kernel_rfl) (by kernel_rfl) (by kernel_rfl) (by kernel_rfl)) ?_
  intro W base args ds gs before hval0 hW hcnd hsz _
  have hW' := hW
  obtain ⟨p, q, hA0, hV, _, _, _⟩ := hW
  obtain ⟨rfl, _⟩ := trodVars_none hV
  have hval : ∀ (j : Nat) t v, Try.f3.params.toList[j]? = some t → args.toList[j]? = some v → Value.okWide Try.prog W .any base t v := fun j t v h1 h2 => hval0 j t v (by rw [← Array.getElem?_toList]; exact h1) (by rw [← Array.getElem?_toList]; exact h2)
  rw [Try.params3] at hA0 hval hsz
  have hwt : ∀ (j : Nat) (t : TypeId) (d : DataW H), ([22, 3, 24, 3, 22, 3] : List TypeId)[j]? = some t → ds[j]? = some d → ∀ n ∈ d.weights Try.prog t, n ≤ reachBytes := fun j t d h1 h2 n hn => by
    have h3 := List.all_eq_true.1 hsz n (by rw [show Rows.merkleRootsSpec.plain.varTypes Try.checked.prog = [] from rfl, List.append_nil, List.append_nil]; exact DataW.weights_mem_each (j := j) h1 h2 n hn)
    simpa using h3
  have hA : DataW.TrodAll enc Try.prog W 0 (fun _ => true) true [22, 3, 24, 3, 22, 3] args.toList ds p := hA0
  obtain ⟨v0, vs0, d0, ds0, p0, q0, _, rfl, t0, hB0⟩ := Go.Eng.trodAll_cons hA
  obtain ⟨f0, tf0⟩ := id t0
  obtain ⟨l0, ok0, wt0, r0⟩ := Go.Eng.trod_hs (P := Try.prog) Try.underlying22 Try.underlying24 Try.underlying5 (by kernel_rfl) tf0
  obtain ⟨vs0', bl0, n0, e0, L0, R0⟩ := r0 5 0
  obtain ⟨v1, vs1, d1, ds1, p1, q1, _, rfl, t1, hB1⟩ := Go.Eng.trodAll_cons hB0
  obtain ⟨x1, rfl, lo1, up1⟩ := Go.Eng.trod_int Try.underlying3 t1
  simp [IntKind.min, IntKind.max, IntKind.signed, IntKind.bits] at lo1 up1
  obtain ⟨v2, vs2, d2, ds2, p2, q2, _, rfl, t2, hB2⟩ := Go.Eng.trodAll_cons hB1
  obtain ⟨s2, hs2, by2, r2⟩ := Go.Eng.trod_hash Try.underlying24 Try.underlying5 t2
  obtain ⟨v3, vs3, d3, ds3, p3, q3, _, rfl, t3, hB3⟩ := Go.Eng.trodAll_cons hB2
  obtain ⟨x3, rfl, lo3, up3⟩ := Go.Eng.trod_int Try.underlying3 t3
  simp [IntKind.min, IntKind.max, IntKind.signed, IntKind.bits] at lo3 up3
  obtain ⟨v4, vs4, d4, ds4, p4, q4, _, rfl, t4, hB4⟩ := Go.Eng.trodAll_cons hB3
  obtain ⟨f4, tf4⟩ := id t4
  obtain ⟨l4, ok4, wt4, r4⟩ := Go.Eng.trod_hs (P := Try.prog) Try.underlying22 Try.underlying24 Try.underlying5 (by kernel_rfl) tf4
  obtain ⟨vs4', bl4, n4, e4, L4, R4⟩ := r4 5 n0
  obtain ⟨v5, vs5, d5, ds5, p5, q5, _, rfl, t5, hB5⟩ := Go.Eng.trodAll_cons hB4
  obtain ⟨x5, rfl, lo5, up5⟩ := Go.Eng.trod_int Try.underlying3 t5
  simp [IntKind.min, IntKind.max, IntKind.signed, IntKind.bits] at lo5 up5
  obtain rfl := Go.Eng.trodAll_end hB5
  have lay := (LayB.app L0 (LayB.app (LayB.nil _) (LayB.app (LayB.nil _) (LayB.app (LayB.nil _) (LayB.app L4 (LayB.app (LayB.nil _) (LayB.nil _)))))))
  have has := has_mk lay
  obtain ⟨a0, rfl, S0⟩ := R0 _ (has.l)
  obtain ⟨a4, rfl, S4⟩ := R4 _ (has.r.r.r.r.l)
  have hab : absA Try.prog 8 [22, 3, 24, 3, 22, 3] _ 0 = some ([.slice a0 l0.length none 32, .int .i64 x1, .agg (ofI .u8 s2), .int .i64 x3, .slice a4 l4.length none 32, .int .i64 x5], bl0 ++ ([] ++ ([] ++ ([] ++ (bl4 ++ ([] ++ ([])))))), n4) := (absA_cons e0 (argV_slc Try.underlying22 _) (absA_cons (absD_int' 7 Try.underlying3 x1 _) (argV_int Try.underlying3 _) (absA_cons (r2 6 _) (argV_arr Try.underlying24 _) (absA_cons (absD_int' 7 Try.underlying3 x3 _) (argV_int Try.underlying3 _) (absA_cons e4 (argV_slc Try.underlying22 _) (absA_cons (absD_int' 7 Try.underlying3 x5 _) (argV_int Try.underlying3 _) (absA_nil _ _ _)))))))
  have hrun := law_runX hX (P := Try.prog) (k := 3) kids full inRange hA hval hab (N := 3021) (by
    obtain ⟨h2, this⟩ := law_MerkleRoots (E := Edyn Try.prog) enMr eLaw 3001 (by decide) l0 l4 ok0 ok4 s2 hs2 by2 x1 x3 x5 (by omega) (by omega) a0 a4 (mkH (bl0 ++ ([] ++ ([] ++ ([] ++ (bl4 ++ ([] ++ ([]))))))) n4) S0 S4
    rw [show (k_purserlaw08_MerkleRoots : Nat) = 3 from rfl] at this
    rw [this]; rfl)
  exact hrun.mono fun e W' ⟨he, hl⟩ => ⟨_, he, law_post kids full (by rw [Try.params3]; exact inRange) hW' rfl rfl Try.underlying4 rfl hl⟩

theorem proved : Rows.MerkleRootsSaid :=
  OpenClaim.holds_of_wide 3 Try.f3 rfl rfl rfl rfl rfl rfl rfl ⟨rfl, rfl, rfl, rfl, rfl⟩ rfl rfl rfl rfl rfl (by kernel_rfl) Try.func3 (by kernel_rfl)
    (of_decide_eq_true (by kernel_rfl)) (by unfold Func.isWrapper; first | (rw [if_pos (by decide +kernel)]; kernel_rfl) | (rw [if_neg (by decide +kernel)]; exact ⟨rfl, rfl⟩))
    (fun os started H enc _ => lifted os started H enc)
end Go.Proofs.Ytcgfhdhjanmgaaa.lawMerkleRoots
