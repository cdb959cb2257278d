/- MerkleProves: for every input the call returns true and the arguments read as before. The program is run on abstract heaps (an evaluation that is proved to say what the machine does on every tape, order and capacity), with unknown numbers. No condition. -/
import Derived.Test.YtcgfhdhjanmgaaaMpJ
import Derived.Test.YtcgfhdhjanmgaaaRows
import Derived.ProofKit
import Derived.SizedLaws
namespace Go.Proofs.Ytcgfhdhjanmgaaa.lawMerkleProves
open Go Go.Eng Go.ChangeShapes Go.WideShapes Go.ChangeAt Go.RowKit

theorem own : ownKnob Try.prog.godebug = none := by kernel_rfl
theorem kids : Kids Try.prog (· < Try.prog.types.size) := kids_rows (by kernel_rfl) (by kernel_rfl)
theorem full : ∀ t e, t < Try.prog.types.size → Try.prog.underlying t = some (.slice e) → 0 < Try.prog.cellsOf e := slices_full_of Try.prog (by kernel_rfl)
theorem inRange : ∀ t ∈ [22, 24, 5], t < Try.prog.types.size := by
  intro t ht
  have h : ([22, 24, 5].all fun t => decide (t < Try.prog.types.size)) = true := by kernel_rfl
  exact of_decide_eq_true (List.all_eq_true.1 h t ht)
theorem eLaw : Edyn Try.prog k_purserlaw08_MerkleProves = some f_purserlaw08_MerkleProves := by kernel_rfl
theorem enSha : EnSha (Edyn Try.prog) := ⟨by kernel_rfl, by kernel_rfl, by kernel_rfl, by kernel_rfl, by kernel_rfl, by kernel_rfl, by kernel_rfl, by kernel_rfl, by kernel_rfl, by kernel_rfl, by kernel_rfl, by kernel_rfl, by kernel_rfl⟩
theorem eOf : Edyn Try.prog k_sha_Of = some f_sha_Of := by kernel_rfl
theorem eTw : Edyn Try.prog k_sha_Twice = some f_sha_Twice := by kernel_rfl
theorem enCat : EnCat (Edyn Try.prog) := ⟨by kernel_rfl, by kernel_rfl⟩
theorem enAb : EnAb (Edyn Try.prog) := ⟨enCat, by kernel_rfl, by kernel_rfl, eTw⟩
theorem enPr : EnPr (Edyn Try.prog) := ⟨by kernel_rfl, by kernel_rfl, by kernel_rfl⟩
theorem enLv : EnLv (Edyn Try.prog) := ⟨enAb, enPr, by kernel_rfl, by kernel_rfl⟩
theorem enRt : EnRt (Edyn Try.prog) := ⟨enLv, by kernel_rfl⟩
set_option maxRecDepth 1000000 in
theorem aliveRun : isTrue (callX (Edyn Try.prog) (bytesX k_sha_Of ofF) 3000 (.fn k_purserlaw08_alive) [] Eng.H.empty) = true := by kernel_rfl
theorem hO : QOk Try.prog ⟨id, id, fun _ _ h => h⟩ ofX1 := ofX_ok (link_dyn Try.prog) enSha eOf
theorem hX1 : QOk Try.prog ⟨id, id, fun _ _ h => h⟩ (shX k_purserlaw08_alive) := orX_ok hO (aliveX_ok (link_dyn Try.prog) hO (by have h := aliveRun; rw [ofX1_eq] at h; exact h))
theorem hX : QOk Try.prog ⟨id, id, fun _ _ h => h⟩ (stX k_purserlaw08_alive) := orX_ok (twX_ok (link_dyn Try.prog) eTw hO) hX1
theorem enPv : EnPv (Edyn Try.prog) := ⟨enRt, ⟨enLv, by kernel_rfl⟩, ⟨enAb, by kernel_rfl⟩, ⟨by kernel_rfl, by kernel_rfl⟩, by kernel_rfl⟩


set_option maxRecDepth 100000 in
theorem lifted (os : Os) (started : os.Started) (H : Type) (enc : TypeId × Value → H) :
    ReturnsInHanded {} Try.checked os 4 .any (Rows.merkleProvesSpec.pre6 enc Try.prog Try.f4 Rows.merkleProvesRow.domain false) (Rows.merkleProvesSpec.post enc Try.prog Try.f4 false true false false) := by
  refine returnsInHanded_of_change_sized (C := Try.checked) own started (by kernel_rfl) Try.func4
    (ChangeSpec.witness6 (enc := enc) (C := Try.checked) false ⟨#[], #[.slice none 0 0, .agg #[.int .u8 0, .int .u8 0, .int .u8 0, .int .u8 0, .int .u8 0, .int .u8 0, .int .u8 0, .int .u8 0, .int .u8 0, .int .u8 0, .int .u8 0, .int .u8 0, .int .u8 0, .int .u8 0, .int .u8 0, .int .u8 0, .int .u8 0, .int .u8 0, .int .u8 0, .int .u8 0, .int .u8 0, .int .u8 0, .int .u8 0, .int .u8 0, .int .u8 0, .int .u8 0, .int .u8 0, .int .u8 0, .int .u8 0, .int .u8 0, .int .u8 0, .int .u8 0], .int .u8 0], []⟩ 8 (by kernel_rfl) (by kernel_rfl) (by kernel_rfl) (by kernel_rfl)) ?_
  intro W base args ds gs before hval0 hW hcnd hsz _
  have hW' := hW
  obtain ⟨p, q, hA0, hV, _, _, _⟩ := hW
  obtain ⟨rfl, _⟩ := trodVars_none hV
  have hval : ∀ (j : Nat) t v, Try.f4.params.toList[j]? = some t → args.toList[j]? = some v → Value.okWide Try.prog W .any base t v := fun j t v h1 h2 => hval0 j t v (by rw [← Array.getElem?_toList]; exact h1) (by rw [← Array.getElem?_toList]; exact h2)
  rw [Try.params4] at hA0 hval hsz
  have hwt : ∀ (j : Nat) (t : TypeId) (d : DataW H), ([22, 24, 5] : List TypeId)[j]? = some t → ds[j]? = some d → ∀ n ∈ d.weights Try.prog t, n ≤ reachBytes := fun j t d h1 h2 n hn => by
    have h3 := List.all_eq_true.1 hsz n (by rw [show Rows.merkleProvesSpec.plain.varTypes Try.checked.prog = [] from rfl, List.append_nil, List.append_nil]; exact DataW.weights_mem_each (j := j) h1 h2 n hn)
    simpa using h3
  have hA : DataW.TrodAll enc Try.prog W 0 (fun _ => true) true [22, 24, 5] args.toList ds p := hA0
  obtain ⟨v0, vs0, d0, ds0, p0, q0, _, rfl, t0, hB0⟩ := Go.Eng.trodAll_cons hA
  obtain ⟨f0, tf0⟩ := id t0
  obtain ⟨l0, ok0, wt0, r0⟩ := Go.Eng.trod_hs (P := Try.prog) Try.underlying22 Try.underlying24 Try.underlying5 (by kernel_rfl) tf0
  obtain ⟨vs0', bl0, n0, e0, L0, R0⟩ := r0 5 0
  obtain ⟨v1, vs1, d1, ds1, p1, q1, _, rfl, t1, hB1⟩ := Go.Eng.trodAll_cons hB0
  obtain ⟨s1, hs1, by1, r1⟩ := Go.Eng.trod_hash Try.underlying24 Try.underlying5 t1
  obtain ⟨v2, vs2, d2, ds2, p2, q2, _, rfl, t2, hB2⟩ := Go.Eng.trodAll_cons hB1
  obtain ⟨x2, rfl, lo2, up2⟩ := Go.Eng.trod_int Try.underlying5 t2
  simp [IntKind.min, IntKind.max, IntKind.signed, IntKind.bits] at lo2 up2
  obtain rfl := Go.Eng.trodAll_end hB2
  have lay := (LayB.app L0 (LayB.app (LayB.nil _) (LayB.app (LayB.nil _) (LayB.nil _))))
  have has := has_mk lay
  obtain ⟨a0, rfl, S0⟩ := R0 _ (has.l)
  have hab : absA Try.prog 8 [22, 24, 5] _ 0 = some ([.slice a0 l0.length none 32, .agg (ofI .u8 s1), .int .u8 x2], bl0 ++ ([] ++ ([] ++ ([]))), n0) := (absA_cons e0 (argV_slc Try.underlying22 _) (absA_cons (r1 6 _) (argV_arr Try.underlying24 _) (absA_cons (absD_int' 7 Try.underlying5 x2 _) (argV_int Try.underlying5 _) (absA_nil _ _ _))))
  have hrun := law_runX hX (P := Try.prog) (k := 4) kids full inRange hA hval hab (N := 2021) (by
    have wl := wt0 (by kernel_rfl) reachBytes (hwt 0 _ _ rfl rfl)
    obtain ⟨m2, rfl⟩ := Int.eq_ofNat_of_zero_le lo2
    obtain ⟨h2, this⟩ := law_MerkleProves (E := Edyn Try.prog) enPv eLaw 2001 (by decide) l0 ok0 (Nat.lt_of_le_of_lt wl (by decide)) s1 hs1 m2 (by omega) a0 (mkH (bl0 ++ ([] ++ ([] ++ ([])))) n0) S0
    rw [show (k_purserlaw08_MerkleProves : Nat) = 4 from rfl] at this
    rw [this]; rfl)
  exact hrun.mono fun e W' ⟨he, hl⟩ => ⟨_, he, law_post kids full (by rw [Try.params4]; exact inRange) hW' rfl rfl Try.underlying4 rfl hl⟩

theorem proved : Rows.MerkleProvesSaid :=
  OpenClaim.holds_of_wide 4 Try.f4 rfl rfl rfl rfl rfl rfl rfl ⟨rfl, rfl, rfl, rfl, rfl⟩ rfl rfl rfl rfl rfl (by kernel_rfl) Try.func4 (by kernel_rfl)
    (of_decide_eq_true (by kernel_rfl)) (by unfold Func.isWrapper; first | (rw [if_pos (by decide +kernel)]; kernel_rfl) | (rw [if_neg (by decide +kernel)]; exact ⟨rfl, rfl⟩))
    (fun os started H enc _ => lifted os started H enc)
end Go.Proofs.Ytcgfhdhjanmgaaa.lawMerkleProves
