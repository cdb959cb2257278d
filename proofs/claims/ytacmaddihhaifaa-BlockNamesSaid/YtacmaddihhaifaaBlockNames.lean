/- The closed statement BlockNames: the call returns true and leaves all memory that was there as it was. By an evaluation of the program on abstract heaps that is proved to say what the machine does, on every tape, order and capacity. No condition. -/
import Derived.Test.YtacmaddihhaifaaEngF
import Derived.Test.YtacmaddihhaifaaRows
import Derived.ProofKit
namespace Go.Proofs.Ytacmaddihhaifaa.namesBlockNames
open Go Go.Eng Go.ChangeShapes Go.WideShapes Go.ChangeAt Go.RowKit

theorem own : ownKnob Try.prog.godebug = none := by kernel_rfl

abbrev gg : Gn := ⟨id, id, fun _ _ h => h⟩
def l0 : List Memo := []
theorem a0 : ∀ m ∈ l0, MemoOk Try.prog gg m := by simp [l0]
def m1 : Memo := ⟨92, [(.agg [(.int .u8 74), (.int .u8 94), (.int .u8 30), (.int .u8 75), (.int .u8 170), (.int .u8 184), (.int .u8 159), (.int .u8 58), (.int .u8 50), (.int .u8 81), (.int .u8 138), (.int .u8 136), (.int .u8 195), (.int .u8 27), (.int .u8 200), (.int .u8 127), (.int .u8 97), (.int .u8 143), (.int .u8 118), (.int .u8 103), (.int .u8 62), (.int .u8 44), (.int .u8 199), (.int .u8 122), (.int .u8 178), (.int .u8 18), (.int .u8 123), (.int .u8 122), (.int .u8 253), (.int .u8 237), (.int .u8 163), (.int .u8 59)])], (.agg [(.int .u8 59), (.int .u8 163), (.int .u8 237), (.int .u8 253), (.int .u8 122), (.int .u8 123), (.int .u8 18), (.int .u8 178), (.int .u8 122), (.int .u8 199), (.int .u8 44), (.int .u8 62), (.int .u8 103), (.int .u8 118), (.int .u8 143), (.int .u8 97), (.int .u8 127), (.int .u8 200), (.int .u8 27), (.int .u8 195), (.int .u8 136), (.int .u8 138), (.int .u8 81), (.int .u8 50), (.int .u8 58), (.int .u8 159), (.int .u8 184), (.int .u8 170), (.int .u8 75), (.int .u8 30), (.int .u8 94), (.int .u8 74)])⟩
set_option maxRecDepth 1000000 in
theorem k1 : MemoOk Try.prog gg m1 := memo_dyn Try.prog a0 5000 m1 (by kernel_rfl)
def l1 : List Memo := m1 :: l0
theorem a1 : ∀ m ∈ l1, MemoOk Try.prog gg m := List.forall_mem_cons.2 ⟨k1, a0⟩
def m2 : Memo := ⟨33, [(.str [52, 97, 53, 101, 49, 101, 52, 98, 97, 97, 98, 56, 57, 102, 51, 97, 51, 50, 53, 49, 56, 97, 56, 56, 99, 51, 49, 98, 99, 56, 55, 102, 54, 49, 56, 102, 55, 54, 54, 55, 51, 101, 50, 99, 99, 55, 55, 97, 98, 50, 49, 50, 55, 98, 55, 97, 102, 100, 101, 100, 97, 51, 51, 98])], (.tup [(.agg [(.int .u8 59), (.int .u8 163), (.int .u8 237), (.int .u8 253), (.int .u8 122), (.int .u8 123), (.int .u8 18), (.int .u8 178), (.int .u8 122), (.int .u8 199), (.int .u8 44), (.int .u8 62), (.int .u8 103), (.int .u8 118), (.int .u8 143), (.int .u8 97), (.int .u8 127), (.int .u8 200), (.int .u8 27), (.int .u8 195), (.int .u8 136), (.int .u8 138), (.int .u8 81), (.int .u8 50), (.int .u8 58), (.int .u8 159), (.int .u8 184), (.int .u8 170), (.int .u8 75), (.int .u8 30), (.int .u8 94), (.int .u8 74)]), (.int .i64 0)])⟩
set_option maxRecDepth 1000000 in
theorem k2 : MemoOk Try.prog gg m2 := memo_dyn Try.prog a1 5000 m2 (by kernel_rfl)
def l2 : List Memo := m2 :: l1
theorem a2 : ∀ m ∈ l2, MemoOk Try.prog gg m := List.forall_mem_cons.2 ⟨k2, a1⟩
def m3 : Memo := ⟨28, [], (.agg [(.int .u32 1), (.int .u8 0), (.int .u8 0), (.int .u8 0), (.int .u8 0), (.int .u8 0), (.int .u8 0), (.int .u8 0), (.int .u8 0), (.int .u8 0), (.int .u8 0), (.int .u8 0), (.int .u8 0), (.int .u8 0), (.int .u8 0), (.int .u8 0), (.int .u8 0), (.int .u8 0), (.int .u8 0), (.int .u8 0), (.int .u8 0), (.int .u8 0), (.int .u8 0), (.int .u8 0), (.int .u8 0), (.int .u8 0), (.int .u8 0), (.int .u8 0), (.int .u8 0), (.int .u8 0), (.int .u8 0), (.int .u8 0), (.int .u8 0), (.int .u8 59), (.int .u8 163), (.int .u8 237), (.int .u8 253), (.int .u8 122), (.int .u8 123), (.int .u8 18), (.int .u8 178), (.int .u8 122), (.int .u8 199), (.int .u8 44), (.int .u8 62), (.int .u8 103), (.int .u8 118), (.int .u8 143), (.int .u8 97), (.int .u8 127), (.int .u8 200), (.int .u8 27), (.int .u8 195), (.int .u8 136), (.int .u8 138), (.int .u8 81), (.int .u8 50), (.int .u8 58), (.int .u8 159), (.int .u8 184), (.int .u8 170), (.int .u8 75), (.int .u8 30), (.int .u8 94), (.int .u8 74), (.int .u32 1231006505), (.int .u32 486604799), (.int .u32 2083236893)])⟩
set_option maxRecDepth 1000000 in
theorem k3 : MemoOk Try.prog gg m3 := memo_dyn Try.prog a2 5000 m3 (by kernel_rfl)
def l3 : List Memo := m3 :: l2
theorem a3 : ∀ m ∈ l3, MemoOk Try.prog gg m := List.forall_mem_cons.2 ⟨k3, a2⟩
def m4 : Memo := ⟨33, [(.str [120])], (.tup [(.agg [(.int .u8 0), (.int .u8 0), (.int .u8 0), (.int .u8 0), (.int .u8 0), (.int .u8 0), (.int .u8 0), (.int .u8 0), (.int .u8 0), (.int .u8 0), (.int .u8 0), (.int .u8 0), (.int .u8 0), (.int .u8 0), (.int .u8 0), (.int .u8 0), (.int .u8 0), (.int .u8 0), (.int .u8 0), (.int .u8 0), (.int .u8 0), (.int .u8 0), (.int .u8 0), (.int .u8 0), (.int .u8 0), (.int .u8 0), (.int .u8 0), (.int .u8 0), (.int .u8 0), (.int .u8 0), (.int .u8 0), (.int .u8 0)]), (.int .i64 70)])⟩
set_option maxRecDepth 1000000 in
theorem k4 : MemoOk Try.prog gg m4 := memo_dyn Try.prog a3 5000 m4 (by kernel_rfl)
def l4 : List Memo := m4 :: l3
theorem a4 : ∀ m ∈ l4, MemoOk Try.prog gg m := List.forall_mem_cons.2 ⟨k4, a3⟩
def m5 : Memo := ⟨33, [(.str [52, 65, 53, 101, 49, 101, 52, 98, 97, 97, 98, 56, 57, 102, 51, 97, 51, 50, 53, 49, 56, 97, 56, 56, 99, 51, 49, 98, 99, 56, 55, 102, 54, 49, 56, 102, 55, 54, 54, 55, 51, 101, 50, 99, 99, 55, 55, 97, 98, 50, 49, 50, 55, 98, 55, 97, 102, 100, 101, 100, 97, 51, 51, 98])], (.tup [(.agg [(.int .u8 0), (.int .u8 0), (.int .u8 0), (.int .u8 0), (.int .u8 0), (.int .u8 0), (.int .u8 0), (.int .u8 0), (.int .u8 0), (.int .u8 0), (.int .u8 0), (.int .u8 0), (.int .u8 0), (.int .u8 0), (.int .u8 0), (.int .u8 0), (.int .u8 0), (.int .u8 0), (.int .u8 0), (.int .u8 0), (.int .u8 0), (.int .u8 0), (.int .u8 0), (.int .u8 0), (.int .u8 0), (.int .u8 0), (.int .u8 0), (.int .u8 0), (.int .u8 0), (.int .u8 0), (.int .u8 0), (.int .u8 0)]), (.int .i64 70)])⟩
set_option maxRecDepth 1000000 in
theorem k5 : MemoOk Try.prog gg m5 := memo_dyn Try.prog a4 5000 m5 (by kernel_rfl)
def l5 : List Memo := m5 :: l4
theorem a5 : ∀ m ∈ l5, MemoOk Try.prog gg m := List.forall_mem_cons.2 ⟨k5, a4⟩
def m6 : Memo := ⟨142, [], (.agg [(.int .u32 1779033703), (.int .u32 3144134277), (.int .u32 1013904242), (.int .u32 2773480762), (.int .u32 1359893119), (.int .u32 2600822924), (.int .u32 528734635), (.int .u32 1541459225)])⟩
set_option maxRecDepth 1000000 in
theorem k6 : MemoOk Try.prog gg m6 := memo_dyn Try.prog a5 5000 m6 (by kernel_rfl)
def l6 : List Memo := m6 :: l5
theorem a6 : ∀ m ∈ l6, MemoOk Try.prog gg m := List.forall_mem_cons.2 ⟨k6, a5⟩
def m7 : Memo := ⟨187, [], (.agg [(.int .u32 1116352408), (.int .u32 1899447441), (.int .u32 3049323471), (.int .u32 3921009573), (.int .u32 961987163), (.int .u32 1508970993), (.int .u32 2453635748), (.int .u32 2870763221), (.int .u32 3624381080), (.int .u32 310598401), (.int .u32 607225278), (.int .u32 1426881987), (.int .u32 1925078388), (.int .u32 2162078206), (.int .u32 2614888103), (.int .u32 3248222580), (.int .u32 3835390401), (.int .u32 4022224774), (.int .u32 264347078), (.int .u32 604807628), (.int .u32 770255983), (.int .u32 1249150122), (.int .u32 1555081692), (.int .u32 1996064986), (.int .u32 2554220882), (.int .u32 2821834349), (.int .u32 2952996808), (.int .u32 3210313671), (.int .u32 3336571891), (.int .u32 3584528711), (.int .u32 113926993), (.int .u32 338241895), (.int .u32 666307205), (.int .u32 773529912), (.int .u32 1294757372), (.int .u32 1396182291), (.int .u32 1695183700), (.int .u32 1986661051), (.int .u32 2177026350), (.int .u32 2456956037), (.int .u32 2730485921), (.int .u32 2820302411), (.int .u32 3259730800), (.int .u32 3345764771), (.int .u32 3516065817), (.int .u32 3600352804), (.int .u32 4094571909), (.int .u32 275423344), (.int .u32 430227734), (.int .u32 506948616), (.int .u32 659060556), (.int .u32 883997877), (.int .u32 958139571), (.int .u32 1322822218), (.int .u32 1537002063), (.int .u32 1747873779), (.int .u32 1955562222), (.int .u32 2024104815), (.int .u32 2227730452), (.int .u32 2361852424), (.int .u32 2428436474), (.int .u32 2756734187), (.int .u32 3204031479), (.int .u32 3329325298)])⟩
set_option maxRecDepth 1000000 in
theorem k7 : MemoOk Try.prog gg m7 := memo_dyn Try.prog a6 5000 m7 (by kernel_rfl)
def l7 : List Memo := m7 :: l6
theorem a7 : ∀ m ∈ l7, MemoOk Try.prog gg m := List.forall_mem_cons.2 ⟨k7, a6⟩
def m8 : Memo := ⟨94, [(.agg [(.int .u32 1), (.int .u8 0), (.int .u8 0), (.int .u8 0), (.int .u8 0), (.int .u8 0), (.int .u8 0), (.int .u8 0), (.int .u8 0), (.int .u8 0), (.int .u8 0), (.int .u8 0), (.int .u8 0), (.int .u8 0), (.int .u8 0), (.int .u8 0), (.int .u8 0), (.int .u8 0), (.int .u8 0), (.int .u8 0), (.int .u8 0), (.int .u8 0), (.int .u8 0), (.int .u8 0), (.int .u8 0), (.int .u8 0), (.int .u8 0), (.int .u8 0), (.int .u8 0), (.int .u8 0), (.int .u8 0), (.int .u8 0), (.int .u8 0), (.int .u8 59), (.int .u8 163), (.int .u8 237), (.int .u8 253), (.int .u8 122), (.int .u8 123), (.int .u8 18), (.int .u8 178), (.int .u8 122), (.int .u8 199), (.int .u8 44), (.int .u8 62), (.int .u8 103), (.int .u8 118), (.int .u8 143), (.int .u8 97), (.int .u8 127), (.int .u8 200), (.int .u8 27), (.int .u8 195), (.int .u8 136), (.int .u8 138), (.int .u8 81), (.int .u8 50), (.int .u8 58), (.int .u8 159), (.int .u8 184), (.int .u8 170), (.int .u8 75), (.int .u8 30), (.int .u8 94), (.int .u8 74), (.int .u32 1231006505), (.int .u32 486604799), (.int .u32 2083236893)])], (.agg [(.int .u8 111), (.int .u8 226), (.int .u8 140), (.int .u8 10), (.int .u8 182), (.int .u8 241), (.int .u8 179), (.int .u8 114), (.int .u8 193), (.int .u8 166), (.int .u8 162), (.int .u8 70), (.int .u8 174), (.int .u8 99), (.int .u8 247), (.int .u8 79), (.int .u8 147), (.int .u8 30), (.int .u8 131), (.int .u8 101), (.int .u8 225), (.int .u8 90), (.int .u8 8), (.int .u8 156), (.int .u8 104), (.int .u8 214), (.int .u8 25), (.int .u8 0), (.int .u8 0), (.int .u8 0), (.int .u8 0), (.int .u8 0)])⟩
set_option maxRecDepth 1000000 in
theorem k8 : MemoOk Try.prog gg m8 := memo_dyn Try.prog a7 5000 m8 (by kernel_rfl)
def l8 : List Memo := m8 :: l7
theorem a8 : ∀ m ∈ l8, MemoOk Try.prog gg m := List.forall_mem_cons.2 ⟨k8, a7⟩
def m9 : Memo := ⟨92, [(.agg [(.int .u8 111), (.int .u8 226), (.int .u8 140), (.int .u8 10), (.int .u8 182), (.int .u8 241), (.int .u8 179), (.int .u8 114), (.int .u8 193), (.int .u8 166), (.int .u8 162), (.int .u8 70), (.int .u8 174), (.int .u8 99), (.int .u8 247), (.int .u8 79), (.int .u8 147), (.int .u8 30), (.int .u8 131), (.int .u8 101), (.int .u8 225), (.int .u8 90), (.int .u8 8), (.int .u8 156), (.int .u8 104), (.int .u8 214), (.int .u8 25), (.int .u8 0), (.int .u8 0), (.int .u8 0), (.int .u8 0), (.int .u8 0)])], (.agg [(.int .u8 0), (.int .u8 0), (.int .u8 0), (.int .u8 0), (.int .u8 0), (.int .u8 25), (.int .u8 214), (.int .u8 104), (.int .u8 156), (.int .u8 8), (.int .u8 90), (.int .u8 225), (.int .u8 101), (.int .u8 131), (.int .u8 30), (.int .u8 147), (.int .u8 79), (.int .u8 247), (.int .u8 99), (.int .u8 174), (.int .u8 70), (.int .u8 162), (.int .u8 166), (.int .u8 193), (.int .u8 114), (.int .u8 179), (.int .u8 241), (.int .u8 182), (.int .u8 10), (.int .u8 140), (.int .u8 226), (.int .u8 111)])⟩
set_option maxRecDepth 1000000 in
theorem k9 : MemoOk Try.prog gg m9 := memo_dyn Try.prog a8 5000 m9 (by kernel_rfl)
def l9 : List Memo := m9 :: l8
theorem a9 : ∀ m ∈ l9, MemoOk Try.prog gg m := List.forall_mem_cons.2 ⟨k9, a8⟩
def m10 : Memo := ⟨93, [(.agg [(.int .u8 111), (.int .u8 226), (.int .u8 140), (.int .u8 10), (.int .u8 182), (.int .u8 241), (.int .u8 179), (.int .u8 114), (.int .u8 193), (.int .u8 166), (.int .u8 162), (.int .u8 70), (.int .u8 174), (.int .u8 99), (.int .u8 247), (.int .u8 79), (.int .u8 147), (.int .u8 30), (.int .u8 131), (.int .u8 101), (.int .u8 225), (.int .u8 90), (.int .u8 8), (.int .u8 156), (.int .u8 104), (.int .u8 214), (.int .u8 25), (.int .u8 0), (.int .u8 0), (.int .u8 0), (.int .u8 0), (.int .u8 0)])], (.str [48, 48, 48, 48, 48, 48, 48, 48, 48, 48, 49, 57, 100, 54, 54, 56, 57, 99, 48, 56, 53, 97, 101, 49, 54, 53, 56, 51, 49, 101, 57, 51, 52, 102, 102, 55, 54, 51, 97, 101, 52, 54, 97, 50, 97, 54, 99, 49, 55, 50, 98, 51, 102, 49, 98, 54, 48, 97, 56, 99, 101, 50, 54, 102])⟩
set_option maxRecDepth 1000000 in
theorem k10 : MemoOk Try.prog gg m10 := memo_dyn Try.prog a9 5000 m10 (by kernel_rfl)
def l10 : List Memo := m10 :: l9
theorem a10 : ∀ m ∈ l10, MemoOk Try.prog gg m := List.forall_mem_cons.2 ⟨k10, a9⟩
def m11 : Memo := ⟨34, [], (.bool true)⟩
set_option maxRecDepth 1000000 in
theorem k11 : MemoOk Try.prog gg m11 := memo_dyn Try.prog a10 5000 m11 (by kernel_rfl)
def l11 : List Memo := m11 :: l10
theorem a11 : ∀ m ∈ l11, MemoOk Try.prog gg m := List.forall_mem_cons.2 ⟨k11, a10⟩
set_option maxRecDepth 1000000 in
theorem names : isTrue (callM (Edyn Try.prog) l11 5000 (.fn 5) [] Eng.H.empty) = true := by kernel_rfl

set_option maxRecDepth 100000 in
theorem lifted (os : Os) (started : os.Started) (H : Type) (enc : TypeId × Value → H) :
    ReturnsInHanded {} Try.checked os 5 .any (Rows.blockNamesSpec.pre6 enc Try.prog Try.f5 Rows.blockNamesRow.domain false) (Rows.blockNamesSpec.post enc Try.prog Try.f5 false true false false) := by
  refine returnsInHanded_of_change (C := Try.checked) own started (by kernel_rfl) Try.func5
    (ChangeSpec.witness6 (enc := enc) (C := Try.checked) false ⟨#[], #[], []⟩ 8 (by kernel_rfl) (by kernel_rfl) (by kernel_rfl) (by kernel_rfl)) ?_
  intro W base args ds gs before hval0 hW hcnd _
  have hW' := hW
  obtain ⟨p, q, hA0, hV, rfl, hfz, hnd⟩ := hW
  have hA : DataW.TrodAll enc Try.prog W 0 (fun _ => true) true Try.f5.params.toList args.toList ds p := hA0
  rw [Try.params5] at hA
  obtain ⟨e1, rfl, rfl⟩ := trodAll_nil hA
  obtain rfl : args = #[] := by cases args; simp_all
  obtain ⟨rfl, rfl⟩ := trodVars_none hV
  clear hA0
  simp only [List.append_nil] at hW'
  refine (runs_trueM Try.prog a11 5000 5 names W).mono fun e W' ⟨he, hg⟩ => ?_
  subst he
  refine ⟨_, rfl, [], [], [], [], [], [], hW', trodAll_mk1 (shut_bool Try.underlying4 _), trodAll_mk0, rfl, World.keptBut_mono (fun _ h => h.elim) hg.1, fun h => by cases h⟩

theorem proved : Rows.BlockNamesSaid :=
  OpenClaim.holds_of_wide 5 Try.f5 rfl rfl rfl rfl rfl rfl rfl ⟨rfl, rfl, rfl, rfl, rfl⟩ rfl rfl rfl rfl rfl (by kernel_rfl) Try.func5 (by kernel_rfl)
    (of_decide_eq_true (by kernel_rfl)) (by unfold Func.isWrapper; first | (rw [if_pos (by decide +kernel)]; kernel_rfl) | (rw [if_neg (by decide +kernel)]; exact ⟨rfl, rfl⟩))
    (fun os started H enc _ => lifted os started H enc)
end Go.Proofs.Ytacmaddihhaifaa.namesBlockNames
