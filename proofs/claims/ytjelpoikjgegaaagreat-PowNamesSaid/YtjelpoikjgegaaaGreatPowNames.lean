/- The closed statement PowNames: the call returns true and leaves all memory that was there as it was. By an evaluation of the program on abstract heaps that is proved to say what the machine does, on every tape, order and capacity. No condition. -/
import Derived.Test.YtjelpoikjgegaaaGreatWdC
import Derived.Test.YtjelpoikjgegaaaGreatRows
import Derived.ProofKit
namespace Go.Proofs.YtjelpoikjgegaaaGreat.namesPowNames
open Go Go.Eng Go.ChangeShapes Go.WideShapes Go.ChangeAt Go.RowKit

theorem own : ownKnob Tryz.prog.godebug = none := by kernel_rfl

abbrev gg : Gn := ⟨id, id, fun _ _ h => h⟩
theorem wideF : WideFE (Edyn Tryz.prog) := ⟨by kernel_rfl, by kernel_rfl, by kernel_rfl, by kernel_rfl, by kernel_rfl, by kernel_rfl, by kernel_rfl, by kernel_rfl, by kernel_rfl, by kernel_rfl, by kernel_rfl, by kernel_rfl, by kernel_rfl, by kernel_rfl, by kernel_rfl⟩
noncomputable def X0 : Orc := wideXD
theorem x0 : QOk Tryz.prog gg X0 := wideXD_ok (link_dyn Tryz.prog) wideF
def m1 : Kn := ⟨129, [], (.agg [(.int .u32 1779033703), (.int .u32 3144134277), (.int .u32 1013904242), (.int .u32 2773480762), (.int .u32 1359893119), (.int .u32 2600822924), (.int .u32 528734635), (.int .u32 1541459225)])⟩
set_option maxRecDepth 1000000 in
theorem k1 : KnOk Tryz.prog gg m1 := kn_dyn Tryz.prog x0 5000 m1 (by kernel_rfl)
def l1_129 : List Kn := [m1]
theorem a1_129 : ∀ m ∈ l1_129, m.f = 129 ∧ KnOk Tryz.prog gg m := by
  unfold l1_129
  refine List.forall_mem_cons.2 ⟨⟨rfl, k1⟩, ?_⟩
  exact fun _ h => absurd h List.not_mem_nil
noncomputable def X1_129 : Orc := orX (fnX 129 l1_129) X0
theorem x1_129 : QOk Tryz.prog gg X1_129 := orX_ok (fnX_ok a1_129) x0
def m2 : Kn := ⟨137, [], (.agg [(.int .u32 1116352408), (.int .u32 1899447441), (.int .u32 3049323471), (.int .u32 3921009573), (.int .u32 961987163), (.int .u32 1508970993), (.int .u32 2453635748), (.int .u32 2870763221), (.int .u32 3624381080), (.int .u32 310598401), (.int .u32 607225278), (.int .u32 1426881987), (.int .u32 1925078388), (.int .u32 2162078206), (.int .u32 2614888103), (.int .u32 3248222580), (.int .u32 3835390401), (.int .u32 4022224774), (.int .u32 264347078), (.int .u32 604807628), (.int .u32 770255983), (.int .u32 1249150122), (.int .u32 1555081692), (.int .u32 1996064986), (.int .u32 2554220882), (.int .u32 2821834349), (.int .u32 2952996808), (.int .u32 3210313671), (.int .u32 3336571891), (.int .u32 3584528711), (.int .u32 113926993), (.int .u32 338241895), (.int .u32 666307205), (.int .u32 773529912), (.int .u32 1294757372), (.int .u32 1396182291), (.int .u32 1695183700), (.int .u32 1986661051), (.int .u32 2177026350), (.int .u32 2456956037), (.int .u32 2730485921), (.int .u32 2820302411), (.int .u32 3259730800), (.int .u32 3345764771), (.int .u32 3516065817), (.int .u32 3600352804), (.int .u32 4094571909), (.int .u32 275423344), (.int .u32 430227734), (.int .u32 506948616), (.int .u32 659060556), (.int .u32 883997877), (.int .u32 958139571), (.int .u32 1322822218), (.int .u32 1537002063), (.int .u32 1747873779), (.int .u32 1955562222), (.int .u32 2024104815), (.int .u32 2227730452), (.int .u32 2361852424), (.int .u32 2428436474), (.int .u32 2756734187), (.int .u32 3204031479), (.int .u32 3329325298)])⟩
set_option maxRecDepth 1000000 in
theorem k2 : KnOk Tryz.prog gg m2 := kn_dyn Tryz.prog x0 5000 m2 (by kernel_rfl)
def l1_137 : List Kn := [m2]
theorem a1_137 : ∀ m ∈ l1_137, m.f = 137 ∧ KnOk Tryz.prog gg m := by
  unfold l1_137
  refine List.forall_mem_cons.2 ⟨⟨rfl, k2⟩, ?_⟩
  exact fun _ h => absurd h List.not_mem_nil
noncomputable def X1_137 : Orc := orX (fnX 137 l1_137) X1_129
theorem x1_137 : QOk Tryz.prog gg X1_137 := orX_ok (fnX_ok a1_137) x1_129
def m3 : Kn := ⟨82, [.s [(.int .u8 1), (.int .u8 0), (.int .u8 0), (.int .u8 0), (.int .u8 1), (.int .u8 0), (.int .u8 0), (.int .u8 0), (.int .u8 0), (.int .u8 0), (.int .u8 0), (.int .u8 0), (.int .u8 0), (.int .u8 0), (.int .u8 0), (.int .u8 0), (.int .u8 0), (.int .u8 0), (.int .u8 0), (.int .u8 0), (.int .u8 0), (.int .u8 0), (.int .u8 0), (.int .u8 0), (.int .u8 0), (.int .u8 0), (.int .u8 0), (.int .u8 0), (.int .u8 0), (.int .u8 0), (.int .u8 0), (.int .u8 0), (.int .u8 0), (.int .u8 0), (.int .u8 0), (.int .u8 0), (.int .u8 0), (.int .u8 255), (.int .u8 255), (.int .u8 255), (.int .u8 255), (.int .u8 7), (.int .u8 103), (.int .u8 101), (.int .u8 110), (.int .u8 101), (.int .u8 115), (.int .u8 105), (.int .u8 115), (.int .u8 255), (.int .u8 255), (.int .u8 255), (.int .u8 255), (.int .u8 1), (.int .u8 136), (.int .u8 19), (.int .u8 0), (.int .u8 0), (.int .u8 0), (.int .u8 0), (.int .u8 0), (.int .u8 0), (.int .u8 1), (.int .u8 106), (.int .u8 0), (.int .u8 0), (.int .u8 0), (.int .u8 0)] 68 1 none], (.agg [(.int .u8 2), (.int .u8 108), (.int .u8 145), (.int .u8 95), (.int .u8 222), (.int .u8 234), (.int .u8 36), (.int .u8 198), (.int .u8 247), (.int .u8 188), (.int .u8 162), (.int .u8 78), (.int .u8 119), (.int .u8 251), (.int .u8 156), (.int .u8 245), (.int .u8 11), (.int .u8 157), (.int .u8 62), (.int .u8 167), (.int .u8 134), (.int .u8 100), (.int .u8 115), (.int .u8 21), (.int .u8 233), (.int .u8 54), (.int .u8 120), (.int .u8 119), (.int .u8 252), (.int .u8 176), (.int .u8 129), (.int .u8 111)])⟩
set_option maxRecDepth 1000000 in
theorem k3 : KnOk Tryz.prog gg m3 := kn_dyn Tryz.prog x1_137 5000 m3 (by kernel_rfl)
def m4 : Kn := ⟨82, [.s [(.int .u8 2), (.int .u8 108), (.int .u8 145), (.int .u8 95), (.int .u8 222), (.int .u8 234), (.int .u8 36), (.int .u8 198), (.int .u8 247), (.int .u8 188), (.int .u8 162), (.int .u8 78), (.int .u8 119), (.int .u8 251), (.int .u8 156), (.int .u8 245), (.int .u8 11), (.int .u8 157), (.int .u8 62), (.int .u8 167), (.int .u8 134), (.int .u8 100), (.int .u8 115), (.int .u8 21), (.int .u8 233), (.int .u8 54), (.int .u8 120), (.int .u8 119), (.int .u8 252), (.int .u8 176), (.int .u8 129), (.int .u8 111)] 32 1 (some 32)], (.agg [(.int .u8 76), (.int .u8 45), (.int .u8 201), (.int .u8 92), (.int .u8 132), (.int .u8 20), (.int .u8 136), (.int .u8 77), (.int .u8 42), (.int .u8 161), (.int .u8 78), (.int .u8 61), (.int .u8 139), (.int .u8 58), (.int .u8 179), (.int .u8 60), (.int .u8 78), (.int .u8 90), (.int .u8 16), (.int .u8 37), (.int .u8 21), (.int .u8 53), (.int .u8 4), (.int .u8 249), (.int .u8 189), (.int .u8 161), (.int .u8 115), (.int .u8 172), (.int .u8 174), (.int .u8 12), (.int .u8 17), (.int .u8 57)])⟩
set_option maxRecDepth 1000000 in
theorem k4 : KnOk Tryz.prog gg m4 := kn_dyn Tryz.prog x1_137 5000 m4 (by kernel_rfl)
def l2_82 : List Kn := [m3, m4]
theorem a2_82 : ∀ m ∈ l2_82, m.f = 82 ∧ KnOk Tryz.prog gg m := by
  unfold l2_82
  refine List.forall_mem_cons.2 ⟨⟨rfl, k3⟩, ?_⟩
  refine List.forall_mem_cons.2 ⟨⟨rfl, k4⟩, ?_⟩
  exact fun _ h => absurd h List.not_mem_nil
noncomputable def X2_82 : Orc := orX (fnX 82 l2_82) X1_137
theorem x2_82 : QOk Tryz.prog gg X2_82 := orX_ok (fnX_ok a2_82) x1_137
def m5 : Kn := ⟨57, [.s [(.int .u8 1), (.int .u8 0), (.int .u8 0), (.int .u8 0), (.int .u8 1), (.int .u8 0), (.int .u8 0), (.int .u8 0), (.int .u8 0), (.int .u8 0), (.int .u8 0), (.int .u8 0), (.int .u8 0), (.int .u8 0), (.int .u8 0), (.int .u8 0), (.int .u8 0), (.int .u8 0), (.int .u8 0), (.int .u8 0), (.int .u8 0), (.int .u8 0), (.int .u8 0), (.int .u8 0), (.int .u8 0), (.int .u8 0), (.int .u8 0), (.int .u8 0), (.int .u8 0), (.int .u8 0), (.int .u8 0), (.int .u8 0), (.int .u8 0), (.int .u8 0), (.int .u8 0), (.int .u8 0), (.int .u8 0), (.int .u8 255), (.int .u8 255), (.int .u8 255), (.int .u8 255), (.int .u8 7), (.int .u8 103), (.int .u8 101), (.int .u8 110), (.int .u8 101), (.int .u8 115), (.int .u8 105), (.int .u8 115), (.int .u8 255), (.int .u8 255), (.int .u8 255), (.int .u8 255), (.int .u8 1), (.int .u8 136), (.int .u8 19), (.int .u8 0), (.int .u8 0), (.int .u8 0), (.int .u8 0), (.int .u8 0), (.int .u8 0), (.int .u8 1), (.int .u8 106), (.int .u8 0), (.int .u8 0), (.int .u8 0), (.int .u8 0)] 68 1 none], (.agg [(.int .u8 76), (.int .u8 45), (.int .u8 201), (.int .u8 92), (.int .u8 132), (.int .u8 20), (.int .u8 136), (.int .u8 77), (.int .u8 42), (.int .u8 161), (.int .u8 78), (.int .u8 61), (.int .u8 139), (.int .u8 58), (.int .u8 179), (.int .u8 60), (.int .u8 78), (.int .u8 90), (.int .u8 16), (.int .u8 37), (.int .u8 21), (.int .u8 53), (.int .u8 4), (.int .u8 249), (.int .u8 189), (.int .u8 161), (.int .u8 115), (.int .u8 172), (.int .u8 174), (.int .u8 12), (.int .u8 17), (.int .u8 57)])⟩
set_option maxRecDepth 1000000 in
theorem k5 : KnOk Tryz.prog gg m5 := kn_dyn Tryz.prog x2_82 5000 m5 (by kernel_rfl)
def l3_57 : List Kn := [m5]
theorem a3_57 : ∀ m ∈ l3_57, m.f = 57 ∧ KnOk Tryz.prog gg m := by
  unfold l3_57
  refine List.forall_mem_cons.2 ⟨⟨rfl, k5⟩, ?_⟩
  exact fun _ h => absurd h List.not_mem_nil
noncomputable def X3_57 : Orc := orX (fnX 57 l3_57) X2_82
theorem x3_57 : QOk Tryz.prog gg X3_57 := orX_ok (fnX_ok a3_57) x2_82
def m6 : Kn := ⟨48, [.d (.agg [(.int .u64 0), (.int .u64 0), (.int .u64 0), (.int .u64 9223370937343148032)])], (.tup [(.int .u32 545259519), (.int .i64 0)])⟩
set_option maxRecDepth 1000000 in
theorem k6 : KnOk Tryz.prog gg m6 := kn_dyn Tryz.prog x3_57 5000 m6 (by kernel_rfl)
def m7 : Kn := ⟨48, [.d (.agg [(.int .u64 0), (.int .u64 0), (.int .u64 0), (.int .u64 0)])], (.tup [(.int .u32 0), (.int .i64 50)])⟩
set_option maxRecDepth 1000000 in
theorem k7 : KnOk Tryz.prog gg m7 := kn_dyn Tryz.prog x3_57 5000 m7 (by kernel_rfl)
def m8 : Kn := ⟨48, [.d (.agg [(.int .u64 0), (.int .u64 0), (.int .u64 0), (.int .u64 2305842734335787008)])], (.tup [(.int .u32 538968063), (.int .i64 0)])⟩
set_option maxRecDepth 1000000 in
theorem k8 : KnOk Tryz.prog gg m8 := kn_dyn Tryz.prog x3_57 5000 m8 (by kernel_rfl)
def m9 : Kn := ⟨48, [.d (.agg [(.int .u64 0), (.int .u64 0), (.int .u64 0), (.int .u64 6917528203007361024)])], (.tup [(.int .u32 543162367), (.int .i64 0)])⟩
set_option maxRecDepth 1000000 in
theorem k9 : KnOk Tryz.prog gg m9 := kn_dyn Tryz.prog x3_57 5000 m9 (by kernel_rfl)
def m10 : Kn := ⟨48, [.d (.agg [(.int .u64 0), (.int .u64 0), (.int .u64 0), (.int .u64 18446462598732840960)])], (.tup [(.int .u32 553713663), (.int .i64 0)])⟩
set_option maxRecDepth 1000000 in
theorem k10 : KnOk Tryz.prog gg m10 := kn_dyn Tryz.prog x3_57 5000 m10 (by kernel_rfl)
def l4_48 : List Kn := [m6, m7, m8, m9, m10]
theorem a4_48 : ∀ m ∈ l4_48, m.f = 48 ∧ KnOk Tryz.prog gg m := by
  unfold l4_48
  refine List.forall_mem_cons.2 ⟨⟨rfl, k6⟩, ?_⟩
  refine List.forall_mem_cons.2 ⟨⟨rfl, k7⟩, ?_⟩
  refine List.forall_mem_cons.2 ⟨⟨rfl, k8⟩, ?_⟩
  refine List.forall_mem_cons.2 ⟨⟨rfl, k9⟩, ?_⟩
  refine List.forall_mem_cons.2 ⟨⟨rfl, k10⟩, ?_⟩
  exact fun _ h => absurd h List.not_mem_nil
noncomputable def X4_48 : Orc := orX (fnX 48 l4_48) X3_57
theorem x4_48 : QOk Tryz.prog gg X4_48 := orX_ok (fnX_ok a4_48) x3_57
def m11 : Kn := ⟨33, [.d (.int .u32 545259519)], (.tup [(.agg [(.int .u64 0), (.int .u64 0), (.int .u64 0), (.int .u64 9223370937343148032)]), (.int .i64 0)])⟩
set_option maxRecDepth 1000000 in
theorem k11 : KnOk Tryz.prog gg m11 := kn_dyn Tryz.prog x4_48 5000 m11 (by kernel_rfl)
def m12 : Kn := ⟨33, [.d (.int .u32 0)], (.tup [(.agg [(.int .u64 0), (.int .u64 0), (.int .u64 0), (.int .u64 0)]), (.int .i64 50)])⟩
set_option maxRecDepth 1000000 in
theorem k12 : KnOk Tryz.prog gg m12 := kn_dyn Tryz.prog x4_48 5000 m12 (by kernel_rfl)
def m13 : Kn := ⟨33, [.d (.int .u32 553713663)], (.tup [(.agg [(.int .u64 0), (.int .u64 0), (.int .u64 0), (.int .u64 18446462598732840960)]), (.int .i64 0)])⟩
set_option maxRecDepth 1000000 in
theorem k13 : KnOk Tryz.prog gg m13 := kn_dyn Tryz.prog x4_48 5000 m13 (by kernel_rfl)
def l5_33 : List Kn := [m11, m12, m13]
theorem a5_33 : ∀ m ∈ l5_33, m.f = 33 ∧ KnOk Tryz.prog gg m := by
  unfold l5_33
  refine List.forall_mem_cons.2 ⟨⟨rfl, k11⟩, ?_⟩
  refine List.forall_mem_cons.2 ⟨⟨rfl, k12⟩, ?_⟩
  refine List.forall_mem_cons.2 ⟨⟨rfl, k13⟩, ?_⟩
  exact fun _ h => absurd h List.not_mem_nil
noncomputable def X5_33 : Orc := orX (fnX 33 l5_33) X4_48
theorem x5_33 : QOk Tryz.prog gg X5_33 := orX_ok (fnX_ok a5_33) x4_48
def m14 : Kn := ⟨46, [.d (.agg [(.int .u64 0), (.int .u64 0), (.int .u64 0), (.int .u64 9223370937343148032)]), .d (.int .u64 400), .d (.int .u64 400), .d (.agg [(.int .u64 0), (.int .u64 0), (.int .u64 0), (.int .u64 9223370937343148032)])], (.tup [(.agg [(.int .u64 0), (.int .u64 0), (.int .u64 0), (.int .u64 9223370937343148032)]), (.int .i64 0)])⟩
set_option maxRecDepth 1000000 in
theorem k14 : KnOk Tryz.prog gg m14 := kn_dyn Tryz.prog x4_48 5000 m14 (by kernel_rfl)
def m15 : Kn := ⟨46, [.d (.agg [(.int .u64 0), (.int .u64 0), (.int .u64 0), (.int .u64 9223370937343148032)]), .d (.int .u64 100), .d (.int .u64 400), .d (.agg [(.int .u64 0), (.int .u64 0), (.int .u64 0), (.int .u64 9223370937343148032)])], (.tup [(.agg [(.int .u64 0), (.int .u64 0), (.int .u64 0), (.int .u64 2305842734335787008)]), (.int .i64 0)])⟩
set_option maxRecDepth 1000000 in
theorem k15 : KnOk Tryz.prog gg m15 := kn_dyn Tryz.prog x4_48 5000 m15 (by kernel_rfl)
def m16 : Kn := ⟨46, [.d (.agg [(.int .u64 0), (.int .u64 0), (.int .u64 0), (.int .u64 9223370937343148032)]), .d (.int .u64 300), .d (.int .u64 400), .d (.agg [(.int .u64 0), (.int .u64 0), (.int .u64 0), (.int .u64 9223370937343148032)])], (.tup [(.agg [(.int .u64 0), (.int .u64 0), (.int .u64 0), (.int .u64 6917528203007361024)]), (.int .i64 0)])⟩
set_option maxRecDepth 1000000 in
theorem k16 : KnOk Tryz.prog gg m16 := kn_dyn Tryz.prog x4_48 5000 m16 (by kernel_rfl)
def l5_46 : List Kn := [m14, m15, m16]
theorem a5_46 : ∀ m ∈ l5_46, m.f = 46 ∧ KnOk Tryz.prog gg m := by
  unfold l5_46
  refine List.forall_mem_cons.2 ⟨⟨rfl, k14⟩, ?_⟩
  refine List.forall_mem_cons.2 ⟨⟨rfl, k15⟩, ?_⟩
  refine List.forall_mem_cons.2 ⟨⟨rfl, k16⟩, ?_⟩
  exact fun _ h => absurd h List.not_mem_nil
noncomputable def X5_46 : Orc := orX (fnX 46 l5_46) X5_33
theorem x5_46 : QOk Tryz.prog gg X5_46 := orX_ok (fnX_ok a5_46) x5_33
def m17 : Kn := ⟨49, [.d (.agg [(.int .u64 0), (.int .u64 0), (.int .u64 0), (.int .u64 9223370937343148032)])], (.tup [(.agg [(.int .u64 2), (.int .u64 0), (.int .u64 0), (.int .u64 0)]), (.int .i64 0)])⟩
set_option maxRecDepth 1000000 in
theorem k17 : KnOk Tryz.prog gg m17 := kn_dyn Tryz.prog x4_48 5000 m17 (by kernel_rfl)
def l5_49 : List Kn := [m17]
theorem a5_49 : ∀ m ∈ l5_49, m.f = 49 ∧ KnOk Tryz.prog gg m := by
  unfold l5_49
  refine List.forall_mem_cons.2 ⟨⟨rfl, k17⟩, ?_⟩
  exact fun _ h => absurd h List.not_mem_nil
noncomputable def X5_49 : Orc := orX (fnX 49 l5_49) X5_46
theorem x5_49 : QOk Tryz.prog gg X5_49 := orX_ok (fnX_ok a5_49) x5_46
set_option maxRecDepth 1000000 in
theorem names : isTrue (callX (Edyn Tryz.prog) X5_49 5000 (.fn 3) [] Eng.H.empty) = true := by kernel_rfl

set_option maxRecDepth 100000 in
theorem lifted (os : Os) (started : os.Started) (H : Type) (enc : TypeId × Value → H) :
    ReturnsInHanded {} Tryz.checked os 3 .any (Rows.powNamesSpec.pre6 enc Tryz.prog Tryz.f3 Rows.powNamesRow.domain false) (Rows.powNamesSpec.post enc Tryz.prog Tryz.f3 false true false false) := by
  refine returnsInHanded_of_change (C := Tryz.checked) own started (by kernel_rfl) Tryz.func3
    (ChangeSpec.witness6 (enc := enc) (C := Tryz.checked) false ⟨#[], #[], []⟩ 8 (by kernel_rfl) (by kernel_rfl) (by kernel_rfl) (by kernel_rfl)) ?_
  intro W base args ds gs before hval0 hW hcnd _
  have hW' := hW
  obtain ⟨p, q, hA0, hV, rfl, hfz, hnd⟩ := hW
  have hA : DataW.TrodAll enc Tryz.prog W 0 (fun _ => true) true Tryz.f3.params.toList args.toList ds p := hA0
  rw [Tryz.params3] at hA
  obtain ⟨e1, rfl, rfl⟩ := trodAll_nil hA
  obtain rfl : args = #[] := by cases args; simp_all
  obtain ⟨rfl, rfl⟩ := trodVars_none hV
  clear hA0
  simp only [List.append_nil] at hW'
  refine (runs_trueX Tryz.prog x5_49 5000 3 names W).mono fun e W' ⟨he, hg⟩ => ?_
  subst he
  refine ⟨_, rfl, [], [], [], [], [], [], hW', trodAll_mk1 (shut_bool Tryz.underlying4 _), trodAll_mk0, rfl, World.keptBut_mono (fun _ h => h.elim) hg.1, fun h => by cases h⟩

theorem proved : Rows.PowNamesSaid :=
  OpenClaim.holds_of_wide 3 Tryz.f3 rfl rfl rfl rfl rfl rfl rfl ⟨rfl, rfl, rfl, rfl, rfl⟩ rfl rfl rfl rfl rfl (by kernel_rfl) Tryz.func3 (by kernel_rfl)
    (of_decide_eq_true (by kernel_rfl)) (by unfold Func.isWrapper; first | (rw [if_pos (by decide +kernel)]; kernel_rfl) | (rw [if_neg (by decide +kernel)]; exact ⟨rfl, rfl⟩))
    (fun os started H enc _ => lifted os started H enc)
end Go.Proofs.YtjelpoikjgegaaaGreat.namesPowNames
