/- Functions of the program, as the evaluator takes them: printed by program. -/
import Derived.Test.YtgjoaeefnknpfaaEngI
namespace Go.Eng
open Go
/-- purser/purserlaw10.OpsBurnt -/
abbrev k_purserlaw10_OpsBurnt : Nat := 12
/-- purser/purserlaw10.alive -/
abbrev k_purserlaw10_alive : Nat := 46
/-- strings.HasPrefix -/
abbrev k_strings_HasPrefix : Nat := 47
/-- purser/ops.Burnt -/
abbrev k_ops_Burnt : Nat := 48
/-- purser/purserlaw10.splits -/
abbrev k_purserlaw10_splits : Nat := 66
/-- internal/stringslite.HasPrefix -/
abbrev k_internal_stringslite_HasPrefix : Nat := 67
/-- purser/ops.Split -/
abbrev k_ops_Split : Nat := 72
/-- purser/ops.Same -/
abbrev k_ops_Same : Nat := 73
/-- purser/ops.operations -/
abbrev k_ops_operations : Nat := 75
/-- slices.EqualFunc[[]purser/api.Op,[]purser/api.Op,purser/api.Op,purser/api.Op] -/
abbrev k_slices_EqualFunc_api_Op_api_Op_api_Op_api_Op : Nat := 76
/-- purser/ops.sameOp -/
abbrev k_ops_sameOp : Nat := 77
/-- purser/ops.operations$1 -/
abbrev k_ops_operations_1 : Nat := 78
/-- bytes.Equal -/
abbrev k_bytes_Equal : Nat := 80
/-- purser/ops.first -/
abbrev k_ops_first : Nat := 79
/-- purser/ops.counted -/
abbrev k_ops_counted : Nat := 81
/-- bytes.Clone -/
abbrev k_bytes_Clone : Nat := 82
/-- purser/purserlaw10.OpsBurnt -/
def f_purserlaw10_OpsBurnt : Fn := ⟨45, [.tmp 2],
  .seq (.ops [⟨(some 2), .mov (.c (.bool false)), none⟩])
  (.seq (.ops [⟨(some 5), .call k_purserlaw10_alive [], none⟩,
     ⟨(some 3), .mov (.t 5), none⟩])
  (.seq (.seq (.ops [⟨(some 6), .mov (.t 0), none⟩,
      ⟨(some 7), .len false (.t 6), none⟩,
      ⟨(some 8), .bin .gtr .no (.t 7) (.c (.int .i64 1000)), none⟩,
      ⟨(some 9), .mov (.t 8), none⟩,
      ⟨(some 10), .mov (.t 3), (some (9, false))⟩,
      ⟨(some 11), .un .not (.t 10), (some (9, false))⟩,
      ⟨(some 12), .pick (.t 9) (.c (.bool true)) (.t 11), none⟩])
   (.cond (.t 12)
    (.seq (.ops [⟨(some 13), .mov (.t 3), none⟩,
        ⟨(some 2), .mov (.t 13), none⟩])
     (.ret))
    (.skip)))
  (.seq (.ops [⟨(some 14), .mov (.t 0), none⟩,
     ⟨(some 15), .b2s (.t 14), none⟩,
     ⟨(some 16), .call k_strings_HasPrefix [(.t 15), (.c (.str [106]))], none⟩,
     ⟨(some 4), .mov (.t 16), none⟩])
  (.seq (.ops [⟨(some 17), .mov (.t 3), none⟩,
     ⟨(some 18), .mov (.t 17), none⟩,
     ⟨(some 19), .buildS [(.int .u8 0)] 1 1 [(0, 1, (.c (.int .u8 106)))], (some (18, true))⟩,
     ⟨(some 20), .mov (.t 0), (some (18, true))⟩,
     ⟨(some 21), .append 1 1 (.t 19) (.t 20), (some (18, true))⟩,
     ⟨(some 22), .call k_ops_Burnt [(.t 21)], (some (18, true))⟩,
     ⟨(some 23), .pick (.t 18) (.t 22) (.c (.bool false)), none⟩,
     ⟨(some 24), .mov (.t 23), none⟩,
     ⟨(some 25), .buildS [(.int .u8 0)] 1 1 [(0, 1, (.c (.int .u8 97)))], (some (24, true))⟩,
     ⟨(some 26), .mov (.t 0), (some (24, true))⟩,
     ⟨(some 27), .append 1 1 (.t 25) (.t 26), (some (24, true))⟩,
     ⟨(some 28), .call k_ops_Burnt [(.t 27)], (some (24, true))⟩,
     ⟨(some 29), .mov (.t 0), (some (24, true))⟩,
     ⟨(some 30), .len false (.t 29), (some (24, true))⟩,
     ⟨(some 31), .bin .geq .no (.t 30) (.c (.int .i64 520)), (some (24, true))⟩,
     ⟨(some 32), .bin .eql .bool (.t 28) (.t 31), (some (24, true))⟩,
     ⟨(some 33), .pick (.t 24) (.t 32) (.c (.bool false)), none⟩,
     ⟨(some 34), .mov (.t 33), none⟩,
     ⟨(some 35), .mov (.t 0), (some (34, true))⟩,
     ⟨(some 36), .call k_ops_Burnt [(.t 35)], (some (34, true))⟩,
     ⟨(some 37), .mov (.t 4), (some (34, true))⟩,
     ⟨(some 38), .mov (.t 37), (some (34, true))⟩,
     ⟨(some 39), .mov (.t 0), (some (38, false))⟩,
     ⟨(some 40), .len false (.t 39), (some (38, false))⟩,
     ⟨(some 41), .bin .gtr .no (.t 40) (.c (.int .i64 520)), (some (38, false))⟩,
     ⟨(some 42), .pick (.t 38) (.c (.bool true)) (.t 41), (some (34, true))⟩,
     ⟨(some 43), .bin .eql .bool (.t 36) (.t 42), (some (34, true))⟩,
     ⟨(some 44), .pick (.t 34) (.t 43) (.c (.bool false)), none⟩,
     ⟨(some 2), .mov (.t 44), none⟩])
  (.ret)))))⟩
/-- purser/purserlaw10.alive -/
def f_purserlaw10_alive : Fn := ⟨8, [.tmp 0],
  .seq (.ops [⟨(some 0), .mov (.c (.bool false)), none⟩])
  (.seq (.ops [⟨(some 1), .buildS [(.int .u8 0), (.int .u8 0)] 2 1 [(0, 1, (.c (.int .u8 97))), (1, 1, (.c (.int .u8 98)))], none⟩,
     ⟨(some 2), .mark (.t 1), none⟩,
     ⟨(some 3), .build [(.int .u8 0), (.slice none 0 (some 0) 0)] [(0, 1, (.c (.int .u8 2))), (1, 1, (.t 2))], none⟩,
     ⟨(some 4), .build [(.int .u8 0), (.slice none 0 (some 0) 0)] [(0, 1, (.c (.int .u8 97)))], none⟩,
     ⟨(some 5), .build [(.int .u8 0), (.slice none 0 (some 0) 0)] [], none⟩,
     ⟨(some 6), .buildS [(.int .u8 0), (.slice none 0 (some 0) 0), (.int .u8 0), (.slice none 0 (some 0) 0), (.int .u8 0), (.slice none 0 (some 0) 0)] 3 2 [(0, 2, (.t 3)), (2, 2, (.t 4)), (4, 2, (.t 5))], none⟩,
     ⟨(some 7), .call k_purserlaw10_splits [(.c (.str [2, 97, 98, 97, 0])), (.t 6)], none⟩,
     ⟨(some 0), .mov (.t 7), none⟩])
  (.ret))⟩
/-- strings.HasPrefix -/
def f_strings_HasPrefix : Fn := ⟨8, [.tmp 4],
  .seq (.ops [⟨(some 4), .mov (.c (.bool false)), none⟩])
  (.seq (.ops [⟨(some 5), .mov (.t 0), none⟩,
     ⟨(some 6), .mov (.t 1), none⟩,
     ⟨(some 7), .call k_internal_stringslite_HasPrefix [(.t 5), (.t 6)], none⟩,
     ⟨(some 4), .mov (.t 7), none⟩])
  (.ret))⟩
/-- purser/ops.Burnt -/
def f_ops_Burnt : Fn := ⟨17, [.tmp 2],
  .seq (.ops [⟨(some 2), .mov (.c (.bool false)), none⟩])
  (.seq (.ops [⟨(some 3), .mov (.t 0), none⟩,
     ⟨(some 4), .len false (.t 3), none⟩,
     ⟨(some 5), .bin .gtr .no (.t 4) (.c (.int .i64 520)), none⟩,
     ⟨(some 6), .mov (.t 5), none⟩,
     ⟨(some 7), .mov (.t 0), (some (6, false))⟩,
     ⟨(some 8), .len false (.t 7), (some (6, false))⟩,
     ⟨(some 9), .bin .gtr .no (.t 8) (.c (.int .i64 0)), (some (6, false))⟩,
     ⟨(some 10), .mov (.t 9), (some (6, false))⟩,
     ⟨(some 11), .mov (.t 0), (some (10, true))⟩,
     ⟨(some 12), .idxAddrS 1 (.t 11) (.c (.int .i64 0)), (some (10, true))⟩,
     ⟨(some 13), .load none (.t 12), (some (10, true))⟩,
     ⟨(some 14), .bin .eql .no (.t 13) (.c (.int .u8 106)), (some (10, true))⟩,
     ⟨(some 15), .pick (.t 10) (.t 14) (.c (.bool false)), (some (6, false))⟩,
     ⟨(some 16), .pick (.t 6) (.c (.bool true)) (.t 15), none⟩,
     ⟨(some 2), .mov (.t 16), none⟩])
  (.ret))⟩
/-- purser/purserlaw10.splits -/
def f_purserlaw10_splits : Fn := ⟨20, [.tmp 4],
  .seq (.ops [⟨(some 4), .mov (.c (.bool false)), none⟩])
  (.seq (.ops [⟨(some 8), .mov (.t 0), none⟩,
     ⟨(some 9), .s2b (.t 8), none⟩,
     ⟨(some 10), .call k_ops_Split [(.t 9)], none⟩,
     ⟨(some 7), .mov (.t 10), none⟩,
     ⟨(some 11), .ext (.t 7) 0, none⟩,
     ⟨(some 12), .ext (.t 7) 1, none⟩,
     ⟨(some 5), .mov (.t 11), none⟩,
     ⟨(some 6), .mov (.t 12), none⟩])
  (.seq (.ops [⟨(some 13), .mov (.t 6), none⟩,
     ⟨(some 14), .bin .eql .no (.t 13) (.c (.int .i64 0)), none⟩,
     ⟨(some 15), .mov (.t 14), none⟩,
     ⟨(some 16), .mov (.t 5), (some (15, true))⟩,
     ⟨(some 17), .mov (.t 1), (some (15, true))⟩,
     ⟨(some 18), .call k_ops_Same [(.t 16), (.t 17)], (some (15, true))⟩,
     ⟨(some 19), .pick (.t 15) (.t 18) (.c (.bool false)), none⟩,
     ⟨(some 4), .mov (.t 19), none⟩])
  (.ret)))⟩
/-- internal/stringslite.HasPrefix -/
def f_internal_stringslite_HasPrefix : Fn := ⟨18, [.tmp 4],
  .seq (.ops [⟨(some 4), .mov (.c (.bool false)), none⟩])
  (.seq (.ops [⟨(some 5), .mov (.t 0), none⟩,
     ⟨(some 6), .len true (.t 5), none⟩,
     ⟨(some 7), .mov (.t 1), none⟩,
     ⟨(some 8), .len true (.t 7), none⟩,
     ⟨(some 9), .bin .geq .no (.t 6) (.t 8), none⟩,
     ⟨(some 10), .mov (.t 9), none⟩,
     ⟨(some 11), .mov (.t 0), (some (10, true))⟩,
     ⟨(some 12), .mov (.t 1), (some (10, true))⟩,
     ⟨(some 13), .len true (.t 12), (some (10, true))⟩,
     ⟨(some 14), .slcStr (.t 11) none (some (.t 13)), (some (10, true))⟩,
     ⟨(some 15), .mov (.t 1), (some (10, true))⟩,
     ⟨(some 16), .bin .eql .no (.t 14) (.t 15), (some (10, true))⟩,
     ⟨(some 17), .pick (.t 10) (.t 16) (.c (.bool false)), none⟩,
     ⟨(some 4), .mov (.t 17), none⟩])
  (.ret))⟩
def A_ops_Split_0 : C := .seq (.ops [⟨(some 6), .mov (.t 10), none⟩])
     (.ops [⟨(some 7), .alloc [(.int .u8 0), (.slice none 0 (some 0) 0)], none⟩,
       ⟨none, .store 2 (.t 7) (.t 11), none⟩])
theorem u_A_ops_Split_0 (Q : Orc) (N n : Nat) (r : Option Nat) (st : St) : evC Q N n r A_ops_Split_0 st = evC Q N n r (.seq (.ops [⟨(some 6), .mov (.t 10), none⟩])
     (.ops [⟨(some 7), .alloc [(.int .u8 0), (.slice none 0 (some 0) 0)], none⟩,
       ⟨none, .store 2 (.t 7) (.t 11), none⟩])) st := _root_.id rfl
def B_ops_Split_0 : C := .block 1 (.seq (.ops [⟨(some 12), .load none (.t 4), none⟩,
         ⟨(some 13), .load (some 2) (.t 7), none⟩,
         ⟨(some 14), .buildS [(.int .u8 0), (.slice none 0 (some 0) 0)] 1 2 [(0, 2, (.t 13))], none⟩,
         ⟨(some 15), .append 2 32 (.t 12) (.t 14), none⟩,
         ⟨none, .store 1 (.t 4) (.t 15), none⟩])
      (.ops [⟨(some 16), .mov (.t 6), none⟩,
        ⟨none, .store 1 (.t 5) (.t 16), none⟩]))
theorem u_B_ops_Split_0 (Q : Orc) (N n : Nat) (r : Option Nat) (st : St) : evC Q N n r B_ops_Split_0 st = evC Q N n r (.block 1 (.seq (.ops [⟨(some 12), .load none (.t 4), none⟩,
         ⟨(some 13), .load (some 2) (.t 7), none⟩,
         ⟨(some 14), .buildS [(.int .u8 0), (.slice none 0 (some 0) 0)] 1 2 [(0, 2, (.t 13))], none⟩,
         ⟨(some 15), .append 2 32 (.t 12) (.t 14), none⟩,
         ⟨none, .store 1 (.t 4) (.t 15), none⟩])
      (.ops [⟨(some 16), .mov (.t 6), none⟩,
        ⟨none, .store 1 (.t 5) (.t 16), none⟩]))) st := _root_.id rfl
def R_ops_Split_0 : C := .seq (.seq (.ops [⟨(some 17), .load none (.t 5), none⟩,
      ⟨(some 18), .mov (.t 0), none⟩,
      ⟨(some 19), .len false (.t 18), none⟩,
      ⟨(some 20), .bin .lss .no (.t 17) (.t 19), none⟩])
   (.cond (.t 20)
    (.seq (.ops [⟨(some 2), .mov (.c (.slice none 0 (some 0) 0)), none⟩,
        ⟨(some 3), .mov (.c (.int .i64 100)), none⟩])
     (.ret))
    (.skip)))
  (.seq (.ops [⟨(some 21), .load none (.t 4), none⟩,
     ⟨(some 2), .mov (.t 21), none⟩,
     ⟨(some 3), .mov (.c (.int .i64 0)), none⟩])
  (.ret))
/-- purser/ops.Split -/
def f_ops_Split : Fn := ⟨22, [.tmp 2, .tmp 3],
  .seq (.ops [⟨(some 2), .mov (.c (.slice none 0 (some 0) 0)), none⟩,
     ⟨(some 3), .mov (.c (.int .i64 0)), none⟩])
  (.seq (.ops [⟨(some 4), .alloc [(.slice none 0 (some 0) 0)], none⟩])
  (.seq (.ops [⟨(some 5), .alloc [(.int .i64 0)], none⟩,
     ⟨none, .store 1 (.t 5) (.c (.int .i64 0)), none⟩])
  (.seq (.seq (.ops [⟨(some 8), .mov (.t 0), none⟩,
      ⟨(some 9), .call k_ops_operations [(.t 8)], none⟩])
   (.block 0 (.rangeF (.t 9) [10, 11] (A_ops_Split_0)
    (B_ops_Split_0))))
  (R_ops_Split_0))))⟩
/-- purser/ops.Same -/
def f_ops_Same : Fn := ⟨8, [.tmp 4],
  .seq (.ops [⟨(some 4), .mov (.c (.bool false)), none⟩])
  (.seq (.ops [⟨(some 5), .mov (.t 0), none⟩,
     ⟨(some 6), .mov (.t 1), none⟩,
     ⟨(some 7), .call k_slices_EqualFunc_api_Op_api_Op_api_Op_api_Op [(.t 5), (.t 6), (.f k_ops_sameOp)], none⟩,
     ⟨(some 4), .mov (.t 7), none⟩])
  (.ret))⟩
/-- purser/ops.operations -/
def f_ops_operations : Fn := ⟨4, [.tmp 2],
  .seq (.ops [⟨(some 1), .box (.t 0), none⟩,
     ⟨(some 2), .mov (.c .nilFn), none⟩])
  (.seq (.ops [⟨(some 3), .mkfn k_ops_operations_1 [] [(.t 1)], none⟩,
     ⟨(some 2), .mov (.t 3), none⟩])
  (.ret))⟩
def L_slices_EqualFunc_api_Op_api_Op_api_Op_api_Op_0 : C := .seq (.ops [⟨(some 18), .bin .lss .no (.t 17) (.t 16), none⟩])
     (.seq (.cond (.t 18)
       (.skip)
       (.exit 0))
     (.seq (.block 1 (.seq (.ops [⟨(some 19), .mov (.t 17), none⟩,
          ⟨(some 20), .idxAddrS 2 (.t 15) (.t 17), none⟩,
          ⟨(some 21), .load (some 2) (.t 20), none⟩,
          ⟨(some 8), .alloc [(.int .u8 0), (.slice none 0 (some 0) 0)], none⟩,
          ⟨(some 7), .mov (.t 19), none⟩,
          ⟨none, .store 2 (.t 8) (.t 21), none⟩])
       (.seq (.ops [⟨(some 22), .mov (.t 1), none⟩,
          ⟨(some 23), .mov (.t 7), none⟩,
          ⟨(some 24), .idxAddrS 2 (.t 22) (.t 23), none⟩,
          ⟨(some 25), .load (some 2) (.t 24), none⟩,
          ⟨(some 9), .alloc [(.int .u8 0), (.slice none 0 (some 0) 0)], none⟩,
          ⟨none, .store 2 (.t 9) (.t 25), none⟩])
       (.seq (.ops [⟨(some 26), .mov (.t 2), none⟩,
          ⟨(some 27), .load (some 2) (.t 8), none⟩,
          ⟨(some 28), .load (some 2) (.t 9), none⟩,
          ⟨(some 29), .callv (.t 26) [(.t 27), (.t 28)], none⟩,
          ⟨(some 30), .un .not (.t 29), none⟩])
       (.cond (.t 30)
        (.seq (.ops [⟨(some 6), .mov (.c (.bool false)), none⟩])
         (.ret))
        (.skip))))))
     (.ops [⟨(some 31), .bin .add .no (.t 17) (.c (.int .i64 1)), none⟩,
       ⟨(some 17), .mov (.t 31), none⟩])))
def R_slices_EqualFunc_api_Op_api_Op_api_Op_api_Op_0 : C := .seq (.ops [⟨(some 6), .mov (.c (.bool true)), none⟩])
  (.ret)
/-- slices.EqualFunc[[]purser/api.Op,[]purser/api.Op,purser/api.Op,purser/api.Op] -/
def f_slices_EqualFunc_api_Op_api_Op_api_Op_api_Op : Fn := ⟨32, [.tmp 6],
  .seq (.ops [⟨(some 6), .mov (.c (.bool false)), none⟩])
  (.seq (.seq (.ops [⟨(some 10), .mov (.t 0), none⟩,
      ⟨(some 11), .len false (.t 10), none⟩,
      ⟨(some 12), .mov (.t 1), none⟩,
      ⟨(some 13), .len false (.t 12), none⟩,
      ⟨(some 14), .bin .neq .no (.t 11) (.t 13), none⟩])
   (.cond (.t 14)
    (.seq (.ops [⟨(some 6), .mov (.c (.bool false)), none⟩])
     (.ret))
    (.skip)))
  (.seq (.seq (.ops [⟨(some 15), .mov (.t 0), none⟩,
      ⟨(some 16), .len false (.t 15), none⟩,
      ⟨(some 17), .mov (.c (.int .i64 0)), none⟩])
   (.block 0 (.loop (L_slices_EqualFunc_api_Op_api_Op_api_Op_api_Op_0))))
  (R_slices_EqualFunc_api_Op_api_Op_api_Op_api_Op_0)))⟩
/-- purser/ops.sameOp -/
def f_ops_sameOp : Fn := ⟨17, [.tmp 4],
  .seq (.ops [⟨(some 2), .box (.t 0), none⟩,
     ⟨(some 3), .box (.t 1), none⟩,
     ⟨(some 4), .mov (.c (.bool false)), none⟩])
  (.seq (.ops [⟨(some 5), .fieldAddr 0 (.t 2), none⟩,
     ⟨(some 6), .load none (.t 5), none⟩,
     ⟨(some 7), .fieldAddr 0 (.t 3), none⟩,
     ⟨(some 8), .load none (.t 7), none⟩,
     ⟨(some 9), .bin .eql .no (.t 6) (.t 8), none⟩,
     ⟨(some 10), .mov (.t 9), none⟩,
     ⟨(some 11), .fieldAddr 1 (.t 2), (some (10, true))⟩,
     ⟨(some 12), .load none (.t 11), (some (10, true))⟩,
     ⟨(some 13), .fieldAddr 1 (.t 3), (some (10, true))⟩,
     ⟨(some 14), .load none (.t 13), (some (10, true))⟩,
     ⟨(some 15), .call k_bytes_Equal [(.t 12), (.t 14)], (some (10, true))⟩,
     ⟨(some 16), .pick (.t 10) (.t 15) (.c (.bool false)), none⟩,
     ⟨(some 4), .mov (.t 16), none⟩])
  (.ret))⟩
def L_ops_operations_1_0 : C := .seq (.seq (.ops [⟨(some 7), .mov (.t 3), none⟩,
        ⟨(some 8), .load none (.t 1), none⟩,
        ⟨(some 9), .len false (.t 8), none⟩,
        ⟨(some 10), .bin .lss .no (.t 7) (.t 9), none⟩])
     (.cond (.t 10)
      (.skip)
      (.exit 0)))
    (.block 1 (.seq (.ops [⟨(some 12), .load none (.t 1), none⟩,
        ⟨(some 13), .mov (.t 3), none⟩,
        ⟨(some 14), .slcS 1 (.t 12) (some (.t 13)) none none, none⟩,
        ⟨(some 15), .call k_ops_first [(.t 14)], none⟩,
        ⟨(some 11), .mov (.t 15), none⟩,
        ⟨(some 16), .ext (.t 11) 0, none⟩,
        ⟨(some 17), .ext (.t 11) 1, none⟩,
        ⟨(some 18), .ext (.t 11) 2, none⟩,
        ⟨(some 4), .alloc [(.int .u8 0), (.slice none 0 (some 0) 0)], none⟩,
        ⟨none, .store 2 (.t 4) (.t 16), none⟩,
        ⟨(some 5), .mov (.t 17), none⟩,
        ⟨(some 6), .mov (.t 18), none⟩])
     (.seq (.ops [⟨(some 19), .mov (.t 3), none⟩,
        ⟨(some 20), .mov (.t 5), none⟩,
        ⟨(some 21), .bin .add .no (.t 19) (.t 20), none⟩,
        ⟨(some 3), .mov (.t 21), none⟩])
     (.seq (.ops [⟨(some 22), .mov (.t 6), none⟩,
        ⟨(some 23), .un .not (.t 22), none⟩,
        ⟨(some 24), .mov (.t 23), none⟩,
        ⟨(some 25), .mov (.t 0), (some (24, false))⟩,
        ⟨(some 26), .mov (.t 3), (some (24, false))⟩,
        ⟨(some 27), .load (some 2) (.t 4), (some (24, false))⟩,
        ⟨(some 28), .callv (.t 25) [(.t 26), (.t 27)], (some (24, false))⟩,
        ⟨(some 29), .un .not (.t 28), (some (24, false))⟩,
        ⟨(some 30), .pick (.t 24) (.c (.bool true)) (.t 29), none⟩])
     (.cond (.t 30)
      (.ret)
      (.skip))))))
/-- purser/ops.operations$1 -/
def f_ops_operations_1 : Fn := ⟨31, [],
  .seq (.ops [⟨(some 3), .mov (.c (.int .i64 0)), none⟩])
  (.block 0 (.loop (L_ops_operations_1_0)))⟩
/-- bytes.Equal -/
def f_bytes_Equal : Fn := ⟨10, [.tmp 4],
  .seq (.ops [⟨(some 4), .mov (.c (.bool false)), none⟩])
  (.seq (.ops [⟨(some 5), .mov (.t 0), none⟩,
     ⟨(some 6), .b2s (.t 5), none⟩,
     ⟨(some 7), .mov (.t 1), none⟩,
     ⟨(some 8), .b2s (.t 7), none⟩,
     ⟨(some 9), .bin .eql .no (.t 6) (.t 8), none⟩,
     ⟨(some 4), .mov (.t 9), none⟩])
  (.ret))⟩
def L_ops_first_0 : C := .seq (.seq (.ops [⟨(some 22), .mov (.t 8), none⟩,
         ⟨(some 23), .bin .gtr .no (.t 22) (.c (.int .i64 0)), none⟩])
      (.cond (.t 23)
       (.skip)
       (.exit 0)))
     (.seq (.block 1 (.ops [⟨(some 26), .mov (.t 7), none⟩,
         ⟨(some 27), .bin .shl .no (.t 26) (.c (.int .u64 8)), none⟩,
         ⟨(some 28), .mov (.t 0), none⟩,
         ⟨(some 29), .mov (.t 8), none⟩,
         ⟨(some 30), .idxAddrS 1 (.t 28) (.t 29), none⟩,
         ⟨(some 31), .load none (.t 30), none⟩,
         ⟨(some 32), .conv .i64 (.t 31), none⟩,
         ⟨(some 33), .bin .or .no (.t 27) (.t 32), none⟩,
         ⟨(some 7), .mov (.t 33), none⟩]))
     (.ops [⟨(some 24), .mov (.t 8), none⟩,
       ⟨(some 25), .bin .sub .no (.t 24) (.c (.int .i64 1)), none⟩,
       ⟨(some 8), .mov (.t 25), none⟩]))
def R_ops_first_0 : C := .seq (.seq (.ops [⟨(some 34), .mov (.t 5), none⟩,
      ⟨(some 35), .bin .leq .no (.t 34) (.c (.int .u8 75)), none⟩])
   (.cond (.t 35)
    (.ops [⟨(some 36), .mov (.t 5), none⟩,
       ⟨(some 37), .conv .i64 (.t 36), none⟩,
       ⟨(some 7), .mov (.t 37), none⟩])
    (.skip)))
  (.seq (.ops [⟨(some 38), .mov (.t 6), none⟩,
     ⟨(some 39), .mov (.t 7), none⟩,
     ⟨(some 40), .bin .add .no (.t 38) (.t 39), none⟩,
     ⟨(some 3), .mov (.t 40), none⟩])
  (.seq (.seq (.ops [⟨(some 41), .mov (.t 0), none⟩,
      ⟨(some 42), .len false (.t 41), none⟩,
      ⟨(some 43), .mov (.t 3), none⟩,
      ⟨(some 44), .bin .lss .no (.t 42) (.t 43), none⟩])
   (.cond (.t 44)
    (.seq (.ops [⟨(some 45), .build [(.int .u8 0), (.slice none 0 (some 0) 0)] [], none⟩,
        ⟨none, .store 2 (.t 2) (.t 45), none⟩,
        ⟨(some 3), .mov (.c (.int .i64 0)), none⟩,
        ⟨(some 4), .mov (.c (.bool false)), none⟩])
     (.ret))
    (.skip)))
  (.seq (.ops [⟨(some 46), .mov (.t 5), none⟩,
     ⟨(some 47), .mov (.t 0), none⟩,
     ⟨(some 48), .mov (.t 6), none⟩,
     ⟨(some 49), .mov (.t 3), none⟩,
     ⟨(some 50), .slcS 1 (.t 47) (some (.t 48)) (some (.t 49)) none, none⟩,
     ⟨(some 51), .call k_bytes_Clone [(.t 50)], none⟩,
     ⟨(some 52), .build [(.int .u8 0), (.slice none 0 (some 0) 0)] [(0, 1, (.t 46)), (1, 1, (.t 51))], none⟩,
     ⟨(some 53), .mov (.t 3), none⟩,
     ⟨none, .store 2 (.t 2) (.t 52), none⟩,
     ⟨(some 3), .mov (.t 53), none⟩,
     ⟨(some 4), .mov (.c (.bool true)), none⟩])
  (.ret))))
/-- purser/ops.first -/
def f_ops_first : Fn := ⟨54, [.cell 2 (some 2), .tmp 3, .tmp 4],
  .seq (.ops [⟨(some 2), .alloc [(.int .u8 0), (.slice none 0 (some 0) 0)], none⟩,
     ⟨(some 3), .mov (.c (.int .i64 0)), none⟩,
     ⟨(some 4), .mov (.c (.bool false)), none⟩])
  (.seq (.ops [⟨(some 9), .mov (.t 0), none⟩,
     ⟨(some 10), .idxAddrS 1 (.t 9) (.c (.int .i64 0)), none⟩,
     ⟨(some 11), .load none (.t 10), none⟩,
     ⟨(some 5), .mov (.t 11), none⟩])
  (.seq (.ops [⟨(some 12), .mov (.t 5), none⟩,
     ⟨(some 13), .call k_ops_counted [(.t 12)], none⟩,
     ⟨(some 14), .bin .add .no (.c (.int .i64 1)) (.t 13), none⟩,
     ⟨(some 6), .mov (.t 14), none⟩])
  (.seq (.seq (.ops [⟨(some 15), .mov (.t 0), none⟩,
      ⟨(some 16), .len false (.t 15), none⟩,
      ⟨(some 17), .mov (.t 6), none⟩,
      ⟨(some 18), .bin .lss .no (.t 16) (.t 17), none⟩])
   (.cond (.t 18)
    (.seq (.ops [⟨(some 19), .build [(.int .u8 0), (.slice none 0 (some 0) 0)] [], none⟩,
        ⟨none, .store 2 (.t 2) (.t 19), none⟩,
        ⟨(some 3), .mov (.c (.int .i64 0)), none⟩,
        ⟨(some 4), .mov (.c (.bool false)), none⟩])
     (.ret))
    (.skip)))
  (.seq (.ops [⟨(some 7), .mov (.c (.int .i64 0)), none⟩])
  (.seq (.seq (.ops [⟨(some 20), .mov (.t 6), none⟩,
      ⟨(some 21), .bin .sub .no (.t 20) (.c (.int .i64 1)), none⟩,
      ⟨(some 8), .mov (.t 21), none⟩])
   (.block 0 (.loop (L_ops_first_0))))
  (R_ops_first_0))))))⟩
/-- purser/ops.counted -/
def f_ops_counted : Fn := ⟨14, [.tmp 2],
  .seq (.ops [⟨(some 2), .mov (.c (.int .i64 0)), none⟩])
  (.seq (.ops [⟨(some 3), .mov (.c (.int .i64 0)), none⟩])
  (.seq (.seq (.ops [⟨(some 4), .mov (.t 0), none⟩])
   (.block 0 (.seq (.block 2 (.seq (.block 1 (.seq (.seq (.seq (.ops [⟨(some 6), .bin .eql .no (.t 4) (.c (.int .u8 77)), none⟩,
             ⟨(some 5), .mov (.t 6), none⟩])
          (.cond (.t 5)
           (.exit 1)
           (.skip)))
         (.seq (.ops [⟨(some 8), .bin .eql .no (.t 4) (.c (.int .u8 76)), none⟩,
            ⟨(some 7), .mov (.t 8), none⟩])
         (.cond (.t 7)
          (.exit 2)
          (.skip))))
        (.exit 0)))
      (.ops [⟨(some 9), .mov (.t 3), none⟩,
        ⟨(some 10), .bin .add .no (.t 9) (.c (.int .i64 1)), none⟩,
        ⟨(some 3), .mov (.t 10), none⟩])))
    (.seq (.ops [⟨(some 11), .mov (.t 3), none⟩,
       ⟨(some 12), .bin .add .no (.t 11) (.c (.int .i64 1)), none⟩,
       ⟨(some 3), .mov (.t 12), none⟩])
    (.exit 0)))))
  (.seq (.ops [⟨(some 13), .mov (.t 3), none⟩,
     ⟨(some 2), .mov (.t 13), none⟩])
  (.ret))))⟩
/-- bytes.Clone -/
def f_bytes_Clone : Fn := ⟨8, [.tmp 2],
  .seq (.ops [⟨(some 2), .mov (.c (.slice none 0 (some 0) 0)), none⟩])
  (.seq (.seq (.ops [⟨(some 3), .mov (.t 0), none⟩,
      ⟨(some 4), .bin .eql (.ref .s) (.t 3) (.c (.slice none 0 (some 0) 0)), none⟩])
   (.cond (.t 4)
    (.seq (.ops [⟨(some 2), .mov (.c (.slice none 0 (some 0) 0)), none⟩])
     (.ret))
    (.skip)))
  (.seq (.ops [⟨(some 5), .buildS [] 0 1 [], none⟩,
     ⟨(some 6), .mov (.t 0), none⟩,
     ⟨(some 7), .append 1 1 (.t 5) (.t 6), none⟩,
     ⟨(some 2), .mov (.t 7), none⟩])
  (.ret)))⟩


end Go.Eng
