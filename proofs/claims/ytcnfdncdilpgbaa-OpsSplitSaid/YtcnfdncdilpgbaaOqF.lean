/- Functions of the program, as the evaluator takes them: printed by program. -/
import Derived.Test.YtcnfdncdilpgbaaEngI
namespace Go.Eng
open Go
/-- purser/purserlaw10.OpsSplit -/
abbrev k_purserlaw10_OpsSplit : Nat := 3
/-- purser/purserlaw10.OpsJoin -/
abbrev k_purserlaw10_OpsJoin : Nat := 4
/-- purser/purserlaw10.OpsBack -/
abbrev k_purserlaw10_OpsBack : Nat := 5
/-- purser/purserlaw10.OpsPushed -/
abbrev k_purserlaw10_OpsPushed : Nat := 6
/-- purser/ops.Split -/
abbrev k_ops_Split : Nat := 7
/-- purser/purserref10.Split -/
abbrev k_purserref10_Split : Nat := 8
/-- purser/purserref10.Same -/
abbrev k_purserref10_Same : Nat := 9
/-- purser/ops.Pushes -/
abbrev k_ops_Pushes : Nat := 10
/-- purser/purserref10.Pushes -/
abbrev k_purserref10_Pushes : Nat := 11
/-- purser/ops.Burnt -/
abbrev k_ops_Burnt : Nat := 12
/-- purser/purserref10.Burnt -/
abbrev k_purserref10_Burnt : Nat := 13
/-- purser/purserlaw10.great -/
abbrev k_purserlaw10_great : Nat := 14
/-- purser/ops.Join -/
abbrev k_ops_Join : Nat := 15
/-- purser/purserref10.Join -/
abbrev k_purserref10_Join : Nat := 16
/-- purser/ops.Same -/
abbrev k_ops_Same : Nat := 17
/-- purser/ops.Value -/
abbrev k_ops_Value : Nat := 18
/-- purser/purserref10.Value -/
abbrev k_purserref10_Value : Nat := 19
/-- purser/ops.Push -/
abbrev k_ops_Push : Nat := 20
/-- purser/purserref10.Push -/
abbrev k_purserref10_Push : Nat := 21
/-- purser/purserlaw10.alive -/
abbrev k_purserlaw10_alive : Nat := 22
/-- purser/ops.operations -/
abbrev k_ops_operations : Nat := 23
/-- purser/purserref01.Twin -/
abbrev k_purserref01_Twin : Nat := 24
/-- purser/ops.valid -/
abbrev k_ops_valid : Nat := 25
/-- purser/ops.counted -/
abbrev k_ops_counted : Nat := 26
/-- purser/purserref10.may -/
abbrev k_purserref10_may : Nat := 27
/-- purser/purserref10.bytes -/
abbrev k_purserref10_bytes : Nat := 28
/-- slices.EqualFunc[[]purser/api.Op,[]purser/api.Op,purser/api.Op,purser/api.Op] -/
abbrev k_slices_EqualFunc_api_Op_api_Op_api_Op_api_Op : Nat := 29
/-- purser/ops.sameOp -/
abbrev k_ops_sameOp : Nat := 30
/-- bytes.Clone -/
abbrev k_bytes_Clone : Nat := 31
/-- purser/purserlaw10.splits -/
abbrev k_purserlaw10_splits : Nat := 32
/-- purser/ops.operations$1 -/
abbrev k_ops_operations_1 : Nat := 33
/-- bytes.Equal -/
abbrev k_bytes_Equal : Nat := 35
/-- purser/ops.first -/
abbrev k_ops_first : Nat := 34
def L_purserlaw10_OpsSplit_0 : C := .seq (.ops [⟨(some 72), .bin .lss .no (.t 71) (.t 70), none⟩])
         (.seq (.cond (.t 72)
           (.skip)
           (.exit 2))
         (.seq (.block 3 (.seq (.ops [⟨(some 73), .mov (.t 71), none⟩,
              ⟨(some 9), .mov (.t 73), none⟩])
           (.ops [⟨(some 74), .mov (.t 4), none⟩,
             ⟨(some 75), .mov (.t 8), none⟩,
             ⟨(some 76), .idxAddrS 2 (.t 74) (.t 75), none⟩,
             ⟨(some 77), .fieldAddr 1 (.t 76), none⟩,
             ⟨(some 78), .load none (.t 77), none⟩,
             ⟨(some 79), .mov (.t 9), none⟩,
             ⟨(some 80), .idxAddrS 1 (.t 78) (.t 79), none⟩,
             ⟨(some 81), .load none (.t 80), none⟩,
             ⟨(some 82), .bin .add .no (.t 81) (.c (.int .u8 1)), none⟩,
             ⟨(some 83), .idxAddrS 1 (.t 78) (.t 79), none⟩,
             ⟨none, .store 1 (.t 83) (.t 82), none⟩])))
         (.ops [⟨(some 84), .bin .add .no (.t 71) (.c (.int .i64 1)), none⟩,
           ⟨(some 71), .mov (.t 84), none⟩])))
def R_purserlaw10_OpsSplit_0 : C := .ops [⟨(some 85), .bin .add .no (.t 62) (.c (.int .i64 1)), none⟩,
       ⟨(some 62), .mov (.t 85), none⟩]
def L_purserlaw10_OpsSplit_1 : C := .seq (.ops [⟨(some 63), .bin .lss .no (.t 62) (.t 61), none⟩])
     (.seq (.cond (.t 63)
       (.skip)
       (.exit 0))
     (.seq (.block 1 (.seq (.ops [⟨(some 64), .mov (.t 62), none⟩,
          ⟨(some 8), .mov (.t 64), none⟩])
       (.seq (.ops [⟨(some 65), .mov (.t 4), none⟩,
          ⟨(some 66), .mov (.t 8), none⟩,
          ⟨(some 67), .idxAddrS 2 (.t 65) (.t 66), none⟩,
          ⟨(some 68), .fieldAddr 1 (.t 67), none⟩,
          ⟨(some 69), .load none (.t 68), none⟩,
          ⟨(some 70), .len false (.t 69), none⟩,
          ⟨(some 71), .mov (.c (.int .i64 0)), none⟩])
       (.block 2 (.loop (L_purserlaw10_OpsSplit_0))))))
     (R_purserlaw10_OpsSplit_0)))
def R_purserlaw10_OpsSplit_1 : C := .seq (.ops [⟨(some 86), .mov (.t 3), none⟩,
     ⟨(some 87), .b2s (.t 86), none⟩,
     ⟨(some 88), .mov (.t 0), none⟩,
     ⟨(some 89), .b2s (.t 88), none⟩,
     ⟨(some 90), .bin .add .no (.t 89) (.c (.str [7])), none⟩,
     ⟨(some 91), .bin .eql .no (.t 87) (.t 90), none⟩,
     ⟨(some 2), .mov (.t 91), none⟩])
  (.ret)
/-- purser/purserlaw10.OpsSplit -/
def f_purserlaw10_OpsSplit : Fn := ⟨92, [.tmp 2],
  .seq (.ops [⟨(some 2), .mov (.c (.bool false)), none⟩])
  (.seq (.seq (.ops [⟨(some 10), .mov (.t 0), none⟩,
      ⟨(some 11), .len false (.t 10), none⟩,
      ⟨(some 12), .bin .gtr .no (.t 11) (.c (.int .i64 70000)), none⟩])
   (.cond (.t 12)
    (.seq (.ops [⟨(some 2), .mov (.c (.bool true)), none⟩])
     (.ret))
    (.skip)))
  (.seq (.ops [⟨(some 13), .buildS [] 0 1 [], none⟩,
     ⟨(some 14), .mov (.t 0), none⟩,
     ⟨(some 15), .append 1 1 (.t 13) (.t 14), none⟩,
     ⟨(some 16), .buildS [(.int .u8 0)] 1 1 [(0, 1, (.c (.int .u8 7)))], none⟩,
     ⟨(some 17), .append 1 1 (.t 15) (.t 16), none⟩,
     ⟨(some 3), .mov (.t 17), none⟩])
  (.seq (.ops [⟨(some 19), .mov (.t 3), none⟩,
     ⟨(some 20), .mov (.t 0), none⟩,
     ⟨(some 21), .len false (.t 20), none⟩,
     ⟨(some 22), .slcS 1 (.t 19) none (some (.t 21)) none, none⟩,
     ⟨(some 23), .call k_ops_Split [(.t 22)], none⟩,
     ⟨(some 18), .mov (.t 23), none⟩,
     ⟨(some 24), .ext (.t 18) 0, none⟩,
     ⟨(some 25), .ext (.t 18) 1, none⟩,
     ⟨(some 4), .mov (.t 24), none⟩,
     ⟨(some 5), .mov (.t 25), none⟩])
  (.seq (.ops [⟨(some 27), .mov (.t 0), none⟩,
     ⟨(some 28), .call k_purserref10_Split [(.t 27)], none⟩,
     ⟨(some 26), .mov (.t 28), none⟩,
     ⟨(some 29), .ext (.t 26) 0, none⟩,
     ⟨(some 30), .ext (.t 26) 1, none⟩,
     ⟨(some 6), .mov (.t 29), none⟩,
     ⟨(some 7), .mov (.t 30), none⟩])
  (.seq (.seq (.ops [⟨(some 31), .mov (.t 4), none⟩,
      ⟨(some 32), .mov (.t 6), none⟩,
      ⟨(some 33), .call k_purserref10_Same [(.t 31), (.t 32)], none⟩,
      ⟨(some 34), .un .not (.t 33), none⟩,
      ⟨(some 35), .mov (.t 34), none⟩,
      ⟨(some 36), .mov (.t 5), (some (35, false))⟩,
      ⟨(some 37), .mov (.t 7), (some (35, false))⟩,
      ⟨(some 38), .bin .neq .no (.t 36) (.t 37), (some (35, false))⟩,
      ⟨(some 39), .pick (.t 35) (.c (.bool true)) (.t 38), none⟩,
      ⟨(some 40), .mov (.t 39), none⟩,
      ⟨(some 41), .mov (.t 3), (some (40, false))⟩,
      ⟨(some 42), .mov (.t 0), (some (40, false))⟩,
      ⟨(some 43), .len false (.t 42), (some (40, false))⟩,
      ⟨(some 44), .slcS 1 (.t 41) none (some (.t 43)) none, (some (40, false))⟩,
      ⟨(some 45), .call k_ops_Pushes [(.t 44)], (some (40, false))⟩,
      ⟨(some 46), .mov (.t 0), (some (40, false))⟩,
      ⟨(some 47), .call k_purserref10_Pushes [(.t 46)], (some (40, false))⟩,
      ⟨(some 48), .bin .neq .bool (.t 45) (.t 47), (some (40, false))⟩,
      ⟨(some 49), .pick (.t 40) (.c (.bool true)) (.t 48), none⟩,
      ⟨(some 50), .mov (.t 49), none⟩,
      ⟨(some 51), .mov (.t 3), (some (50, false))⟩,
      ⟨(some 52), .mov (.t 0), (some (50, false))⟩,
      ⟨(some 53), .len false (.t 52), (some (50, false))⟩,
      ⟨(some 54), .slcS 1 (.t 51) none (some (.t 53)) none, (some (50, false))⟩,
      ⟨(some 55), .call k_ops_Burnt [(.t 54)], (some (50, false))⟩,
      ⟨(some 56), .mov (.t 0), (some (50, false))⟩,
      ⟨(some 57), .call k_purserref10_Burnt [(.t 56)], (some (50, false))⟩,
      ⟨(some 58), .bin .neq .bool (.t 55) (.t 57), (some (50, false))⟩,
      ⟨(some 59), .pick (.t 50) (.c (.bool true)) (.t 58), none⟩])
   (.cond (.t 59)
    (.seq (.ops [⟨(some 2), .mov (.c (.bool false)), none⟩])
     (.ret))
    (.skip)))
  (.seq (.seq (.ops [⟨(some 60), .mov (.t 4), none⟩,
      ⟨(some 61), .len false (.t 60), none⟩,
      ⟨(some 62), .mov (.c (.int .i64 0)), none⟩])
   (.block 0 (.loop (L_purserlaw10_OpsSplit_1))))
  (R_purserlaw10_OpsSplit_1)))))))⟩
def L_purserlaw10_OpsJoin_0 : C := .seq (.ops [⟨(some 110), .bin .lss .no (.t 109) (.t 108), none⟩])
          (.seq (.cond (.t 110)
            (.skip)
            (.exit 2))
          (.seq (.block 3 (.seq (.ops [⟨(some 111), .mov (.t 109), none⟩,
               ⟨(some 17), .mov (.t 111), none⟩])
            (.ops [⟨(some 112), .mov (.t 13), none⟩,
              ⟨(some 113), .mov (.t 17), none⟩,
              ⟨(some 114), .idxAddrS 1 (.t 112) (.t 113), none⟩,
              ⟨(some 115), .load none (.t 114), none⟩,
              ⟨(some 116), .bin .add .no (.t 115) (.c (.int .u8 1)), none⟩,
              ⟨(some 117), .idxAddrS 1 (.t 112) (.t 113), none⟩,
              ⟨none, .store 1 (.t 117) (.t 116), none⟩])))
          (.ops [⟨(some 118), .bin .add .no (.t 109) (.c (.int .i64 1)), none⟩,
            ⟨(some 109), .mov (.t 118), none⟩])))
def R_purserlaw10_OpsJoin_0 : C := .seq (.ops [⟨(some 119), .mov (.t 0), none⟩,
          ⟨(some 120), .mov (.t 11), none⟩,
          ⟨(some 121), .idxAddrS 2 (.t 119) (.t 120), none⟩,
          ⟨(some 122), .fieldAddr 1 (.t 121), none⟩,
          ⟨(some 123), .load none (.t 122), none⟩,
          ⟨(some 124), .b2s (.t 123), none⟩,
          ⟨(some 125), .mov (.t 12), none⟩,
          ⟨(some 126), .bin .neq .no (.t 124) (.t 125), none⟩])
       (.cond (.t 126)
        (.seq (.ops [⟨(some 6), .mov (.c (.bool false)), none⟩])
         (.ret))
        (.skip))
def R_purserlaw10_OpsJoin_1 : C := .ops [⟨(some 127), .bin .add .no (.t 72) (.c (.int .i64 1)), none⟩,
       ⟨(some 72), .mov (.t 127), none⟩]
def L_purserlaw10_OpsJoin_1 : C := .seq (.ops [⟨(some 73), .bin .lss .no (.t 72) (.t 71), none⟩])
     (.seq (.cond (.t 73)
       (.skip)
       (.exit 0))
     (.seq (.block 1 (.seq (.ops [⟨(some 74), .mov (.t 72), none⟩,
          ⟨(some 11), .mov (.t 74), none⟩])
       (.seq (.ops [⟨(some 75), .mov (.t 0), none⟩,
          ⟨(some 76), .mov (.t 11), none⟩,
          ⟨(some 77), .idxAddrS 2 (.t 75) (.t 76), none⟩,
          ⟨(some 78), .fieldAddr 1 (.t 77), none⟩,
          ⟨(some 79), .load none (.t 78), none⟩,
          ⟨(some 80), .b2s (.t 79), none⟩,
          ⟨(some 12), .mov (.t 80), none⟩])
       (.seq (.ops [⟨(some 82), .mov (.t 0), none⟩,
          ⟨(some 83), .mov (.t 11), none⟩,
          ⟨(some 84), .idxAddrS 2 (.t 82) (.t 83), none⟩,
          ⟨(some 85), .load (some 2) (.t 84), none⟩,
          ⟨(some 86), .call k_ops_Value [(.t 85)], none⟩,
          ⟨(some 81), .mov (.t 86), none⟩,
          ⟨(some 87), .ext (.t 81) 0, none⟩,
          ⟨(some 88), .ext (.t 81) 1, none⟩,
          ⟨(some 13), .mov (.t 87), none⟩,
          ⟨(some 14), .mov (.t 88), none⟩])
       (.seq (.ops [⟨(some 90), .mov (.t 0), none⟩,
          ⟨(some 91), .mov (.t 11), none⟩,
          ⟨(some 92), .idxAddrS 2 (.t 90) (.t 91), none⟩,
          ⟨(some 93), .load (some 2) (.t 92), none⟩,
          ⟨(some 94), .call k_purserref10_Value [(.t 93)], none⟩,
          ⟨(some 89), .mov (.t 94), none⟩,
          ⟨(some 95), .ext (.t 89) 0, none⟩,
          ⟨(some 96), .ext (.t 89) 1, none⟩,
          ⟨(some 15), .mov (.t 95), none⟩,
          ⟨(some 16), .mov (.t 96), none⟩])
       (.seq (.seq (.ops [⟨(some 97), .mov (.t 13), none⟩,
           ⟨(some 98), .b2s (.t 97), none⟩,
           ⟨(some 99), .mov (.t 15), none⟩,
           ⟨(some 100), .b2s (.t 99), none⟩,
           ⟨(some 101), .bin .neq .no (.t 98) (.t 100), none⟩,
           ⟨(some 102), .mov (.t 101), none⟩,
           ⟨(some 103), .mov (.t 14), (some (102, false))⟩,
           ⟨(some 104), .mov (.t 16), (some (102, false))⟩,
           ⟨(some 105), .bin .neq .bool (.t 103) (.t 104), (some (102, false))⟩,
           ⟨(some 106), .pick (.t 102) (.c (.bool true)) (.t 105), none⟩])
        (.cond (.t 106)
         (.seq (.ops [⟨(some 6), .mov (.c (.bool false)), none⟩])
          (.ret))
         (.skip)))
       (.seq (.seq (.ops [⟨(some 107), .mov (.t 13), none⟩,
           ⟨(some 108), .len false (.t 107), none⟩,
           ⟨(some 109), .mov (.c (.int .i64 0)), none⟩])
        (.block 2 (.loop (L_purserlaw10_OpsJoin_0))))
       (R_purserlaw10_OpsJoin_0))))))))
     (R_purserlaw10_OpsJoin_1)))
def L_purserlaw10_OpsJoin_2 : C := .seq (.ops [⟨(some 144), .bin .lss .no (.t 143) (.t 142), none⟩])
     (.seq (.cond (.t 144)
       (.skip)
       (.exit 4))
     (.seq (.block 5 (.seq (.ops [⟨(some 145), .mov (.t 143), none⟩,
          ⟨(some 23), .mov (.t 145), none⟩])
       (.ops [⟨(some 146), .mov (.t 18), none⟩,
         ⟨(some 147), .mov (.t 23), none⟩,
         ⟨(some 148), .idxAddrS 1 (.t 146) (.t 147), none⟩,
         ⟨(some 149), .load none (.t 148), none⟩,
         ⟨(some 150), .bin .add .no (.t 149) (.c (.int .u8 1)), none⟩,
         ⟨(some 151), .idxAddrS 1 (.t 146) (.t 147), none⟩,
         ⟨none, .store 1 (.t 151) (.t 150), none⟩])))
     (.ops [⟨(some 152), .bin .add .no (.t 143) (.c (.int .i64 1)), none⟩,
       ⟨(some 143), .mov (.t 152), none⟩])))
def R_purserlaw10_OpsJoin_2 : C := .seq (.ops [⟨(some 153), .load (some 2) (.t 19), none⟩,
     ⟨(some 154), .buildS [(.int .u8 0), (.slice none 0 (some 0) 0)] 1 2 [(0, 2, (.t 153))], none⟩,
     ⟨(some 155), .load (some 2) (.t 21), none⟩,
     ⟨(some 156), .buildS [(.int .u8 0), (.slice none 0 (some 0) 0)] 1 2 [(0, 2, (.t 155))], none⟩,
     ⟨(some 157), .call k_purserref10_Same [(.t 154), (.t 156)], none⟩,
     ⟨(some 158), .mov (.t 157), none⟩,
     ⟨(some 159), .mov (.t 20), (some (158, true))⟩,
     ⟨(some 160), .mov (.t 22), (some (158, true))⟩,
     ⟨(some 161), .bin .eql .no (.t 159) (.t 160), (some (158, true))⟩,
     ⟨(some 162), .pick (.t 158) (.t 161) (.c (.bool false)), none⟩,
     ⟨(some 6), .mov (.t 162), none⟩])
  (.ret)
def R_purserlaw10_OpsJoin_3 : C := .seq (.ops [⟨(some 128), .buildS [] 0 1 [], none⟩,
     ⟨(some 129), .mov (.t 2), none⟩,
     ⟨(some 130), .append 1 1 (.t 128) (.t 129), none⟩,
     ⟨(some 18), .mov (.t 130), none⟩])
  (.seq (.ops [⟨(some 132), .mov (.t 18), none⟩,
     ⟨(some 133), .call k_ops_Push [(.t 132)], none⟩,
     ⟨(some 131), .mov (.t 133), none⟩,
     ⟨(some 134), .ext (.t 131) 0, none⟩,
     ⟨(some 135), .ext (.t 131) 1, none⟩,
     ⟨(some 19), .alloc [(.int .u8 0), (.slice none 0 (some 0) 0)], none⟩,
     ⟨none, .store 2 (.t 19) (.t 134), none⟩,
     ⟨(some 20), .mov (.t 135), none⟩])
  (.seq (.ops [⟨(some 137), .mov (.t 2), none⟩,
     ⟨(some 138), .call k_purserref10_Push [(.t 137)], none⟩,
     ⟨(some 136), .mov (.t 138), none⟩,
     ⟨(some 139), .ext (.t 136) 0, none⟩,
     ⟨(some 140), .ext (.t 136) 1, none⟩,
     ⟨(some 21), .alloc [(.int .u8 0), (.slice none 0 (some 0) 0)], none⟩,
     ⟨none, .store 2 (.t 21) (.t 139), none⟩,
     ⟨(some 22), .mov (.t 140), none⟩])
  (.seq (.seq (.ops [⟨(some 141), .mov (.t 18), none⟩,
      ⟨(some 142), .len false (.t 141), none⟩,
      ⟨(some 143), .mov (.c (.int .i64 0)), none⟩])
   (.block 4 (.loop (L_purserlaw10_OpsJoin_2))))
  (R_purserlaw10_OpsJoin_2))))
/-- purser/purserlaw10.OpsJoin -/
def f_purserlaw10_OpsJoin : Fn := ⟨163, [.tmp 6],
  .seq (.ops [⟨(some 6), .mov (.c (.bool false)), none⟩])
  (.seq (.seq (.ops [⟨(some 24), .mov (.t 0), none⟩,
      ⟨(some 25), .call k_purserlaw10_great [(.t 24)], none⟩,
      ⟨(some 26), .mov (.t 25), none⟩,
      ⟨(some 27), .mov (.t 1), (some (26, false))⟩,
      ⟨(some 28), .call k_purserlaw10_great [(.t 27)], (some (26, false))⟩,
      ⟨(some 29), .pick (.t 26) (.c (.bool true)) (.t 28), none⟩,
      ⟨(some 30), .mov (.t 29), none⟩,
      ⟨(some 31), .mov (.t 2), (some (30, false))⟩,
      ⟨(some 32), .len false (.t 31), (some (30, false))⟩,
      ⟨(some 33), .bin .gtr .no (.t 32) (.c (.int .i64 70000)), (some (30, false))⟩,
      ⟨(some 34), .pick (.t 30) (.c (.bool true)) (.t 33), none⟩])
   (.cond (.t 34)
    (.seq (.ops [⟨(some 6), .mov (.c (.bool true)), none⟩])
     (.ret))
    (.skip)))
  (.seq (.ops [⟨(some 36), .mov (.t 0), none⟩,
     ⟨(some 37), .call k_ops_Join [(.t 36)], none⟩,
     ⟨(some 35), .mov (.t 37), none⟩,
     ⟨(some 38), .ext (.t 35) 0, none⟩,
     ⟨(some 39), .ext (.t 35) 1, none⟩,
     ⟨(some 7), .mov (.t 38), none⟩,
     ⟨(some 8), .mov (.t 39), none⟩])
  (.seq (.ops [⟨(some 41), .mov (.t 0), none⟩,
     ⟨(some 42), .call k_purserref10_Join [(.t 41)], none⟩,
     ⟨(some 40), .mov (.t 42), none⟩,
     ⟨(some 43), .ext (.t 40) 0, none⟩,
     ⟨(some 44), .ext (.t 40) 1, none⟩,
     ⟨(some 9), .mov (.t 43), none⟩,
     ⟨(some 10), .mov (.t 44), none⟩])
  (.seq (.seq (.ops [⟨(some 45), .mov (.t 7), none⟩,
      ⟨(some 46), .b2s (.t 45), none⟩,
      ⟨(some 47), .mov (.t 9), none⟩,
      ⟨(some 48), .b2s (.t 47), none⟩,
      ⟨(some 49), .bin .neq .no (.t 46) (.t 48), none⟩,
      ⟨(some 50), .mov (.t 49), none⟩,
      ⟨(some 51), .mov (.t 8), (some (50, false))⟩,
      ⟨(some 52), .mov (.t 10), (some (50, false))⟩,
      ⟨(some 53), .bin .neq .no (.t 51) (.t 52), (some (50, false))⟩,
      ⟨(some 54), .pick (.t 50) (.c (.bool true)) (.t 53), none⟩,
      ⟨(some 55), .mov (.t 54), none⟩,
      ⟨(some 56), .mov (.t 0), (some (55, false))⟩,
      ⟨(some 57), .mov (.t 1), (some (55, false))⟩,
      ⟨(some 58), .call k_ops_Same [(.t 56), (.t 57)], (some (55, false))⟩,
      ⟨(some 59), .mov (.t 0), (some (55, false))⟩,
      ⟨(some 60), .mov (.t 1), (some (55, false))⟩,
      ⟨(some 61), .call k_purserref10_Same [(.t 59), (.t 60)], (some (55, false))⟩,
      ⟨(some 62), .bin .neq .bool (.t 58) (.t 61), (some (55, false))⟩,
      ⟨(some 63), .pick (.t 55) (.c (.bool true)) (.t 62), none⟩,
      ⟨(some 64), .mov (.t 63), none⟩,
      ⟨(some 65), .mov (.t 0), (some (64, false))⟩,
      ⟨(some 66), .mov (.t 0), (some (64, false))⟩,
      ⟨(some 67), .call k_ops_Same [(.t 65), (.t 66)], (some (64, false))⟩,
      ⟨(some 68), .un .not (.t 67), (some (64, false))⟩,
      ⟨(some 69), .pick (.t 64) (.c (.bool true)) (.t 68), none⟩])
   (.cond (.t 69)
    (.seq (.ops [⟨(some 6), .mov (.c (.bool false)), none⟩])
     (.ret))
    (.skip)))
  (.seq (.seq (.ops [⟨(some 70), .mov (.t 0), none⟩,
      ⟨(some 71), .len false (.t 70), none⟩,
      ⟨(some 72), .mov (.c (.int .i64 0)), none⟩])
   (.block 0 (.loop (L_purserlaw10_OpsJoin_1))))
  (R_purserlaw10_OpsJoin_3))))))⟩
/-- purser/purserlaw10.OpsBack -/
def f_purserlaw10_OpsBack : Fn := ⟨125, [.tmp 4],
  .seq (.ops [⟨(some 4), .mov (.c (.bool false)), none⟩])
  (.seq (.ops [⟨(some 16), .call k_purserlaw10_alive [], none⟩,
     ⟨(some 5), .mov (.t 16), none⟩])
  (.seq (.seq (.ops [⟨(some 17), .mov (.t 0), none⟩,
      ⟨(some 18), .len false (.t 17), none⟩,
      ⟨(some 19), .bin .gtr .no (.t 18) (.c (.int .i64 5000)), none⟩,
      ⟨(some 20), .mov (.t 19), none⟩,
      ⟨(some 21), .mov (.t 1), (some (20, false))⟩,
      ⟨(some 22), .call k_purserlaw10_great [(.t 21)], (some (20, false))⟩,
      ⟨(some 23), .pick (.t 20) (.c (.bool true)) (.t 22), none⟩,
      ⟨(some 24), .mov (.t 23), none⟩,
      ⟨(some 25), .mov (.t 5), (some (24, false))⟩,
      ⟨(some 26), .un .not (.t 25), (some (24, false))⟩,
      ⟨(some 27), .pick (.t 24) (.c (.bool true)) (.t 26), none⟩])
   (.cond (.t 27)
    (.seq (.ops [⟨(some 28), .mov (.t 5), none⟩,
        ⟨(some 4), .mov (.t 28), none⟩])
     (.ret))
    (.skip)))
  (.seq (.ops [⟨(some 30), .mov (.t 0), none⟩,
     ⟨(some 31), .call k_ops_Split [(.t 30)], none⟩,
     ⟨(some 29), .mov (.t 31), none⟩,
     ⟨(some 32), .ext (.t 29) 0, none⟩,
     ⟨(some 33), .ext (.t 29) 1, none⟩,
     ⟨(some 6), .mov (.t 32), none⟩,
     ⟨(some 7), .mov (.t 33), none⟩])
  (.seq (.seq (.ops [⟨(some 34), .mov (.t 7), none⟩,
      ⟨(some 35), .bin .eql .no (.t 34) (.c (.int .i64 0)), none⟩])
   (.cond (.t 35)
    (.seq (.ops [⟨(some 37), .mov (.t 6), none⟩,
        ⟨(some 38), .call k_ops_Join [(.t 37)], none⟩,
        ⟨(some 36), .mov (.t 38), none⟩,
        ⟨(some 39), .ext (.t 36) 0, none⟩,
        ⟨(some 40), .ext (.t 36) 1, none⟩,
        ⟨(some 8), .mov (.t 39), none⟩,
        ⟨(some 9), .mov (.t 40), none⟩])
     (.seq (.ops [⟨(some 41), .mov (.t 9), none⟩,
        ⟨(some 42), .bin .neq .no (.t 41) (.c (.int .i64 0)), none⟩,
        ⟨(some 43), .mov (.t 42), none⟩,
        ⟨(some 44), .mov (.t 8), (some (43, false))⟩,
        ⟨(some 45), .b2s (.t 44), (some (43, false))⟩,
        ⟨(some 46), .mov (.t 0), (some (43, false))⟩,
        ⟨(some 47), .b2s (.t 46), (some (43, false))⟩,
        ⟨(some 48), .bin .neq .no (.t 45) (.t 47), (some (43, false))⟩,
        ⟨(some 49), .pick (.t 43) (.c (.bool true)) (.t 48), none⟩])
     (.cond (.t 49)
      (.seq (.ops [⟨(some 4), .mov (.c (.bool false)), none⟩])
       (.ret))
      (.skip))))
    (.skip)))
  (.seq (.ops [⟨(some 51), .mov (.t 1), none⟩,
     ⟨(some 52), .call k_ops_Join [(.t 51)], none⟩,
     ⟨(some 50), .mov (.t 52), none⟩,
     ⟨(some 53), .ext (.t 50) 0, none⟩,
     ⟨(some 54), .ext (.t 50) 1, none⟩,
     ⟨(some 10), .mov (.t 53), none⟩,
     ⟨(some 11), .mov (.t 54), none⟩])
  (.seq (.seq (.ops [⟨(some 55), .mov (.t 11), none⟩,
      ⟨(some 56), .bin .neq .no (.t 55) (.c (.int .i64 0)), none⟩])
   (.cond (.t 56)
    (.seq (.ops [⟨(some 57), .mov (.t 5), none⟩,
        ⟨(some 58), .mov (.t 57), none⟩,
        ⟨(some 59), .mov (.t 11), (some (58, true))⟩,
        ⟨(some 60), .bin .eql .no (.t 59) (.c (.int .i64 100)), (some (58, true))⟩,
        ⟨(some 61), .pick (.t 58) (.t 60) (.c (.bool false)), none⟩,
        ⟨(some 62), .mov (.t 61), none⟩,
        ⟨(some 63), .mov (.t 10), (some (62, true))⟩,
        ⟨(some 64), .len false (.t 63), (some (62, true))⟩,
        ⟨(some 65), .bin .eql .no (.t 64) (.c (.int .i64 0)), (some (62, true))⟩,
        ⟨(some 66), .pick (.t 62) (.t 65) (.c (.bool false)), none⟩,
        ⟨(some 4), .mov (.t 66), none⟩])
     (.ret))
    (.skip)))
  (.seq (.ops [⟨(some 68), .mov (.t 10), none⟩,
     ⟨(some 69), .call k_ops_Split [(.t 68)], none⟩,
     ⟨(some 67), .mov (.t 69), none⟩,
     ⟨(some 70), .ext (.t 67) 0, none⟩,
     ⟨(some 71), .ext (.t 67) 1, none⟩,
     ⟨(some 12), .mov (.t 70), none⟩,
     ⟨(some 13), .mov (.t 71), none⟩])
  (.seq (.ops [⟨(some 73), .buildS [] 0 1 [], none⟩,
     ⟨(some 74), .mov (.t 10), none⟩,
     ⟨(some 75), .append 1 1 (.t 73) (.t 74), none⟩,
     ⟨(some 76), .mov (.t 0), none⟩,
     ⟨(some 77), .append 1 1 (.t 75) (.t 76), none⟩,
     ⟨(some 78), .call k_ops_Split [(.t 77)], none⟩,
     ⟨(some 72), .mov (.t 78), none⟩,
     ⟨(some 79), .ext (.t 72) 0, none⟩,
     ⟨(some 80), .ext (.t 72) 1, none⟩,
     ⟨(some 14), .mov (.t 79), none⟩,
     ⟨(some 15), .mov (.t 80), none⟩])
  (.seq (.seq (.ops [⟨(some 81), .mov (.t 13), none⟩,
      ⟨(some 82), .bin .neq .no (.t 81) (.c (.int .i64 0)), none⟩,
      ⟨(some 83), .mov (.t 82), none⟩,
      ⟨(some 84), .mov (.t 12), (some (83, false))⟩,
      ⟨(some 85), .mov (.t 1), (some (83, false))⟩,
      ⟨(some 86), .call k_ops_Same [(.t 84), (.t 85)], (some (83, false))⟩,
      ⟨(some 87), .un .not (.t 86), (some (83, false))⟩,
      ⟨(some 88), .pick (.t 83) (.c (.bool true)) (.t 87), none⟩,
      ⟨(some 89), .mov (.t 88), none⟩,
      ⟨(some 90), .mov (.t 15), (some (89, false))⟩,
      ⟨(some 91), .mov (.t 7), (some (89, false))⟩,
      ⟨(some 92), .bin .neq .no (.t 90) (.t 91), (some (89, false))⟩,
      ⟨(some 93), .pick (.t 89) (.c (.bool true)) (.t 92), none⟩])
   (.cond (.t 93)
    (.seq (.ops [⟨(some 4), .mov (.c (.bool false)), none⟩])
     (.ret))
    (.skip)))
  (.seq (.ops [⟨(some 94), .mov (.t 5), none⟩,
     ⟨(some 95), .mov (.t 94), none⟩,
     ⟨(some 96), .mov (.t 7), (some (95, true))⟩,
     ⟨(some 97), .bin .neq .no (.t 96) (.c (.int .i64 0)), (some (95, true))⟩,
     ⟨(some 98), .mov (.t 97), (some (95, true))⟩,
     ⟨(some 99), .mov (.t 14), (some (98, false))⟩,
     ⟨(some 100), .len false (.t 99), (some (98, false))⟩,
     ⟨(some 101), .mov (.t 1), (some (98, false))⟩,
     ⟨(some 102), .len false (.t 101), (some (98, false))⟩,
     ⟨(some 103), .mov (.t 6), (some (98, false))⟩,
     ⟨(some 104), .len false (.t 103), (some (98, false))⟩,
     ⟨(some 105), .bin .add .no (.t 102) (.t 104), (some (98, false))⟩,
     ⟨(some 106), .bin .eql .no (.t 100) (.t 105), (some (98, false))⟩,
     ⟨(some 107), .mov (.t 106), (some (98, false))⟩,
     ⟨(some 108), .mov (.t 14), (some (107, true))⟩,
     ⟨(some 109), .mov (.t 1), (some (107, true))⟩,
     ⟨(some 110), .len false (.t 109), (some (107, true))⟩,
     ⟨(some 111), .slcS 2 (.t 108) none (some (.t 110)) none, (some (107, true))⟩,
     ⟨(some 112), .mov (.t 1), (some (107, true))⟩,
     ⟨(some 113), .call k_ops_Same [(.t 111), (.t 112)], (some (107, true))⟩,
     ⟨(some 114), .pick (.t 107) (.t 113) (.c (.bool false)), (some (98, false))⟩,
     ⟨(some 115), .mov (.t 114), (some (98, false))⟩,
     ⟨(some 116), .mov (.t 14), (some (115, true))⟩,
     ⟨(some 117), .mov (.t 1), (some (115, true))⟩,
     ⟨(some 118), .len false (.t 117), (some (115, true))⟩,
     ⟨(some 119), .slcS 2 (.t 116) (some (.t 118)) none none, (some (115, true))⟩,
     ⟨(some 120), .mov (.t 6), (some (115, true))⟩,
     ⟨(some 121), .call k_ops_Same [(.t 119), (.t 120)], (some (115, true))⟩,
     ⟨(some 122), .pick (.t 115) (.t 121) (.c (.bool false)), (some (98, false))⟩,
     ⟨(some 123), .pick (.t 98) (.c (.bool true)) (.t 122), (some (95, true))⟩,
     ⟨(some 124), .pick (.t 95) (.t 123) (.c (.bool false)), none⟩,
     ⟨(some 4), .mov (.t 124), none⟩])
  (.ret)))))))))))⟩
def L_purserlaw10_OpsPushed_0 : C := .seq (.ops [⟨(some 81), .bin .lss .no (.t 80) (.t 79), none⟩])
          (.seq (.cond (.t 81)
            (.skip)
            (.exit 2))
          (.seq (.block 3 (.seq (.ops [⟨(some 82), .idxAddrS 1 (.t 78) (.t 80), none⟩,
               ⟨(some 83), .load none (.t 82), none⟩,
               ⟨(some 15), .mov (.t 83), none⟩])
            (.seq (.ops [⟨(some 85), .mov (.t 15), none⟩,
               ⟨(some 86), .mov (.t 0), none⟩,
               ⟨(some 87), .mov (.t 7), none⟩,
               ⟨(some 88), .idxAddrS 1 (.t 86) (.t 87), none⟩,
               ⟨(some 89), .load none (.t 88), none⟩,
               ⟨(some 90), .build [(.int .u8 0), (.slice none 0 (some 0) 0)] [(0, 1, (.t 85)), (1, 1, (.t 89))], none⟩,
               ⟨(some 91), .buildS [(.int .u8 0), (.slice none 0 (some 0) 0)] 1 2 [(0, 2, (.t 90))], none⟩,
               ⟨(some 92), .call k_ops_Join [(.t 91)], none⟩,
               ⟨(some 84), .mov (.t 92), none⟩,
               ⟨(some 93), .ext (.t 84) 0, none⟩,
               ⟨(some 94), .ext (.t 84) 1, none⟩,
               ⟨(some 16), .mov (.t 93), none⟩,
               ⟨(some 17), .mov (.t 94), none⟩])
            (.seq (.ops [⟨(some 95), .mov (.t 13), none⟩,
               ⟨(some 96), .bin .neq .no (.t 95) (.c (.int .i64 0)), none⟩,
               ⟨(some 97), .mov (.t 96), none⟩,
               ⟨(some 98), .mov (.t 17), (some (97, false))⟩,
               ⟨(some 99), .bin .eql .no (.t 98) (.c (.int .i64 0)), (some (97, false))⟩,
               ⟨(some 100), .mov (.t 99), (some (97, false))⟩,
               ⟨(some 101), .mov (.t 16), (some (100, true))⟩,
               ⟨(some 102), .len false (.t 101), (some (100, true))⟩,
               ⟨(some 103), .mov (.t 12), (some (100, true))⟩,
               ⟨(some 104), .len false (.t 103), (some (100, true))⟩,
               ⟨(some 105), .bin .lss .no (.t 102) (.t 104), (some (100, true))⟩,
               ⟨(some 106), .pick (.t 100) (.t 105) (.c (.bool false)), (some (97, false))⟩,
               ⟨(some 107), .pick (.t 97) (.c (.bool true)) (.t 106), none⟩])
            (.cond (.t 107)
             (.seq (.ops [⟨(some 4), .mov (.c (.bool false)), none⟩])
              (.ret))
             (.skip))))))
          (.ops [⟨(some 108), .bin .add .no (.t 80) (.c (.int .i64 1)), none⟩,
            ⟨(some 80), .mov (.t 108), none⟩])))
def R_purserlaw10_OpsPushed_0 : C := .ops [⟨(some 109), .mov (.t 6), none⟩,
         ⟨(some 110), .load (some 2) (.t 8), none⟩,
         ⟨(some 111), .buildS [(.int .u8 0), (.slice none 0 (some 0) 0)] 1 2 [(0, 2, (.t 110))], none⟩,
         ⟨(some 112), .append 2 32 (.t 109) (.t 111), none⟩,
         ⟨(some 6), .mov (.t 112), none⟩]
def R_purserlaw10_OpsPushed_1 : C := .ops [⟨(some 113), .bin .add .no (.t 33) (.c (.int .i64 1)), none⟩,
       ⟨(some 33), .mov (.t 113), none⟩]
def L_purserlaw10_OpsPushed_1 : C := .seq (.ops [⟨(some 34), .bin .lss .no (.t 33) (.t 32), none⟩])
     (.seq (.cond (.t 34)
       (.skip)
       (.exit 0))
     (.seq (.block 1 (.seq (.ops [⟨(some 35), .mov (.t 33), none⟩,
          ⟨(some 7), .mov (.t 35), none⟩])
       (.seq (.seq (.ops [⟨(some 36), .mov (.t 0), none⟩,
           ⟨(some 37), .mov (.t 7), none⟩,
           ⟨(some 38), .idxAddrS 1 (.t 36) (.t 37), none⟩,
           ⟨(some 39), .load none (.t 38), none⟩,
           ⟨(some 40), .len false (.t 39), none⟩,
           ⟨(some 41), .bin .gtr .no (.t 40) (.c (.int .i64 2000)), none⟩])
        (.cond (.t 41)
         (.seq (.ops [⟨(some 42), .mov (.t 5), none⟩,
             ⟨(some 4), .mov (.t 42), none⟩])
          (.ret))
         (.skip)))
       (.seq (.ops [⟨(some 44), .mov (.t 0), none⟩,
          ⟨(some 45), .mov (.t 7), none⟩,
          ⟨(some 46), .idxAddrS 1 (.t 44) (.t 45), none⟩,
          ⟨(some 47), .load none (.t 46), none⟩,
          ⟨(some 48), .call k_ops_Push [(.t 47)], none⟩,
          ⟨(some 43), .mov (.t 48), none⟩,
          ⟨(some 49), .ext (.t 43) 0, none⟩,
          ⟨(some 50), .ext (.t 43) 1, none⟩,
          ⟨(some 8), .alloc [(.int .u8 0), (.slice none 0 (some 0) 0)], none⟩,
          ⟨none, .store 2 (.t 8) (.t 49), none⟩,
          ⟨(some 9), .mov (.t 50), none⟩])
       (.seq (.ops [⟨(some 52), .load (some 2) (.t 8), none⟩,
          ⟨(some 53), .call k_ops_Value [(.t 52)], none⟩,
          ⟨(some 51), .mov (.t 53), none⟩,
          ⟨(some 54), .ext (.t 51) 0, none⟩,
          ⟨(some 55), .ext (.t 51) 1, none⟩,
          ⟨(some 10), .mov (.t 54), none⟩,
          ⟨(some 11), .mov (.t 55), none⟩])
       (.seq (.seq (.dops 0 [] [(⟨(some 56), .mov (.t 9), none⟩, .L),
           (⟨(some 57), .bin .neq .no (.t 56) (.c (.int .i64 0)), none⟩, .L),
           (⟨(some 58), .mov (.t 57), none⟩, .L),
           (⟨(some 59), .mov (.t 11), (some (58, false))⟩, .L),
           (⟨(some 60), .un .not (.t 59), (some (58, false))⟩, .L),
           (⟨(some 61), .pick (.t 58) (.c (.bool true)) (.t 60), none⟩, .L),
           (⟨(some 62), .mov (.t 61), none⟩, .L),
           (⟨(some 63), .mov (.t 10), (some (62, false))⟩, .L),
           (⟨(some 64), .b2s (.t 63), (some (62, false))⟩, .R [] []),
           (⟨(some 65), .mov (.t 0), (some (62, false))⟩, .L),
           (⟨(some 66), .mov (.t 7), (some (62, false))⟩, .L),
           (⟨(some 67), .idxAddrS 1 (.t 65) (.t 66), (some (62, false))⟩, .L),
           (⟨(some 68), .load none (.t 67), (some (62, false))⟩, .R [] []),
           (⟨(some 69), .b2s (.t 68), (some (62, false))⟩, .R [] []),
           (⟨(some 70), .bin .neq .no (.t 64) (.t 69), (some (62, false))⟩, .L),
           (⟨(some 71), .pick (.t 62) (.c (.bool true)) (.t 70), none⟩, .L)])
        (.cond (.t 71)
         (.seq (.ops [⟨(some 4), .mov (.c (.bool false)), none⟩])
          (.ret))
         (.skip)))
       (.seq (.ops [⟨(some 73), .load (some 2) (.t 8), none⟩,
          ⟨(some 74), .buildS [(.int .u8 0), (.slice none 0 (some 0) 0)] 1 2 [(0, 2, (.t 73))], none⟩,
          ⟨(some 75), .call k_ops_Join [(.t 74)], none⟩,
          ⟨(some 72), .mov (.t 75), none⟩,
          ⟨(some 76), .ext (.t 72) 0, none⟩,
          ⟨(some 77), .ext (.t 72) 1, none⟩,
          ⟨(some 12), .mov (.t 76), none⟩,
          ⟨(some 13), .mov (.t 77), none⟩])
       (.seq (.seq (.ops [⟨(some 78), .buildS [(.int .u8 0), (.int .u8 0)] 2 1 [(0, 1, (.c (.int .u8 76))), (1, 1, (.c (.int .u8 77)))], none⟩,
           ⟨(some 79), .len false (.t 78), none⟩,
           ⟨(some 80), .mov (.c (.int .i64 0)), none⟩])
        (.block 2 (.loop (L_purserlaw10_OpsPushed_0))))
       (R_purserlaw10_OpsPushed_0)))))))))
     (R_purserlaw10_OpsPushed_1)))
def R_purserlaw10_OpsPushed_2 : C := .seq (.ops [⟨(some 115), .mov (.t 6), none⟩,
     ⟨(some 116), .call k_ops_Join [(.t 115)], none⟩,
     ⟨(some 114), .mov (.t 116), none⟩,
     ⟨(some 117), .ext (.t 114) 0, none⟩,
     ⟨(some 118), .ext (.t 114) 1, none⟩,
     ⟨(some 18), .mov (.t 117), none⟩,
     ⟨(some 19), .mov (.t 118), none⟩])
  (.seq (.ops [⟨(some 120), .mov (.t 1), none⟩,
     ⟨(some 121), .build [(.int .u8 0), (.slice none 0 (some 0) 0)] [(0, 1, (.t 120))], none⟩,
     ⟨(some 122), .call k_ops_Value [(.t 121)], none⟩,
     ⟨(some 119), .mov (.t 122), none⟩,
     ⟨(some 123), .ext (.t 119) 0, none⟩,
     ⟨(some 124), .ext (.t 119) 1, none⟩,
     ⟨(some 20), .mov (.t 123), none⟩,
     ⟨(some 21), .mov (.t 124), none⟩])
  (.seq (.ops [⟨(some 125), .mov (.t 5), none⟩,
     ⟨(some 126), .mov (.t 125), none⟩,
     ⟨(some 127), .mov (.t 19), (some (126, true))⟩,
     ⟨(some 128), .bin .eql .no (.t 127) (.c (.int .i64 0)), (some (126, true))⟩,
     ⟨(some 129), .pick (.t 126) (.t 128) (.c (.bool false)), none⟩,
     ⟨(some 130), .mov (.t 129), none⟩,
     ⟨(some 131), .mov (.t 18), (some (130, true))⟩,
     ⟨(some 132), .call k_ops_Pushes [(.t 131)], (some (130, true))⟩,
     ⟨(some 133), .pick (.t 130) (.t 132) (.c (.bool false)), none⟩,
     ⟨(some 134), .mov (.t 133), none⟩,
     ⟨(some 135), .mov (.t 1), (some (134, true))⟩,
     ⟨(some 136), .bin .geq .no (.t 135) (.c (.int .u8 1)), (some (134, true))⟩,
     ⟨(some 137), .mov (.t 136), (some (134, true))⟩,
     ⟨(some 138), .mov (.t 1), (some (137, true))⟩,
     ⟨(some 139), .bin .leq .no (.t 138) (.c (.int .u8 77)), (some (137, true))⟩,
     ⟨(some 140), .pick (.t 137) (.t 139) (.c (.bool false)), (some (134, true))⟩,
     ⟨(some 141), .mov (.t 140), (some (134, true))⟩,
     ⟨(some 142), .mov (.t 18), (some (141, false))⟩,
     ⟨(some 143), .mov (.t 1), (some (141, false))⟩,
     ⟨(some 144), .buildS [(.int .u8 0)] 1 1 [(0, 1, (.t 143))], (some (141, false))⟩,
     ⟨(some 145), .append 1 1 (.t 142) (.t 144), (some (141, false))⟩,
     ⟨(some 146), .call k_ops_Pushes [(.t 145)], (some (141, false))⟩,
     ⟨(some 147), .mov (.t 21), (some (141, false))⟩,
     ⟨(some 148), .bin .eql .bool (.t 146) (.t 147), (some (141, false))⟩,
     ⟨(some 149), .pick (.t 141) (.c (.bool true)) (.t 148), (some (134, true))⟩,
     ⟨(some 150), .pick (.t 134) (.t 149) (.c (.bool false)), none⟩,
     ⟨(some 4), .mov (.t 150), none⟩])
  (.ret)))
/-- purser/purserlaw10.OpsPushed -/
def f_purserlaw10_OpsPushed : Fn := ⟨151, [.tmp 4],
  .seq (.ops [⟨(some 4), .mov (.c (.bool false)), none⟩])
  (.seq (.ops [⟨(some 22), .call k_purserlaw10_alive [], none⟩,
     ⟨(some 5), .mov (.t 22), none⟩])
  (.seq (.seq (.ops [⟨(some 23), .mov (.t 0), none⟩,
      ⟨(some 24), .len false (.t 23), none⟩,
      ⟨(some 25), .bin .gtr .no (.t 24) (.c (.int .i64 3)), none⟩,
      ⟨(some 26), .mov (.t 25), none⟩,
      ⟨(some 27), .mov (.t 5), (some (26, false))⟩,
      ⟨(some 28), .un .not (.t 27), (some (26, false))⟩,
      ⟨(some 29), .pick (.t 26) (.c (.bool true)) (.t 28), none⟩])
   (.cond (.t 29)
    (.seq (.ops [⟨(some 30), .mov (.t 5), none⟩,
        ⟨(some 4), .mov (.t 30), none⟩])
     (.ret))
    (.skip)))
  (.seq (.ops [⟨(some 6), .mov (.c (.slice none 0 (some 0) 0)), none⟩])
  (.seq (.seq (.ops [⟨(some 31), .mov (.t 0), none⟩,
      ⟨(some 32), .len false (.t 31), none⟩,
      ⟨(some 33), .mov (.c (.int .i64 0)), none⟩])
   (.block 0 (.loop (L_purserlaw10_OpsPushed_1))))
  (R_purserlaw10_OpsPushed_2)))))⟩
def A_ops_Split_0 : C := .seq (.ops [⟨(some 6), .mov (.t 10), none⟩])
     (.ops [⟨(some 7), .alloc [(.int .u8 0), (.slice none 0 (some 0) 0)], none⟩,
       ⟨none, .store 2 (.t 7) (.t 11), none⟩])
theorem u_A_ops_Split_0 (Q : Orc) (N n : Nat) (r : Option Nat) (st : St) : evC Q N n r A_ops_Split_0 st = evC Q N n r (.seq (.ops [⟨(some 6), .mov (.t 10), none⟩])
     (.ops [⟨(some 7), .alloc [(.int .u8 0), (.slice none 0 (some 0) 0)], none⟩,
       ⟨none, .store 2 (.t 7) (.t 11), none⟩])) st := _root_.id rfl
def B_ops_Split_0 : C := .block 1 (.seq (.ops [⟨(some 12), .load none (.t 4), none⟩,
         ⟨(some 13), .load (some 2) (.t 7), none⟩,
         ⟨(some 14), .buildS [(.int .u8 0), (.slice none 0 (some 0) 0)] 1 2 [(0, 2, (.t 13))], none⟩,
         ⟨(some 15), .append 2 32 (.t 12) (.t 14), none⟩,
         ⟨none, .store 1 (.t 4) (.t 15), none⟩])
      (.ops [⟨(some 16), .mov (.t 6), none⟩,
        ⟨none, .store 1 (.t 5) (.t 16), none⟩]))
theorem u_B_ops_Split_0 (Q : Orc) (N n : Nat) (r : Option Nat) (st : St) : evC Q N n r B_ops_Split_0 st = evC Q N n r (.block 1 (.seq (.ops [⟨(some 12), .load none (.t 4), none⟩,
         ⟨(some 13), .load (some 2) (.t 7), none⟩,
         ⟨(some 14), .buildS [(.int .u8 0), (.slice none 0 (some 0) 0)] 1 2 [(0, 2, (.t 13))], none⟩,
         ⟨(some 15), .append 2 32 (.t 12) (.t 14), none⟩,
         ⟨none, .store 1 (.t 4) (.t 15), none⟩])
      (.ops [⟨(some 16), .mov (.t 6), none⟩,
        ⟨none, .store 1 (.t 5) (.t 16), none⟩]))) st := _root_.id rfl
def R_ops_Split_0 : C := .seq (.seq (.ops [⟨(some 17), .load none (.t 5), none⟩,
      ⟨(some 18), .mov (.t 0), none⟩,
      ⟨(some 19), .len false (.t 18), none⟩,
      ⟨(some 20), .bin .lss .no (.t 17) (.t 19), none⟩])
   (.cond (.t 20)
    (.seq (.ops [⟨(some 2), .mov (.c (.slice none 0 (some 0) 0)), none⟩,
        ⟨(some 3), .mov (.c (.int .i64 100)), none⟩])
     (.ret))
    (.skip)))
  (.seq (.ops [⟨(some 21), .load none (.t 4), none⟩,
     ⟨(some 2), .mov (.t 21), none⟩,
     ⟨(some 3), .mov (.c (.int .i64 0)), none⟩])
  (.ret))
/-- purser/ops.Split -/
def f_ops_Split : Fn := ⟨22, [.tmp 2, .tmp 3],
  .seq (.ops [⟨(some 2), .mov (.c (.slice none 0 (some 0) 0)), none⟩,
     ⟨(some 3), .mov (.c (.int .i64 0)), none⟩])
  (.seq (.ops [⟨(some 4), .alloc [(.slice none 0 (some 0) 0)], none⟩])
  (.seq (.ops [⟨(some 5), .alloc [(.int .i64 0)], none⟩,
     ⟨none, .store 1 (.t 5) (.c (.int .i64 0)), none⟩])
  (.seq (.seq (.ops [⟨(some 8), .mov (.t 0), none⟩,
      ⟨(some 9), .call k_ops_operations [(.t 8)], none⟩])
   (.block 0 (.rangeF (.t 9) [10, 11] (A_ops_Split_0)
    (B_ops_Split_0))))
  (R_ops_Split_0))))⟩
def L_purserref10_Split_0 : C := .seq (.seq (.ops [⟨(some 8), .mov (.t 5), none⟩,
         ⟨(some 9), .mov (.t 0), none⟩,
         ⟨(some 10), .len false (.t 9), none⟩,
         ⟨(some 11), .bin .lss .no (.t 8) (.t 10), none⟩])
      (.cond (.t 11)
       (.skip)
       (.exit 0)))
     (.block 1 (.seq (.ops [⟨(some 6), .mov (.c (.int .i64 0)), none⟩])
      (.seq (.ops [⟨(some 12), .mov (.t 5), none⟩,
         ⟨(some 13), .bin .add .no (.t 12) (.c (.int .i64 1)), none⟩,
         ⟨(some 7), .mov (.t 13), none⟩])
      (.seq (.seq (.ops [⟨(some 14), .mov (.t 0), none⟩,
          ⟨(some 15), .mov (.t 5), none⟩,
          ⟨(some 16), .idxAddrS 1 (.t 14) (.t 15), none⟩,
          ⟨(some 17), .load none (.t 16), none⟩,
          ⟨(some 18), .bin .geq .no (.t 17) (.c (.int .u8 1)), none⟩,
          ⟨(some 19), .mov (.t 18), none⟩,
          ⟨(some 20), .mov (.t 0), (some (19, true))⟩,
          ⟨(some 21), .mov (.t 5), (some (19, true))⟩,
          ⟨(some 22), .idxAddrS 1 (.t 20) (.t 21), (some (19, true))⟩,
          ⟨(some 23), .load none (.t 22), (some (19, true))⟩,
          ⟨(some 24), .bin .leq .no (.t 23) (.c (.int .u8 75)), (some (19, true))⟩,
          ⟨(some 25), .pick (.t 19) (.t 24) (.c (.bool false)), none⟩])
       (.cond (.t 25)
        (.ops [⟨(some 26), .mov (.t 0), none⟩,
           ⟨(some 27), .mov (.t 5), none⟩,
           ⟨(some 28), .idxAddrS 1 (.t 26) (.t 27), none⟩,
           ⟨(some 29), .load none (.t 28), none⟩,
           ⟨(some 30), .conv .i64 (.t 29), none⟩,
           ⟨(some 6), .mov (.t 30), none⟩])
        (.skip)))
      (.seq (.seq (.ops [⟨(some 31), .mov (.t 0), none⟩,
          ⟨(some 32), .mov (.t 5), none⟩,
          ⟨(some 33), .idxAddrS 1 (.t 31) (.t 32), none⟩,
          ⟨(some 34), .load none (.t 33), none⟩,
          ⟨(some 35), .bin .eql .no (.t 34) (.c (.int .u8 76)), none⟩])
       (.cond (.t 35)
        (.seq (.seq (.ops [⟨(some 36), .mov (.t 7), none⟩,
             ⟨(some 37), .mov (.t 0), none⟩,
             ⟨(some 38), .len false (.t 37), none⟩,
             ⟨(some 39), .bin .geq .no (.t 36) (.t 38), none⟩])
          (.cond (.t 39)
           (.seq (.ops [⟨(some 2), .mov (.c (.slice none 0 (some 0) 0)), none⟩,
               ⟨(some 3), .mov (.c (.int .i64 100)), none⟩])
            (.ret))
           (.skip)))
         (.seq (.ops [⟨(some 40), .mov (.t 0), none⟩,
            ⟨(some 41), .mov (.t 7), none⟩,
            ⟨(some 42), .idxAddrS 1 (.t 40) (.t 41), none⟩,
            ⟨(some 43), .load none (.t 42), none⟩,
            ⟨(some 44), .conv .i64 (.t 43), none⟩,
            ⟨(some 6), .mov (.t 44), none⟩])
         (.ops [⟨(some 45), .mov (.t 7), none⟩,
           ⟨(some 46), .bin .add .no (.t 45) (.c (.int .i64 1)), none⟩,
           ⟨(some 7), .mov (.t 46), none⟩])))
        (.skip)))
      (.seq (.seq (.ops [⟨(some 47), .mov (.t 0), none⟩,
          ⟨(some 48), .mov (.t 5), none⟩,
          ⟨(some 49), .idxAddrS 1 (.t 47) (.t 48), none⟩,
          ⟨(some 50), .load none (.t 49), none⟩,
          ⟨(some 51), .bin .eql .no (.t 50) (.c (.int .u8 77)), none⟩])
       (.cond (.t 51)
        (.seq (.seq (.ops [⟨(some 52), .mov (.t 7), none⟩,
             ⟨(some 53), .bin .add .no (.t 52) (.c (.int .i64 1)), none⟩,
             ⟨(some 54), .mov (.t 0), none⟩,
             ⟨(some 55), .len false (.t 54), none⟩,
             ⟨(some 56), .bin .geq .no (.t 53) (.t 55), none⟩])
          (.cond (.t 56)
           (.seq (.ops [⟨(some 2), .mov (.c (.slice none 0 (some 0) 0)), none⟩,
               ⟨(some 3), .mov (.c (.int .i64 100)), none⟩])
            (.ret))
           (.skip)))
         (.seq (.dops 0 [] [(⟨(some 57), .mov (.t 0), none⟩, .L),
            (⟨(some 58), .mov (.t 7), none⟩, .L),
            (⟨(some 59), .idxAddrS 1 (.t 57) (.t 58), none⟩, .L),
            (⟨(some 60), .load none (.t 59), none⟩, .R [] []),
            (⟨(some 61), .conv .i64 (.t 60), none⟩, .L),
            (⟨(some 62), .mov (.t 0), none⟩, .L),
            (⟨(some 63), .mov (.t 7), none⟩, .L),
            (⟨(some 64), .bin .add .no (.t 63) (.c (.int .i64 1)), none⟩, .L),
            (⟨(some 65), .idxAddrS 1 (.t 62) (.t 64), none⟩, .L),
            (⟨(some 66), .load none (.t 65), none⟩, .R [] []),
            (⟨(some 67), .conv .i64 (.t 66), none⟩, .L),
            (⟨(some 68), .bin .mul .no (.c (.int .i64 256)) (.t 67), none⟩, .L),
            (⟨(some 69), .bin .add .no (.t 61) (.t 68), none⟩, .L),
            (⟨(some 6), .mov (.t 69), none⟩, .L)])
         (.ops [⟨(some 70), .mov (.t 7), none⟩,
           ⟨(some 71), .bin .add .no (.t 70) (.c (.int .i64 2)), none⟩,
           ⟨(some 7), .mov (.t 71), none⟩])))
        (.skip)))
      (.seq (.seq (.ops [⟨(some 72), .mov (.t 7), none⟩,
          ⟨(some 73), .mov (.t 6), none⟩,
          ⟨(some 74), .bin .add .no (.t 72) (.t 73), none⟩,
          ⟨(some 75), .mov (.t 0), none⟩,
          ⟨(some 76), .len false (.t 75), none⟩,
          ⟨(some 77), .bin .gtr .no (.t 74) (.t 76), none⟩])
       (.cond (.t 77)
        (.seq (.ops [⟨(some 2), .mov (.c (.slice none 0 (some 0) 0)), none⟩,
            ⟨(some 3), .mov (.c (.int .i64 100)), none⟩])
         (.ret))
        (.skip)))
      (.seq (.dops 1 [] [(⟨(some 78), .mov (.t 4), none⟩, .L),
         (⟨(some 79), .mov (.t 0), none⟩, .L),
         (⟨(some 80), .mov (.t 5), none⟩, .L),
         (⟨(some 81), .idxAddrS 1 (.t 79) (.t 80), none⟩, .L),
         (⟨(some 82), .load none (.t 81), none⟩, .R [] [(1, [])]),
         (⟨(some 83), .mov (.t 0), none⟩, .L),
         (⟨(some 84), .mov (.t 7), none⟩, .L),
         (⟨(some 85), .mov (.t 7), none⟩, .L),
         (⟨(some 86), .mov (.t 6), none⟩, .L),
         (⟨(some 87), .bin .add .no (.t 85) (.t 86), none⟩, .L),
         (⟨(some 88), .slcS 1 (.t 83) (some (.t 84)) (some (.t 87)) none, none⟩, .L),
         (⟨(some 89), .call k_purserref01_Twin [(.t 88)], none⟩, .B []),
         (⟨(some 90), .build [(.int .u8 0), (.slice none 0 (some 0) 0)] [(0, 1, (.t 82)), (1, 1, (.t 89))], none⟩, .L),
         (⟨(some 91), .buildS [(.int .u8 0), (.slice none 0 (some 0) 0)] 1 2 [(0, 2, (.t 90))], none⟩, .Al 0),
         (⟨(some 92), .append 2 32 (.t 78) (.t 91), none⟩, .B [0]),
         (⟨(some 4), .mov (.t 92), none⟩, .L)])
      (.ops [⟨(some 93), .mov (.t 7), none⟩,
        ⟨(some 94), .mov (.t 6), none⟩,
        ⟨(some 95), .bin .add .no (.t 93) (.t 94), none⟩,
        ⟨(some 5), .mov (.t 95), none⟩])))))))))
def R_purserref10_Split_0 : C := .seq (.ops [⟨(some 96), .mov (.t 4), none⟩,
     ⟨(some 2), .mov (.t 96), none⟩,
     ⟨(some 3), .mov (.c (.int .i64 0)), none⟩])
  (.ret)
/-- purser/purserref10.Split -/
def f_purserref10_Split : Fn := ⟨97, [.tmp 2, .tmp 3],
  .seq (.ops [⟨(some 2), .mov (.c (.slice none 0 (some 0) 0)), none⟩,
     ⟨(some 3), .mov (.c (.int .i64 0)), none⟩])
  (.seq (.ops [⟨(some 4), .mov (.c (.slice none 0 (some 0) 0)), none⟩])
  (.seq (.seq (.ops [⟨(some 5), .mov (.c (.int .i64 0)), none⟩])
   (.block 0 (.loop (L_purserref10_Split_0))))
  (R_purserref10_Split_0)))⟩
def L_purserref10_Same_0 : C := .seq (.seq (.ops [⟨(some 11), .mov (.t 5), none⟩,
         ⟨(some 12), .mov (.t 0), none⟩,
         ⟨(some 13), .len false (.t 12), none⟩,
         ⟨(some 14), .bin .lss .no (.t 11) (.t 13), none⟩])
      (.cond (.t 14)
       (.skip)
       (.exit 0)))
     (.seq (.block 1 (.seq (.dops 0 [] [(⟨(some 17), .mov (.t 0), none⟩, .L),
          (⟨(some 18), .mov (.t 5), none⟩, .L),
          (⟨(some 19), .idxAddrS 2 (.t 17) (.t 18), none⟩, .L),
          (⟨(some 20), .fieldAddr 0 (.t 19), none⟩, .L),
          (⟨(some 21), .load none (.t 20), none⟩, .R [] []),
          (⟨(some 22), .mov (.t 1), none⟩, .L),
          (⟨(some 23), .mov (.t 5), none⟩, .L),
          (⟨(some 24), .idxAddrS 2 (.t 22) (.t 23), none⟩, .L),
          (⟨(some 25), .fieldAddr 0 (.t 24), none⟩, .L),
          (⟨(some 26), .load none (.t 25), none⟩, .R [] []),
          (⟨(some 27), .bin .neq .no (.t 21) (.t 26), none⟩, .L),
          (⟨(some 28), .mov (.t 27), none⟩, .L),
          (⟨(some 29), .mov (.t 0), (some (28, false))⟩, .L),
          (⟨(some 30), .mov (.t 5), (some (28, false))⟩, .L),
          (⟨(some 31), .idxAddrS 2 (.t 29) (.t 30), (some (28, false))⟩, .L),
          (⟨(some 32), .fieldAddr 1 (.t 31), (some (28, false))⟩, .L),
          (⟨(some 33), .load none (.t 32), (some (28, false))⟩, .R [] []),
          (⟨(some 34), .b2s (.t 33), (some (28, false))⟩, .R [] []),
          (⟨(some 35), .mov (.t 1), (some (28, false))⟩, .L),
          (⟨(some 36), .mov (.t 5), (some (28, false))⟩, .L),
          (⟨(some 37), .idxAddrS 2 (.t 35) (.t 36), (some (28, false))⟩, .L),
          (⟨(some 38), .fieldAddr 1 (.t 37), (some (28, false))⟩, .L),
          (⟨(some 39), .load none (.t 38), (some (28, false))⟩, .R [] []),
          (⟨(some 40), .b2s (.t 39), (some (28, false))⟩, .R [] []),
          (⟨(some 41), .bin .neq .no (.t 34) (.t 40), (some (28, false))⟩, .L),
          (⟨(some 42), .pick (.t 28) (.c (.bool true)) (.t 41), none⟩, .L)])
       (.cond (.t 42)
        (.seq (.ops [⟨(some 4), .mov (.c (.bool false)), none⟩])
         (.ret))
        (.skip))))
     (.ops [⟨(some 15), .mov (.t 5), none⟩,
       ⟨(some 16), .bin .add .no (.t 15) (.c (.int .i64 1)), none⟩,
       ⟨(some 5), .mov (.t 16), none⟩]))
def R_purserref10_Same_0 : C := .seq (.ops [⟨(some 4), .mov (.c (.bool true)), none⟩])
  (.ret)
/-- purser/purserref10.Same -/
def f_purserref10_Same : Fn := ⟨43, [.tmp 4],
  .seq (.ops [⟨(some 4), .mov (.c (.bool false)), none⟩])
  (.seq (.seq (.ops [⟨(some 6), .mov (.t 0), none⟩,
      ⟨(some 7), .len false (.t 6), none⟩,
      ⟨(some 8), .mov (.t 1), none⟩,
      ⟨(some 9), .len false (.t 8), none⟩,
      ⟨(some 10), .bin .neq .no (.t 7) (.t 9), none⟩])
   (.cond (.t 10)
    (.seq (.ops [⟨(some 4), .mov (.c (.bool false)), none⟩])
     (.ret))
    (.skip)))
  (.seq (.seq (.ops [⟨(some 5), .mov (.c (.int .i64 0)), none⟩])
   (.block 0 (.loop (L_purserref10_Same_0))))
  (R_purserref10_Same_0)))⟩
def A_ops_Pushes_0 : C := .seq (.ops [⟨(some 4), .mov (.t 10), none⟩])
      (.ops [⟨(some 5), .alloc [(.int .u8 0), (.slice none 0 (some 0) 0)], none⟩,
        ⟨none, .store 2 (.t 5) (.t 11), none⟩])
theorem u_A_ops_Pushes_0 (Q : Orc) (N n : Nat) (r : Option Nat) (st : St) : evC Q N n r A_ops_Pushes_0 st = evC Q N n r (.seq (.ops [⟨(some 4), .mov (.t 10), none⟩])
      (.ops [⟨(some 5), .alloc [(.int .u8 0), (.slice none 0 (some 0) 0)], none⟩,
        ⟨none, .store 2 (.t 5) (.t 11), none⟩])) st := _root_.id rfl
def B_ops_Pushes_0 : C := .block 1 (.seq (.seq (.ops [⟨(some 13), .load (some 2) (.t 5), none⟩,
           ⟨(some 14), .call k_ops_Value [(.t 13)], none⟩,
           ⟨(some 12), .mov (.t 14), none⟩,
           ⟨(some 15), .ext (.t 12) 0, none⟩,
           ⟨(some 16), .ext (.t 12) 1, none⟩,
           ⟨(some 6), .mov (.t 15), none⟩,
           ⟨(some 7), .mov (.t 16), none⟩])
        (.seq (.ops [⟨(some 17), .mov (.t 7), none⟩,
           ⟨(some 18), .un .not (.t 17), none⟩])
        (.cond (.t 18)
         (.exit 0)
         (.skip))))
       (.ops [⟨(some 19), .mov (.t 4), none⟩,
         ⟨none, .store 1 (.t 3) (.t 19), none⟩]))
theorem u_B_ops_Pushes_0 (Q : Orc) (N n : Nat) (r : Option Nat) (st : St) : evC Q N n r B_ops_Pushes_0 st = evC Q N n r (.block 1 (.seq (.seq (.ops [⟨(some 13), .load (some 2) (.t 5), none⟩,
           ⟨(some 14), .call k_ops_Value [(.t 13)], none⟩,
           ⟨(some 12), .mov (.t 14), none⟩,
           ⟨(some 15), .ext (.t 12) 0, none⟩,
           ⟨(some 16), .ext (.t 12) 1, none⟩,
           ⟨(some 6), .mov (.t 15), none⟩,
           ⟨(some 7), .mov (.t 16), none⟩])
        (.seq (.ops [⟨(some 17), .mov (.t 7), none⟩,
           ⟨(some 18), .un .not (.t 17), none⟩])
        (.cond (.t 18)
         (.exit 0)
         (.skip))))
       (.ops [⟨(some 19), .mov (.t 4), none⟩,
         ⟨none, .store 1 (.t 3) (.t 19), none⟩]))) st := _root_.id rfl
def R_ops_Pushes_0 : C := .seq (.ops [⟨(some 20), .load none (.t 3), none⟩,
      ⟨(some 21), .mov (.t 0), none⟩,
      ⟨(some 22), .len false (.t 21), none⟩,
      ⟨(some 23), .bin .eql .no (.t 20) (.t 22), none⟩,
      ⟨(some 2), .mov (.t 23), none⟩])
   (.ret)
/-- purser/ops.Pushes -/
def f_ops_Pushes : Fn := ⟨24, [.tmp 2],
  .seq (.ops [⟨(some 2), .mov (.c (.bool false)), none⟩])
  (.scope (.seq (.ops [⟨(some 3), .alloc [(.int .i64 0)], none⟩,
      ⟨none, .store 1 (.t 3) (.c (.int .i64 0)), none⟩])
   (.seq (.skip)
   (.seq (.seq (.ops [⟨(some 8), .mov (.t 0), none⟩,
       ⟨(some 9), .call k_ops_operations [(.t 8)], none⟩])
    (.block 0 (.rangeF (.t 9) [10, 11] (A_ops_Pushes_0)
     (B_ops_Pushes_0))))
   (R_ops_Pushes_0)))))⟩
def L_purserref10_Pushes_0 : C := .seq (.seq (.ops [⟨(some 15), .mov (.t 5), none⟩,
         ⟨(some 16), .mov (.t 3), none⟩,
         ⟨(some 17), .len false (.t 16), none⟩,
         ⟨(some 18), .bin .lss .no (.t 15) (.t 17), none⟩])
      (.cond (.t 18)
       (.skip)
       (.exit 0)))
     (.seq (.block 1 (.seq (.ops [⟨(some 22), .mov (.t 3), none⟩,
          ⟨(some 23), .mov (.t 5), none⟩,
          ⟨(some 24), .idxAddrS 2 (.t 22) (.t 23), none⟩,
          ⟨(some 25), .load (some 2) (.t 24), none⟩,
          ⟨(some 26), .call k_purserref10_Value [(.t 25)], none⟩,
          ⟨(some 21), .mov (.t 26), none⟩,
          ⟨(some 27), .ext (.t 21) 0, none⟩,
          ⟨(some 28), .ext (.t 21) 1, none⟩,
          ⟨(some 6), .mov (.t 27), none⟩,
          ⟨(some 7), .mov (.t 28), none⟩])
       (.seq (.ops [⟨(some 29), .mov (.t 7), none⟩,
          ⟨(some 30), .un .not (.t 29), none⟩])
       (.cond (.t 30)
        (.seq (.ops [⟨(some 2), .mov (.c (.bool false)), none⟩])
         (.ret))
        (.skip)))))
     (.ops [⟨(some 19), .mov (.t 5), none⟩,
       ⟨(some 20), .bin .add .no (.t 19) (.c (.int .i64 1)), none⟩,
       ⟨(some 5), .mov (.t 20), none⟩]))
def R_purserref10_Pushes_0 : C := .seq (.ops [⟨(some 2), .mov (.c (.bool true)), none⟩])
  (.ret)
/-- purser/purserref10.Pushes -/
def f_purserref10_Pushes : Fn := ⟨31, [.tmp 2],
  .seq (.ops [⟨(some 2), .mov (.c (.bool false)), none⟩])
  (.seq (.ops [⟨(some 9), .mov (.t 0), none⟩,
     ⟨(some 10), .call k_purserref10_Split [(.t 9)], none⟩,
     ⟨(some 8), .mov (.t 10), none⟩,
     ⟨(some 11), .ext (.t 8) 0, none⟩,
     ⟨(some 12), .ext (.t 8) 1, none⟩,
     ⟨(some 3), .mov (.t 11), none⟩,
     ⟨(some 4), .mov (.t 12), none⟩])
  (.seq (.seq (.ops [⟨(some 13), .mov (.t 4), none⟩,
      ⟨(some 14), .bin .neq .no (.t 13) (.c (.int .i64 0)), none⟩])
   (.cond (.t 14)
    (.seq (.ops [⟨(some 2), .mov (.c (.bool false)), none⟩])
     (.ret))
    (.skip)))
  (.seq (.seq (.ops [⟨(some 5), .mov (.c (.int .i64 0)), none⟩])
   (.block 0 (.loop (L_purserref10_Pushes_0))))
  (R_purserref10_Pushes_0))))⟩
/-- purser/ops.Burnt -/
def f_ops_Burnt : Fn := ⟨17, [.tmp 2],
  .seq (.ops [⟨(some 2), .mov (.c (.bool false)), none⟩])
  (.seq (.ops [⟨(some 3), .mov (.t 0), none⟩,
     ⟨(some 4), .len false (.t 3), none⟩,
     ⟨(some 5), .bin .gtr .no (.t 4) (.c (.int .i64 520)), none⟩,
     ⟨(some 6), .mov (.t 5), none⟩,
     ⟨(some 7), .mov (.t 0), (some (6, false))⟩,
     ⟨(some 8), .len false (.t 7), (some (6, false))⟩,
     ⟨(some 9), .bin .gtr .no (.t 8) (.c (.int .i64 0)), (some (6, false))⟩,
     ⟨(some 10), .mov (.t 9), (some (6, false))⟩,
     ⟨(some 11), .mov (.t 0), (some (10, true))⟩,
     ⟨(some 12), .idxAddrS 1 (.t 11) (.c (.int .i64 0)), (some (10, true))⟩,
     ⟨(some 13), .load none (.t 12), (some (10, true))⟩,
     ⟨(some 14), .bin .eql .no (.t 13) (.c (.int .u8 106)), (some (10, true))⟩,
     ⟨(some 15), .pick (.t 10) (.t 14) (.c (.bool false)), (some (6, false))⟩,
     ⟨(some 16), .pick (.t 6) (.c (.bool true)) (.t 15), none⟩,
     ⟨(some 2), .mov (.t 16), none⟩])
  (.ret))⟩
/-- purser/purserref10.Burnt -/
def f_purserref10_Burnt : Fn := ⟨15, [.tmp 2],
  .seq (.ops [⟨(some 2), .mov (.c (.bool false)), none⟩])
  (.seq (.seq (.ops [⟨(some 3), .mov (.t 0), none⟩,
      ⟨(some 4), .len false (.t 3), none⟩,
      ⟨(some 5), .bin .gtr .no (.t 4) (.c (.int .i64 520)), none⟩])
   (.cond (.t 5)
    (.seq (.ops [⟨(some 2), .mov (.c (.bool true)), none⟩])
     (.ret))
    (.skip)))
  (.seq (.ops [⟨(some 6), .mov (.t 0), none⟩,
     ⟨(some 7), .len false (.t 6), none⟩,
     ⟨(some 8), .bin .gtr .no (.t 7) (.c (.int .i64 0)), none⟩,
     ⟨(some 9), .mov (.t 8), none⟩,
     ⟨(some 10), .mov (.t 0), (some (9, true))⟩,
     ⟨(some 11), .idxAddrS 1 (.t 10) (.c (.int .i64 0)), (some (9, true))⟩,
     ⟨(some 12), .load none (.t 11), (some (9, true))⟩,
     ⟨(some 13), .bin .eql .no (.t 12) (.c (.int .u8 106)), (some (9, true))⟩,
     ⟨(some 14), .pick (.t 9) (.t 13) (.c (.bool false)), none⟩,
     ⟨(some 2), .mov (.t 14), none⟩])
  (.ret)))⟩
def L_purserlaw10_great_0 : C := .seq (.ops [⟨(some 8), .bin .lss .no (.t 7) (.t 6), none⟩])
     (.seq (.cond (.t 8)
       (.skip)
       (.exit 0))
     (.seq (.block 1 (.seq (.ops [⟨(some 9), .mov (.t 7), none⟩,
          ⟨(some 4), .mov (.t 9), none⟩])
       (.ops [⟨(some 10), .mov (.t 3), none⟩,
         ⟨(some 11), .mov (.t 0), none⟩,
         ⟨(some 12), .mov (.t 4), none⟩,
         ⟨(some 13), .idxAddrS 2 (.t 11) (.t 12), none⟩,
         ⟨(some 14), .fieldAddr 1 (.t 13), none⟩,
         ⟨(some 15), .load none (.t 14), none⟩,
         ⟨(some 16), .len false (.t 15), none⟩,
         ⟨(some 17), .bin .add .no (.t 10) (.t 16), none⟩,
         ⟨(some 3), .mov (.t 17), none⟩])))
     (.ops [⟨(some 18), .bin .add .no (.t 7) (.c (.int .i64 1)), none⟩,
       ⟨(some 7), .mov (.t 18), none⟩])))
def R_purserlaw10_great_0 : C := .seq (.ops [⟨(some 19), .mov (.t 0), none⟩,
     ⟨(some 20), .len false (.t 19), none⟩,
     ⟨(some 21), .bin .gtr .no (.t 20) (.c (.int .i64 100)), none⟩,
     ⟨(some 22), .mov (.t 21), none⟩,
     ⟨(some 23), .mov (.t 3), (some (22, false))⟩,
     ⟨(some 24), .bin .gtr .no (.t 23) (.c (.int .i64 70000)), (some (22, false))⟩,
     ⟨(some 25), .pick (.t 22) (.c (.bool true)) (.t 24), none⟩,
     ⟨(some 2), .mov (.t 25), none⟩])
  (.ret)
/-- purser/purserlaw10.great -/
def f_purserlaw10_great : Fn := ⟨26, [.tmp 2],
  .seq (.ops [⟨(some 2), .mov (.c (.bool false)), none⟩])
  (.seq (.ops [⟨(some 3), .mov (.c (.int .i64 0)), none⟩])
  (.seq (.seq (.ops [⟨(some 5), .mov (.t 0), none⟩,
      ⟨(some 6), .len false (.t 5), none⟩,
      ⟨(some 7), .mov (.c (.int .i64 0)), none⟩])
   (.block 0 (.loop (L_purserlaw10_great_0))))
  (R_purserlaw10_great_0)))⟩
def L_ops_Join_0 : C := .seq (.ops [⟨(some 26), .bin .lss .no (.t 25) (.t 24), none⟩])
          (.seq (.cond (.t 26)
            (.skip)
            (.exit 2))
          (.seq (.block 3 (.seq (.ops [⟨(some 27), .mov (.t 25), none⟩,
               ⟨(some 7), .mov (.t 27), none⟩])
            (.ops [⟨(some 28), .mov (.t 4), none⟩,
              ⟨(some 29), .fieldAddr 1 (.t 6), none⟩,
              ⟨(some 30), .load none (.t 29), none⟩,
              ⟨(some 31), .len false (.t 30), none⟩,
              ⟨(some 32), .mov (.t 7), none⟩,
              ⟨(some 33), .bin .mul .no (.c (.int .i64 8)) (.t 32), none⟩,
              ⟨(some 34), .bin .shr .no (.t 31) (.t 33), none⟩,
              ⟨(some 35), .conv .u8 (.t 34), none⟩,
              ⟨(some 36), .buildS [(.int .u8 0)] 1 1 [(0, 1, (.t 35))], none⟩,
              ⟨(some 37), .append 1 1 (.t 28) (.t 36), none⟩,
              ⟨(some 4), .mov (.t 37), none⟩])))
          (.ops [⟨(some 38), .bin .add .no (.t 25) (.c (.int .i64 1)), none⟩,
            ⟨(some 25), .mov (.t 38), none⟩])))
def R_ops_Join_0 : C := .ops [⟨(some 39), .mov (.t 4), none⟩,
         ⟨(some 40), .fieldAddr 1 (.t 6), none⟩,
         ⟨(some 41), .load none (.t 40), none⟩,
         ⟨(some 42), .append 1 1 (.t 39) (.t 41), none⟩,
         ⟨(some 4), .mov (.t 42), none⟩]
def R_ops_Join_1 : C := .ops [⟨(some 43), .bin .add .no (.t 10) (.c (.int .i64 1)), none⟩,
       ⟨(some 10), .mov (.t 43), none⟩]
def L_ops_Join_1 : C := .seq (.ops [⟨(some 11), .bin .lss .no (.t 10) (.t 9), none⟩])
     (.seq (.cond (.t 11)
       (.skip)
       (.exit 0))
     (.seq (.block 1 (.seq (.ops [⟨(some 12), .idxAddrS 2 (.t 8) (.t 10), none⟩,
          ⟨(some 13), .load (some 2) (.t 12), none⟩,
          ⟨(some 6), .alloc [(.int .u8 0), (.slice none 0 (some 0) 0)], none⟩,
          ⟨none, .store 2 (.t 6) (.t 13), none⟩])
       (.seq (.seq (.ops [⟨(some 14), .load (some 2) (.t 6), none⟩,
           ⟨(some 15), .call k_ops_valid [(.t 14)], none⟩,
           ⟨(some 16), .un .not (.t 15), none⟩])
        (.cond (.t 16)
         (.seq (.ops [⟨(some 2), .mov (.c (.slice none 0 (some 0) 0)), none⟩,
             ⟨(some 3), .mov (.c (.int .i64 100)), none⟩])
          (.ret))
         (.skip)))
       (.seq (.ops [⟨(some 17), .mov (.t 4), none⟩,
          ⟨(some 18), .fieldAddr 0 (.t 6), none⟩,
          ⟨(some 19), .load none (.t 18), none⟩,
          ⟨(some 20), .buildS [(.int .u8 0)] 1 1 [(0, 1, (.t 19))], none⟩,
          ⟨(some 21), .append 1 1 (.t 17) (.t 20), none⟩,
          ⟨(some 4), .mov (.t 21), none⟩])
       (.seq (.seq (.ops [⟨(some 22), .fieldAddr 0 (.t 6), none⟩,
           ⟨(some 23), .load none (.t 22), none⟩,
           ⟨(some 24), .call k_ops_counted [(.t 23)], none⟩,
           ⟨(some 25), .mov (.c (.int .i64 0)), none⟩])
        (.block 2 (.loop (L_ops_Join_0))))
       (R_ops_Join_0))))))
     (R_ops_Join_1)))
def R_ops_Join_2 : C := .seq (.ops [⟨(some 44), .mov (.t 4), none⟩,
     ⟨(some 2), .mov (.t 44), none⟩,
     ⟨(some 3), .mov (.c (.int .i64 0)), none⟩])
  (.ret)
/-- purser/ops.Join -/
def f_ops_Join : Fn := ⟨45, [.tmp 2, .tmp 3],
  .seq (.ops [⟨(some 2), .mov (.c (.slice none 0 (some 0) 0)), none⟩,
     ⟨(some 3), .mov (.c (.int .i64 0)), none⟩])
  (.seq (.ops [⟨(some 4), .mov (.c (.slice none 0 (some 0) 0)), none⟩])
  (.seq (.seq (.ops [⟨(some 8), .mov (.t 0), none⟩,
      ⟨(some 9), .len false (.t 8), none⟩,
      ⟨(some 10), .mov (.c (.int .i64 0)), none⟩])
   (.block 0 (.loop (L_ops_Join_1))))
  (R_ops_Join_2)))⟩
def L_purserref10_Join_0 : C := .seq (.seq (.ops [⟨(some 7), .mov (.t 5), none⟩,
         ⟨(some 8), .mov (.t 0), none⟩,
         ⟨(some 9), .len false (.t 8), none⟩,
         ⟨(some 10), .bin .lss .no (.t 7) (.t 9), none⟩])
      (.cond (.t 10)
       (.skip)
       (.exit 0)))
     (.seq (.block 1 (.seq (.ops [⟨(some 13), .mov (.t 0), none⟩,
          ⟨(some 14), .mov (.t 5), none⟩,
          ⟨(some 15), .idxAddrS 2 (.t 13) (.t 14), none⟩,
          ⟨(some 16), .load (some 2) (.t 15), none⟩,
          ⟨(some 17), .call k_purserref10_may [(.t 16)], none⟩,
          ⟨(some 6), .mov (.t 17), none⟩])
       (.seq (.seq (.ops [⟨(some 18), .mov (.t 6), none⟩,
           ⟨(some 19), .un .not (.t 18), none⟩])
        (.cond (.t 19)
         (.seq (.ops [⟨(some 2), .mov (.c (.slice none 0 (some 0) 0)), none⟩,
             ⟨(some 3), .mov (.c (.int .i64 100)), none⟩])
          (.ret))
         (.skip)))
       (.ops [⟨(some 20), .mov (.t 4), none⟩,
         ⟨(some 21), .mov (.t 0), none⟩,
         ⟨(some 22), .mov (.t 5), none⟩,
         ⟨(some 23), .idxAddrS 2 (.t 21) (.t 22), none⟩,
         ⟨(some 24), .load (some 2) (.t 23), none⟩,
         ⟨(some 25), .call k_purserref10_bytes [(.t 24)], none⟩,
         ⟨(some 26), .append 1 1 (.t 20) (.t 25), none⟩,
         ⟨(some 4), .mov (.t 26), none⟩]))))
     (.ops [⟨(some 11), .mov (.t 5), none⟩,
       ⟨(some 12), .bin .add .no (.t 11) (.c (.int .i64 1)), none⟩,
       ⟨(some 5), .mov (.t 12), none⟩]))
def R_purserref10_Join_0 : C := .seq (.ops [⟨(some 27), .mov (.t 4), none⟩,
     ⟨(some 2), .mov (.t 27), none⟩,
     ⟨(some 3), .mov (.c (.int .i64 0)), none⟩])
  (.ret)
/-- purser/purserref10.Join -/
def f_purserref10_Join : Fn := ⟨28, [.tmp 2, .tmp 3],
  .seq (.ops [⟨(some 2), .mov (.c (.slice none 0 (some 0) 0)), none⟩,
     ⟨(some 3), .mov (.c (.int .i64 0)), none⟩])
  (.seq (.ops [⟨(some 4), .mov (.c (.slice none 0 (some 0) 0)), none⟩])
  (.seq (.seq (.ops [⟨(some 5), .mov (.c (.int .i64 0)), none⟩])
   (.block 0 (.loop (L_purserref10_Join_0))))
  (R_purserref10_Join_0)))⟩
/-- purser/ops.Same -/
def f_ops_Same : Fn := ⟨8, [.tmp 4],
  .seq (.ops [⟨(some 4), .mov (.c (.bool false)), none⟩])
  (.seq (.ops [⟨(some 5), .mov (.t 0), none⟩,
     ⟨(some 6), .mov (.t 1), none⟩,
     ⟨(some 7), .call k_slices_EqualFunc_api_Op_api_Op_api_Op_api_Op [(.t 5), (.t 6), (.f k_ops_sameOp)], none⟩,
     ⟨(some 4), .mov (.t 7), none⟩])
  (.ret))⟩
/-- purser/ops.Value -/
def f_ops_Value : Fn := ⟨31, [.tmp 2, .tmp 3],
  .seq (.ops [⟨(some 1), .box (.t 0), none⟩,
     ⟨(some 2), .mov (.c (.slice none 0 (some 0) 0)), none⟩,
     ⟨(some 3), .mov (.c (.bool false)), none⟩])
  (.seq (.seq (.ops [⟨(some 5), .load (some 2) (.t 1), none⟩,
      ⟨(some 6), .call k_ops_valid [(.t 5)], none⟩,
      ⟨(some 7), .un .not (.t 6), none⟩])
   (.cond (.t 7)
    (.seq (.ops [⟨(some 2), .mov (.c (.slice none 0 (some 0) 0)), none⟩,
        ⟨(some 3), .mov (.c (.bool false)), none⟩])
     (.ret))
    (.skip)))
  (.seq (.seq (.ops [⟨(some 8), .fieldAddr 0 (.t 1), none⟩,
      ⟨(some 9), .load none (.t 8), none⟩,
      ⟨(some 4), .mov (.t 9), none⟩])
   (.block 0 (.seq (.ops [⟨(some 11), .mov (.t 4), none⟩,
       ⟨(some 12), .bin .leq .no (.t 11) (.c (.int .u8 77)), none⟩,
       ⟨(some 10), .mov (.t 12), none⟩])
    (.cond (.t 10)
     (.seq (.ops [⟨(some 13), .fieldAddr 1 (.t 1), none⟩,
         ⟨(some 14), .load none (.t 13), none⟩,
         ⟨(some 15), .call k_bytes_Clone [(.t 14)], none⟩,
         ⟨(some 2), .mov (.t 15), none⟩,
         ⟨(some 3), .mov (.c (.bool true)), none⟩])
      (.ret))
     (.seq (.ops [⟨(some 17), .mov (.t 4), none⟩,
         ⟨(some 18), .bin .eql .no (.t 17) (.c (.int .u8 79)), none⟩,
         ⟨(some 16), .mov (.t 18), none⟩])
      (.cond (.t 16)
       (.seq (.ops [⟨(some 19), .buildS [(.int .u8 0)] 1 1 [(0, 1, (.c (.int .u8 129)))], none⟩,
           ⟨(some 2), .mov (.t 19), none⟩,
           ⟨(some 3), .mov (.c (.bool true)), none⟩])
        (.ret))
       (.seq (.ops [⟨(some 21), .mov (.t 4), none⟩,
           ⟨(some 22), .bin .geq .no (.t 21) (.c (.int .u8 81)), none⟩,
           ⟨(some 23), .mov (.t 22), none⟩,
           ⟨(some 24), .mov (.t 4), (some (23, true))⟩,
           ⟨(some 25), .bin .leq .no (.t 24) (.c (.int .u8 96)), (some (23, true))⟩,
           ⟨(some 26), .pick (.t 23) (.t 25) (.c (.bool false)), none⟩,
           ⟨(some 20), .mov (.t 26), none⟩])
        (.cond (.t 20)
         (.seq (.ops [⟨(some 27), .mov (.t 4), none⟩,
             ⟨(some 28), .bin .sub .no (.t 27) (.c (.int .u8 81)), none⟩,
             ⟨(some 29), .bin .add .no (.t 28) (.c (.int .u8 1)), none⟩,
             ⟨(some 30), .buildS [(.int .u8 0)] 1 1 [(0, 1, (.t 29))], none⟩,
             ⟨(some 2), .mov (.t 30), none⟩,
             ⟨(some 3), .mov (.c (.bool true)), none⟩])
          (.ret))
         (.skip)))))))))
  (.seq (.ops [⟨(some 2), .mov (.c (.slice none 0 (some 0) 0)), none⟩,
     ⟨(some 3), .mov (.c (.bool false)), none⟩])
  (.ret))))⟩
/-- purser/purserref10.Value -/
def f_purserref10_Value : Fn := ⟨31, [.tmp 2, .tmp 3],
  .seq (.ops [⟨(some 1), .box (.t 0), none⟩,
     ⟨(some 2), .mov (.c (.slice none 0 (some 0) 0)), none⟩,
     ⟨(some 3), .mov (.c (.bool false)), none⟩])
  (.seq (.ops [⟨(some 5), .load (some 2) (.t 1), none⟩,
     ⟨(some 6), .call k_purserref10_may [(.t 5)], none⟩,
     ⟨(some 4), .mov (.t 6), none⟩])
  (.seq (.seq (.ops [⟨(some 7), .mov (.t 4), none⟩,
      ⟨(some 8), .un .not (.t 7), none⟩])
   (.cond (.t 8)
    (.seq (.ops [⟨(some 2), .mov (.c (.slice none 0 (some 0) 0)), none⟩,
        ⟨(some 3), .mov (.c (.bool false)), none⟩])
     (.ret))
    (.skip)))
  (.seq (.seq (.ops [⟨(some 9), .fieldAddr 0 (.t 1), none⟩,
      ⟨(some 10), .load none (.t 9), none⟩,
      ⟨(some 11), .bin .lss .no (.t 10) (.c (.int .u8 78)), none⟩])
   (.cond (.t 11)
    (.seq (.ops [⟨(some 12), .fieldAddr 1 (.t 1), none⟩,
        ⟨(some 13), .load none (.t 12), none⟩,
        ⟨(some 14), .call k_purserref01_Twin [(.t 13)], none⟩,
        ⟨(some 2), .mov (.t 14), none⟩,
        ⟨(some 3), .mov (.c (.bool true)), none⟩])
     (.ret))
    (.skip)))
  (.seq (.seq (.ops [⟨(some 15), .fieldAddr 0 (.t 1), none⟩,
      ⟨(some 16), .load none (.t 15), none⟩,
      ⟨(some 17), .bin .eql .no (.t 16) (.c (.int .u8 79)), none⟩])
   (.cond (.t 17)
    (.seq (.ops [⟨(some 18), .buildS [(.int .u8 0)] 1 1 [(0, 1, (.c (.int .u8 129)))], none⟩,
        ⟨(some 2), .mov (.t 18), none⟩,
        ⟨(some 3), .mov (.c (.bool true)), none⟩])
     (.ret))
    (.skip)))
  (.seq (.seq (.ops [⟨(some 19), .fieldAddr 0 (.t 1), none⟩,
      ⟨(some 20), .load none (.t 19), none⟩,
      ⟨(some 21), .bin .gtr .no (.t 20) (.c (.int .u8 80)), none⟩,
      ⟨(some 22), .mov (.t 21), none⟩,
      ⟨(some 23), .fieldAddr 0 (.t 1), (some (22, true))⟩,
      ⟨(some 24), .load none (.t 23), (some (22, true))⟩,
      ⟨(some 25), .bin .lss .no (.t 24) (.c (.int .u8 97)), (some (22, true))⟩,
      ⟨(some 26), .pick (.t 22) (.t 25) (.c (.bool false)), none⟩])
   (.cond (.t 26)
    (.seq (.ops [⟨(some 27), .fieldAddr 0 (.t 1), none⟩,
        ⟨(some 28), .load none (.t 27), none⟩,
        ⟨(some 29), .bin .sub .no (.t 28) (.c (.int .u8 80)), none⟩,
        ⟨(some 30), .buildS [(.int .u8 0)] 1 1 [(0, 1, (.t 29))], none⟩,
        ⟨(some 2), .mov (.t 30), none⟩,
        ⟨(some 3), .mov (.c (.bool true)), none⟩])
     (.ret))
    (.skip)))
  (.seq (.ops [⟨(some 2), .mov (.c (.slice none 0 (some 0) 0)), none⟩,
     ⟨(some 3), .mov (.c (.bool false)), none⟩])
  (.ret)))))))⟩
/-- purser/ops.Push -/
def f_ops_Push : Fn := ⟨27, [.cell 2 (some 2), .tmp 3],
  .seq (.ops [⟨(some 2), .alloc [(.int .u8 0), (.slice none 0 (some 0) 0)], none⟩,
     ⟨(some 3), .mov (.c (.int .i64 0)), none⟩])
  (.seq (.ops [⟨(some 5), .mov (.t 0), none⟩,
     ⟨(some 6), .call k_bytes_Clone [(.t 5)], none⟩,
     ⟨(some 7), .build [(.int .u8 0), (.slice none 0 (some 0) 0)] [(0, 1, (.c (.int .u8 77))), (1, 1, (.t 6))], none⟩,
     ⟨(some 4), .alloc [(.int .u8 0), (.slice none 0 (some 0) 0)], none⟩,
     ⟨none, .store 2 (.t 4) (.t 7), none⟩])
  (.seq (.block 0 (.seq (.ops [⟨(some 9), .mov (.t 0), none⟩,
       ⟨(some 10), .len false (.t 9), none⟩,
       ⟨(some 11), .bin .gtr .no (.t 10) (.c (.int .i64 65535)), none⟩,
       ⟨(some 8), .mov (.t 11), none⟩])
    (.cond (.t 8)
     (.seq (.ops [⟨(some 12), .build [(.int .u8 0), (.slice none 0 (some 0) 0)] [], none⟩,
         ⟨none, .store 2 (.t 2) (.t 12), none⟩,
         ⟨(some 3), .mov (.c (.int .i64 100)), none⟩])
      (.ret))
     (.seq (.ops [⟨(some 14), .mov (.t 0), none⟩,
         ⟨(some 15), .len false (.t 14), none⟩,
         ⟨(some 16), .bin .leq .no (.t 15) (.c (.int .i64 75)), none⟩,
         ⟨(some 13), .mov (.t 16), none⟩])
      (.cond (.t 13)
       (.ops [⟨(some 17), .mov (.t 0), none⟩,
          ⟨(some 18), .len false (.t 17), none⟩,
          ⟨(some 19), .conv .u8 (.t 18), none⟩,
          ⟨(some 20), .fieldAddr 0 (.t 4), none⟩,
          ⟨none, .store 1 (.t 20) (.t 19), none⟩])
       (.seq (.ops [⟨(some 22), .mov (.t 0), none⟩,
           ⟨(some 23), .len false (.t 22), none⟩,
           ⟨(some 24), .bin .leq .no (.t 23) (.c (.int .i64 255)), none⟩,
           ⟨(some 21), .mov (.t 24), none⟩])
        (.cond (.t 21)
         (.ops [⟨(some 25), .fieldAddr 0 (.t 4), none⟩,
            ⟨none, .store 1 (.t 25) (.c (.int .u8 76)), none⟩])
         (.skip))))))))
  (.seq (.ops [⟨(some 26), .load (some 2) (.t 4), none⟩,
     ⟨none, .store 2 (.t 2) (.t 26), none⟩,
     ⟨(some 3), .mov (.c (.int .i64 0)), none⟩])
  (.ret))))⟩
/-- purser/purserref10.Push -/
def f_purserref10_Push : Fn := ⟨24, [.cell 2 (some 2), .tmp 3],
  .seq (.ops [⟨(some 2), .alloc [(.int .u8 0), (.slice none 0 (some 0) 0)], none⟩,
     ⟨(some 3), .mov (.c (.int .i64 0)), none⟩])
  (.seq (.seq (.ops [⟨(some 5), .mov (.t 0), none⟩,
      ⟨(some 6), .len false (.t 5), none⟩,
      ⟨(some 7), .bin .gtr .no (.t 6) (.c (.int .i64 65535)), none⟩])
   (.cond (.t 7)
    (.seq (.ops [⟨(some 8), .build [(.int .u8 0), (.slice none 0 (some 0) 0)] [], none⟩,
        ⟨none, .store 2 (.t 2) (.t 8), none⟩,
        ⟨(some 3), .mov (.c (.int .i64 100)), none⟩])
     (.ret))
    (.skip)))
  (.seq (.ops [⟨(some 9), .mov (.t 0), none⟩,
     ⟨(some 10), .call k_purserref01_Twin [(.t 9)], none⟩,
     ⟨(some 11), .build [(.int .u8 0), (.slice none 0 (some 0) 0)] [(0, 1, (.c (.int .u8 77))), (1, 1, (.t 10))], none⟩,
     ⟨(some 4), .alloc [(.int .u8 0), (.slice none 0 (some 0) 0)], none⟩,
     ⟨none, .store 2 (.t 4) (.t 11), none⟩])
  (.seq (.seq (.ops [⟨(some 12), .mov (.t 0), none⟩,
      ⟨(some 13), .len false (.t 12), none⟩,
      ⟨(some 14), .bin .lss .no (.t 13) (.c (.int .i64 256)), none⟩])
   (.cond (.t 14)
    (.ops [⟨(some 15), .fieldAddr 0 (.t 4), none⟩,
       ⟨none, .store 1 (.t 15) (.c (.int .u8 76)), none⟩])
    (.skip)))
  (.seq (.seq (.ops [⟨(some 16), .mov (.t 0), none⟩,
      ⟨(some 17), .len false (.t 16), none⟩,
      ⟨(some 18), .bin .lss .no (.t 17) (.c (.int .i64 76)), none⟩])
   (.cond (.t 18)
    (.ops [⟨(some 19), .mov (.t 0), none⟩,
       ⟨(some 20), .len false (.t 19), none⟩,
       ⟨(some 21), .conv .u8 (.t 20), none⟩,
       ⟨(some 22), .fieldAddr 0 (.t 4), none⟩,
       ⟨none, .store 1 (.t 22) (.t 21), none⟩])
    (.skip)))
  (.seq (.ops [⟨(some 23), .load (some 2) (.t 4), none⟩,
     ⟨none, .store 2 (.t 2) (.t 23), none⟩,
     ⟨(some 3), .mov (.c (.int .i64 0)), none⟩])
  (.ret))))))⟩
/-- purser/purserlaw10.alive -/
def f_purserlaw10_alive : Fn := ⟨8, [.tmp 0],
  .seq (.ops [⟨(some 0), .mov (.c (.bool false)), none⟩])
  (.seq (.ops [⟨(some 1), .buildS [(.int .u8 0), (.int .u8 0)] 2 1 [(0, 1, (.c (.int .u8 97))), (1, 1, (.c (.int .u8 98)))], none⟩,
     ⟨(some 2), .mark (.t 1), none⟩,
     ⟨(some 3), .build [(.int .u8 0), (.slice none 0 (some 0) 0)] [(0, 1, (.c (.int .u8 2))), (1, 1, (.t 2))], none⟩,
     ⟨(some 4), .build [(.int .u8 0), (.slice none 0 (some 0) 0)] [(0, 1, (.c (.int .u8 97)))], none⟩,
     ⟨(some 5), .build [(.int .u8 0), (.slice none 0 (some 0) 0)] [], none⟩,
     ⟨(some 6), .buildS [(.int .u8 0), (.slice none 0 (some 0) 0), (.int .u8 0), (.slice none 0 (some 0) 0), (.int .u8 0), (.slice none 0 (some 0) 0)] 3 2 [(0, 2, (.t 3)), (2, 2, (.t 4)), (4, 2, (.t 5))], none⟩,
     ⟨(some 7), .call k_purserlaw10_splits [(.c (.str [2, 97, 98, 97, 0])), (.t 6)], none⟩,
     ⟨(some 0), .mov (.t 7), none⟩])
  (.ret))⟩
/-- purser/ops.operations -/
def f_ops_operations : Fn := ⟨4, [.tmp 2],
  .seq (.ops [⟨(some 1), .box (.t 0), none⟩,
     ⟨(some 2), .mov (.c .nilFn), none⟩])
  (.seq (.ops [⟨(some 3), .mkfn k_ops_operations_1 [] [(.t 1)], none⟩,
     ⟨(some 2), .mov (.t 3), none⟩])
  (.ret))⟩
/-- purser/purserref01.Twin -/
def f_purserref01_Twin : Fn := ⟨7, [.tmp 2],
  .seq (.ops [⟨(some 2), .mov (.c (.slice none 0 (some 0) 0)), none⟩])
  (.seq (.ops [⟨(some 3), .mov (.c (.slice none 0 (some 0) 0)), none⟩])
  (.seq (.ops [⟨(some 4), .mov (.t 3), none⟩,
     ⟨(some 5), .mov (.t 0), none⟩,
     ⟨(some 6), .append 1 1 (.t 4) (.t 5), none⟩,
     ⟨(some 2), .mov (.t 6), none⟩])
  (.ret)))⟩
/-- purser/ops.valid -/
def f_ops_valid : Fn := ⟨34, [.tmp 2],
  .seq (.ops [⟨(some 1), .box (.t 0), none⟩,
     ⟨(some 2), .mov (.c (.bool false)), none⟩])
  (.seq (.block 0 (.seq (.ops [⟨(some 4), .fieldAddr 0 (.t 1), none⟩,
       ⟨(some 5), .load none (.t 4), none⟩,
       ⟨(some 6), .bin .eql .no (.t 5) (.c (.int .u8 76)), none⟩,
       ⟨(some 3), .mov (.t 6), none⟩])
    (.cond (.t 3)
     (.seq (.ops [⟨(some 7), .fieldAddr 1 (.t 1), none⟩,
         ⟨(some 8), .load none (.t 7), none⟩,
         ⟨(some 9), .len false (.t 8), none⟩,
         ⟨(some 10), .bin .leq .no (.t 9) (.c (.int .i64 255)), none⟩,
         ⟨(some 2), .mov (.t 10), none⟩])
      (.ret))
     (.seq (.ops [⟨(some 12), .fieldAddr 0 (.t 1), none⟩,
         ⟨(some 13), .load none (.t 12), none⟩,
         ⟨(some 14), .bin .eql .no (.t 13) (.c (.int .u8 77)), none⟩,
         ⟨(some 11), .mov (.t 14), none⟩])
      (.cond (.t 11)
       (.seq (.ops [⟨(some 15), .fieldAddr 1 (.t 1), none⟩,
           ⟨(some 16), .load none (.t 15), none⟩,
           ⟨(some 17), .len false (.t 16), none⟩,
           ⟨(some 18), .bin .leq .no (.t 17) (.c (.int .i64 65535)), none⟩,
           ⟨(some 2), .mov (.t 18), none⟩])
        (.ret))
       (.seq (.ops [⟨(some 20), .fieldAddr 0 (.t 1), none⟩,
           ⟨(some 21), .load none (.t 20), none⟩,
           ⟨(some 22), .bin .leq .no (.t 21) (.c (.int .u8 75)), none⟩,
           ⟨(some 19), .mov (.t 22), none⟩])
        (.cond (.t 19)
         (.seq (.ops [⟨(some 23), .fieldAddr 1 (.t 1), none⟩,
             ⟨(some 24), .load none (.t 23), none⟩,
             ⟨(some 25), .len false (.t 24), none⟩,
             ⟨(some 26), .fieldAddr 0 (.t 1), none⟩,
             ⟨(some 27), .load none (.t 26), none⟩,
             ⟨(some 28), .conv .i64 (.t 27), none⟩,
             ⟨(some 29), .bin .eql .no (.t 25) (.t 28), none⟩,
             ⟨(some 2), .mov (.t 29), none⟩])
          (.ret))
         (.skip))))))))
  (.seq (.ops [⟨(some 30), .fieldAddr 1 (.t 1), none⟩,
     ⟨(some 31), .load none (.t 30), none⟩,
     ⟨(some 32), .len false (.t 31), none⟩,
     ⟨(some 33), .bin .eql .no (.t 32) (.c (.int .i64 0)), none⟩,
     ⟨(some 2), .mov (.t 33), none⟩])
  (.ret)))⟩
/-- purser/ops.counted -/
def f_ops_counted : Fn := ⟨14, [.tmp 2],
  .seq (.ops [⟨(some 2), .mov (.c (.int .i64 0)), none⟩])
  (.seq (.ops [⟨(some 3), .mov (.c (.int .i64 0)), none⟩])
  (.seq (.seq (.ops [⟨(some 4), .mov (.t 0), none⟩])
   (.block 0 (.seq (.block 2 (.seq (.block 1 (.seq (.seq (.seq (.ops [⟨(some 6), .bin .eql .no (.t 4) (.c (.int .u8 77)), none⟩,
             ⟨(some 5), .mov (.t 6), none⟩])
          (.cond (.t 5)
           (.exit 1)
           (.skip)))
         (.seq (.ops [⟨(some 8), .bin .eql .no (.t 4) (.c (.int .u8 76)), none⟩,
            ⟨(some 7), .mov (.t 8), none⟩])
         (.cond (.t 7)
          (.exit 2)
          (.skip))))
        (.exit 0)))
      (.ops [⟨(some 9), .mov (.t 3), none⟩,
        ⟨(some 10), .bin .add .no (.t 9) (.c (.int .i64 1)), none⟩,
        ⟨(some 3), .mov (.t 10), none⟩])))
    (.seq (.ops [⟨(some 11), .mov (.t 3), none⟩,
       ⟨(some 12), .bin .add .no (.t 11) (.c (.int .i64 1)), none⟩,
       ⟨(some 3), .mov (.t 12), none⟩])
    (.exit 0)))))
  (.seq (.ops [⟨(some 13), .mov (.t 3), none⟩,
     ⟨(some 2), .mov (.t 13), none⟩])
  (.ret))))⟩
/-- purser/purserref10.may -/
def f_purserref10_may : Fn := ⟨32, [.tmp 2],
  .seq (.ops [⟨(some 1), .box (.t 0), none⟩,
     ⟨(some 2), .mov (.c (.bool false)), none⟩])
  (.seq (.ops [⟨(some 4), .fieldAddr 1 (.t 1), none⟩,
     ⟨(some 5), .load none (.t 4), none⟩,
     ⟨(some 6), .len false (.t 5), none⟩,
     ⟨(some 3), .mov (.t 6), none⟩])
  (.seq (.seq (.ops [⟨(some 7), .fieldAddr 0 (.t 1), none⟩,
      ⟨(some 8), .load none (.t 7), none⟩,
      ⟨(some 9), .bin .geq .no (.t 8) (.c (.int .u8 1)), none⟩,
      ⟨(some 10), .mov (.t 9), none⟩,
      ⟨(some 11), .fieldAddr 0 (.t 1), (some (10, true))⟩,
      ⟨(some 12), .load none (.t 11), (some (10, true))⟩,
      ⟨(some 13), .bin .leq .no (.t 12) (.c (.int .u8 75)), (some (10, true))⟩,
      ⟨(some 14), .pick (.t 10) (.t 13) (.c (.bool false)), none⟩])
   (.cond (.t 14)
    (.seq (.ops [⟨(some 15), .mov (.t 3), none⟩,
        ⟨(some 16), .fieldAddr 0 (.t 1), none⟩,
        ⟨(some 17), .load none (.t 16), none⟩,
        ⟨(some 18), .conv .i64 (.t 17), none⟩,
        ⟨(some 19), .bin .eql .no (.t 15) (.t 18), none⟩,
        ⟨(some 2), .mov (.t 19), none⟩])
     (.ret))
    (.skip)))
  (.seq (.seq (.ops [⟨(some 20), .fieldAddr 0 (.t 1), none⟩,
      ⟨(some 21), .load none (.t 20), none⟩,
      ⟨(some 22), .bin .eql .no (.t 21) (.c (.int .u8 76)), none⟩])
   (.cond (.t 22)
    (.seq (.ops [⟨(some 23), .mov (.t 3), none⟩,
        ⟨(some 24), .bin .leq .no (.t 23) (.c (.int .i64 255)), none⟩,
        ⟨(some 2), .mov (.t 24), none⟩])
     (.ret))
    (.skip)))
  (.seq (.seq (.ops [⟨(some 25), .fieldAddr 0 (.t 1), none⟩,
      ⟨(some 26), .load none (.t 25), none⟩,
      ⟨(some 27), .bin .eql .no (.t 26) (.c (.int .u8 77)), none⟩])
   (.cond (.t 27)
    (.seq (.ops [⟨(some 28), .mov (.t 3), none⟩,
        ⟨(some 29), .bin .leq .no (.t 28) (.c (.int .i64 65535)), none⟩,
        ⟨(some 2), .mov (.t 29), none⟩])
     (.ret))
    (.skip)))
  (.seq (.ops [⟨(some 30), .mov (.t 3), none⟩,
     ⟨(some 31), .bin .eql .no (.t 30) (.c (.int .i64 0)), none⟩,
     ⟨(some 2), .mov (.t 31), none⟩])
  (.ret))))))⟩
/-- purser/purserref10.bytes -/
def f_purserref10_bytes : Fn := ⟨35, [.tmp 2],
  .seq (.ops [⟨(some 1), .box (.t 0), none⟩,
     ⟨(some 2), .mov (.c (.slice none 0 (some 0) 0)), none⟩])
  (.seq (.ops [⟨(some 5), .fieldAddr 0 (.t 1), none⟩,
     ⟨(some 6), .load none (.t 5), none⟩,
     ⟨(some 7), .buildS [(.int .u8 0)] 1 1 [(0, 1, (.t 6))], none⟩,
     ⟨(some 3), .mov (.t 7), none⟩])
  (.seq (.ops [⟨(some 8), .fieldAddr 1 (.t 1), none⟩,
     ⟨(some 9), .load none (.t 8), none⟩,
     ⟨(some 10), .len false (.t 9), none⟩,
     ⟨(some 4), .mov (.t 10), none⟩])
  (.seq (.seq (.ops [⟨(some 11), .fieldAddr 0 (.t 1), none⟩,
      ⟨(some 12), .load none (.t 11), none⟩,
      ⟨(some 13), .bin .eql .no (.t 12) (.c (.int .u8 76)), none⟩])
   (.cond (.t 13)
    (.ops [⟨(some 14), .mov (.t 3), none⟩,
       ⟨(some 15), .mov (.t 4), none⟩,
       ⟨(some 16), .conv .u8 (.t 15), none⟩,
       ⟨(some 17), .buildS [(.int .u8 0)] 1 1 [(0, 1, (.t 16))], none⟩,
       ⟨(some 18), .append 1 1 (.t 14) (.t 17), none⟩,
       ⟨(some 3), .mov (.t 18), none⟩])
    (.skip)))
  (.seq (.seq (.ops [⟨(some 19), .fieldAddr 0 (.t 1), none⟩,
      ⟨(some 20), .load none (.t 19), none⟩,
      ⟨(some 21), .bin .eql .no (.t 20) (.c (.int .u8 77)), none⟩])
   (.cond (.t 21)
    (.ops [⟨(some 22), .mov (.t 3), none⟩,
       ⟨(some 23), .mov (.t 4), none⟩,
       ⟨(some 24), .bin .rem .no (.t 23) (.c (.int .i64 256)), none⟩,
       ⟨(some 25), .conv .u8 (.t 24), none⟩,
       ⟨(some 26), .mov (.t 4), none⟩,
       ⟨(some 27), .bin .quo .no (.t 26) (.c (.int .i64 256)), none⟩,
       ⟨(some 28), .conv .u8 (.t 27), none⟩,
       ⟨(some 29), .buildS [(.int .u8 0), (.int .u8 0)] 2 1 [(0, 1, (.t 25)), (1, 1, (.t 28))], none⟩,
       ⟨(some 30), .append 1 1 (.t 22) (.t 29), none⟩,
       ⟨(some 3), .mov (.t 30), none⟩])
    (.skip)))
  (.seq (.ops [⟨(some 31), .mov (.t 3), none⟩,
     ⟨(some 32), .fieldAddr 1 (.t 1), none⟩,
     ⟨(some 33), .load none (.t 32), none⟩,
     ⟨(some 34), .append 1 1 (.t 31) (.t 33), none⟩,
     ⟨(some 2), .mov (.t 34), none⟩])
  (.ret))))))⟩
def L_slices_EqualFunc_api_Op_api_Op_api_Op_api_Op_0 : C := .seq (.ops [⟨(some 18), .bin .lss .no (.t 17) (.t 16), none⟩])
     (.seq (.cond (.t 18)
       (.skip)
       (.exit 0))
     (.seq (.block 1 (.seq (.ops [⟨(some 19), .mov (.t 17), none⟩,
          ⟨(some 20), .idxAddrS 2 (.t 15) (.t 17), none⟩,
          ⟨(some 21), .load (some 2) (.t 20), none⟩,
          ⟨(some 8), .alloc [(.int .u8 0), (.slice none 0 (some 0) 0)], none⟩,
          ⟨(some 7), .mov (.t 19), none⟩,
          ⟨none, .store 2 (.t 8) (.t 21), none⟩])
       (.seq (.ops [⟨(some 22), .mov (.t 1), none⟩,
          ⟨(some 23), .mov (.t 7), none⟩,
          ⟨(some 24), .idxAddrS 2 (.t 22) (.t 23), none⟩,
          ⟨(some 25), .load (some 2) (.t 24), none⟩,
          ⟨(some 9), .alloc [(.int .u8 0), (.slice none 0 (some 0) 0)], none⟩,
          ⟨none, .store 2 (.t 9) (.t 25), none⟩])
       (.seq (.ops [⟨(some 26), .mov (.t 2), none⟩,
          ⟨(some 27), .load (some 2) (.t 8), none⟩,
          ⟨(some 28), .load (some 2) (.t 9), none⟩,
          ⟨(some 29), .callv (.t 26) [(.t 27), (.t 28)], none⟩,
          ⟨(some 30), .un .not (.t 29), none⟩])
       (.cond (.t 30)
        (.seq (.ops [⟨(some 6), .mov (.c (.bool false)), none⟩])
         (.ret))
        (.skip))))))
     (.ops [⟨(some 31), .bin .add .no (.t 17) (.c (.int .i64 1)), none⟩,
       ⟨(some 17), .mov (.t 31), none⟩])))
def R_slices_EqualFunc_api_Op_api_Op_api_Op_api_Op_0 : C := .seq (.ops [⟨(some 6), .mov (.c (.bool true)), none⟩])
  (.ret)
/-- slices.EqualFunc[[]purser/api.Op,[]purser/api.Op,purser/api.Op,purser/api.Op] -/
def f_slices_EqualFunc_api_Op_api_Op_api_Op_api_Op : Fn := ⟨32, [.tmp 6],
  .seq (.ops [⟨(some 6), .mov (.c (.bool false)), none⟩])
  (.seq (.seq (.ops [⟨(some 10), .mov (.t 0), none⟩,
      ⟨(some 11), .len false (.t 10), none⟩,
      ⟨(some 12), .mov (.t 1), none⟩,
      ⟨(some 13), .len false (.t 12), none⟩,
      ⟨(some 14), .bin .neq .no (.t 11) (.t 13), none⟩])
   (.cond (.t 14)
    (.seq (.ops [⟨(some 6), .mov (.c (.bool false)), none⟩])
     (.ret))
    (.skip)))
  (.seq (.seq (.ops [⟨(some 15), .mov (.t 0), none⟩,
      ⟨(some 16), .len false (.t 15), none⟩,
      ⟨(some 17), .mov (.c (.int .i64 0)), none⟩])
   (.block 0 (.loop (L_slices_EqualFunc_api_Op_api_Op_api_Op_api_Op_0))))
  (R_slices_EqualFunc_api_Op_api_Op_api_Op_api_Op_0)))⟩
/-- purser/ops.sameOp -/
def f_ops_sameOp : Fn := ⟨17, [.tmp 4],
  .seq (.ops [⟨(some 2), .box (.t 0), none⟩,
     ⟨(some 3), .box (.t 1), none⟩,
     ⟨(some 4), .mov (.c (.bool false)), none⟩])
  (.seq (.ops [⟨(some 5), .fieldAddr 0 (.t 2), none⟩,
     ⟨(some 6), .load none (.t 5), none⟩,
     ⟨(some 7), .fieldAddr 0 (.t 3), none⟩,
     ⟨(some 8), .load none (.t 7), none⟩,
     ⟨(some 9), .bin .eql .no (.t 6) (.t 8), none⟩,
     ⟨(some 10), .mov (.t 9), none⟩,
     ⟨(some 11), .fieldAddr 1 (.t 2), (some (10, true))⟩,
     ⟨(some 12), .load none (.t 11), (some (10, true))⟩,
     ⟨(some 13), .fieldAddr 1 (.t 3), (some (10, true))⟩,
     ⟨(some 14), .load none (.t 13), (some (10, true))⟩,
     ⟨(some 15), .call k_bytes_Equal [(.t 12), (.t 14)], (some (10, true))⟩,
     ⟨(some 16), .pick (.t 10) (.t 15) (.c (.bool false)), none⟩,
     ⟨(some 4), .mov (.t 16), none⟩])
  (.ret))⟩
/-- bytes.Clone -/
def f_bytes_Clone : Fn := ⟨8, [.tmp 2],
  .seq (.ops [⟨(some 2), .mov (.c (.slice none 0 (some 0) 0)), none⟩])
  (.seq (.seq (.ops [⟨(some 3), .mov (.t 0), none⟩,
      ⟨(some 4), .bin .eql (.ref .s) (.t 3) (.c (.slice none 0 (some 0) 0)), none⟩])
   (.cond (.t 4)
    (.seq (.ops [⟨(some 2), .mov (.c (.slice none 0 (some 0) 0)), none⟩])
     (.ret))
    (.skip)))
  (.seq (.ops [⟨(some 5), .buildS [] 0 1 [], none⟩,
     ⟨(some 6), .mov (.t 0), none⟩,
     ⟨(some 7), .append 1 1 (.t 5) (.t 6), none⟩,
     ⟨(some 2), .mov (.t 7), none⟩])
  (.ret)))⟩
/-- purser/purserlaw10.splits -/
def f_purserlaw10_splits : Fn := ⟨20, [.tmp 4],
  .seq (.ops [⟨(some 4), .mov (.c (.bool false)), none⟩])
  (.seq (.ops [⟨(some 8), .mov (.t 0), none⟩,
     ⟨(some 9), .s2b (.t 8), none⟩,
     ⟨(some 10), .call k_ops_Split [(.t 9)], none⟩,
     ⟨(some 7), .mov (.t 10), none⟩,
     ⟨(some 11), .ext (.t 7) 0, none⟩,
     ⟨(some 12), .ext (.t 7) 1, none⟩,
     ⟨(some 5), .mov (.t 11), none⟩,
     ⟨(some 6), .mov (.t 12), none⟩])
  (.seq (.ops [⟨(some 13), .mov (.t 6), none⟩,
     ⟨(some 14), .bin .eql .no (.t 13) (.c (.int .i64 0)), none⟩,
     ⟨(some 15), .mov (.t 14), none⟩,
     ⟨(some 16), .mov (.t 5), (some (15, true))⟩,
     ⟨(some 17), .mov (.t 1), (some (15, true))⟩,
     ⟨(some 18), .call k_ops_Same [(.t 16), (.t 17)], (some (15, true))⟩,
     ⟨(some 19), .pick (.t 15) (.t 18) (.c (.bool false)), none⟩,
     ⟨(some 4), .mov (.t 19), none⟩])
  (.ret)))⟩
def L_ops_operations_1_0 : C := .seq (.seq (.ops [⟨(some 7), .mov (.t 3), none⟩,
        ⟨(some 8), .load none (.t 1), none⟩,
        ⟨(some 9), .len false (.t 8), none⟩,
        ⟨(some 10), .bin .lss .no (.t 7) (.t 9), none⟩])
     (.cond (.t 10)
      (.skip)
      (.exit 0)))
    (.block 1 (.seq (.ops [⟨(some 12), .load none (.t 1), none⟩,
        ⟨(some 13), .mov (.t 3), none⟩,
        ⟨(some 14), .slcS 1 (.t 12) (some (.t 13)) none none, none⟩,
        ⟨(some 15), .call k_ops_first [(.t 14)], none⟩,
        ⟨(some 11), .mov (.t 15), none⟩,
        ⟨(some 16), .ext (.t 11) 0, none⟩,
        ⟨(some 17), .ext (.t 11) 1, none⟩,
        ⟨(some 18), .ext (.t 11) 2, none⟩,
        ⟨(some 4), .alloc [(.int .u8 0), (.slice none 0 (some 0) 0)], none⟩,
        ⟨none, .store 2 (.t 4) (.t 16), none⟩,
        ⟨(some 5), .mov (.t 17), none⟩,
        ⟨(some 6), .mov (.t 18), none⟩])
     (.seq (.ops [⟨(some 19), .mov (.t 3), none⟩,
        ⟨(some 20), .mov (.t 5), none⟩,
        ⟨(some 21), .bin .add .no (.t 19) (.t 20), none⟩,
        ⟨(some 3), .mov (.t 21), none⟩])
     (.seq (.ops [⟨(some 22), .mov (.t 6), none⟩,
        ⟨(some 23), .un .not (.t 22), none⟩,
        ⟨(some 24), .mov (.t 23), none⟩,
        ⟨(some 25), .mov (.t 0), (some (24, false))⟩,
        ⟨(some 26), .mov (.t 3), (some (24, false))⟩,
        ⟨(some 27), .load (some 2) (.t 4), (some (24, false))⟩,
        ⟨(some 28), .callv (.t 25) [(.t 26), (.t 27)], (some (24, false))⟩,
        ⟨(some 29), .un .not (.t 28), (some (24, false))⟩,
        ⟨(some 30), .pick (.t 24) (.c (.bool true)) (.t 29), none⟩])
     (.cond (.t 30)
      (.ret)
      (.skip))))))
/-- purser/ops.operations$1 -/
def f_ops_operations_1 : Fn := ⟨31, [],
  .seq (.ops [⟨(some 3), .mov (.c (.int .i64 0)), none⟩])
  (.block 0 (.loop (L_ops_operations_1_0)))⟩
/-- bytes.Equal -/
def f_bytes_Equal : Fn := ⟨10, [.tmp 4],
  .seq (.ops [⟨(some 4), .mov (.c (.bool false)), none⟩])
  (.seq (.ops [⟨(some 5), .mov (.t 0), none⟩,
     ⟨(some 6), .b2s (.t 5), none⟩,
     ⟨(some 7), .mov (.t 1), none⟩,
     ⟨(some 8), .b2s (.t 7), none⟩,
     ⟨(some 9), .bin .eql .no (.t 6) (.t 8), none⟩,
     ⟨(some 4), .mov (.t 9), none⟩])
  (.ret))⟩
def L_ops_first_0 : C := .seq (.seq (.ops [⟨(some 22), .mov (.t 8), none⟩,
         ⟨(some 23), .bin .gtr .no (.t 22) (.c (.int .i64 0)), none⟩])
      (.cond (.t 23)
       (.skip)
       (.exit 0)))
     (.seq (.block 1 (.ops [⟨(some 26), .mov (.t 7), none⟩,
         ⟨(some 27), .bin .shl .no (.t 26) (.c (.int .u64 8)), none⟩,
         ⟨(some 28), .mov (.t 0), none⟩,
         ⟨(some 29), .mov (.t 8), none⟩,
         ⟨(some 30), .idxAddrS 1 (.t 28) (.t 29), none⟩,
         ⟨(some 31), .load none (.t 30), none⟩,
         ⟨(some 32), .conv .i64 (.t 31), none⟩,
         ⟨(some 33), .bin .or .no (.t 27) (.t 32), none⟩,
         ⟨(some 7), .mov (.t 33), none⟩]))
     (.ops [⟨(some 24), .mov (.t 8), none⟩,
       ⟨(some 25), .bin .sub .no (.t 24) (.c (.int .i64 1)), none⟩,
       ⟨(some 8), .mov (.t 25), none⟩]))
def R_ops_first_0 : C := .seq (.seq (.ops [⟨(some 34), .mov (.t 5), none⟩,
      ⟨(some 35), .bin .leq .no (.t 34) (.c (.int .u8 75)), none⟩])
   (.cond (.t 35)
    (.ops [⟨(some 36), .mov (.t 5), none⟩,
       ⟨(some 37), .conv .i64 (.t 36), none⟩,
       ⟨(some 7), .mov (.t 37), none⟩])
    (.skip)))
  (.seq (.ops [⟨(some 38), .mov (.t 6), none⟩,
     ⟨(some 39), .mov (.t 7), none⟩,
     ⟨(some 40), .bin .add .no (.t 38) (.t 39), none⟩,
     ⟨(some 3), .mov (.t 40), none⟩])
  (.seq (.seq (.ops [⟨(some 41), .mov (.t 0), none⟩,
      ⟨(some 42), .len false (.t 41), none⟩,
      ⟨(some 43), .mov (.t 3), none⟩,
      ⟨(some 44), .bin .lss .no (.t 42) (.t 43), none⟩])
   (.cond (.t 44)
    (.seq (.ops [⟨(some 45), .build [(.int .u8 0), (.slice none 0 (some 0) 0)] [], none⟩,
        ⟨none, .store 2 (.t 2) (.t 45), none⟩,
        ⟨(some 3), .mov (.c (.int .i64 0)), none⟩,
        ⟨(some 4), .mov (.c (.bool false)), none⟩])
     (.ret))
    (.skip)))
  (.seq (.ops [⟨(some 46), .mov (.t 5), none⟩,
     ⟨(some 47), .mov (.t 0), none⟩,
     ⟨(some 48), .mov (.t 6), none⟩,
     ⟨(some 49), .mov (.t 3), none⟩,
     ⟨(some 50), .slcS 1 (.t 47) (some (.t 48)) (some (.t 49)) none, none⟩,
     ⟨(some 51), .call k_bytes_Clone [(.t 50)], none⟩,
     ⟨(some 52), .build [(.int .u8 0), (.slice none 0 (some 0) 0)] [(0, 1, (.t 46)), (1, 1, (.t 51))], none⟩,
     ⟨(some 53), .mov (.t 3), none⟩,
     ⟨none, .store 2 (.t 2) (.t 52), none⟩,
     ⟨(some 3), .mov (.t 53), none⟩,
     ⟨(some 4), .mov (.c (.bool true)), none⟩])
  (.ret))))
/-- purser/ops.first -/
def f_ops_first : Fn := ⟨54, [.cell 2 (some 2), .tmp 3, .tmp 4],
  .seq (.ops [⟨(some 2), .alloc [(.int .u8 0), (.slice none 0 (some 0) 0)], none⟩,
     ⟨(some 3), .mov (.c (.int .i64 0)), none⟩,
     ⟨(some 4), .mov (.c (.bool false)), none⟩])
  (.seq (.ops [⟨(some 9), .mov (.t 0), none⟩,
     ⟨(some 10), .idxAddrS 1 (.t 9) (.c (.int .i64 0)), none⟩,
     ⟨(some 11), .load none (.t 10), none⟩,
     ⟨(some 5), .mov (.t 11), none⟩])
  (.seq (.ops [⟨(some 12), .mov (.t 5), none⟩,
     ⟨(some 13), .call k_ops_counted [(.t 12)], none⟩,
     ⟨(some 14), .bin .add .no (.c (.int .i64 1)) (.t 13), none⟩,
     ⟨(some 6), .mov (.t 14), none⟩])
  (.seq (.seq (.ops [⟨(some 15), .mov (.t 0), none⟩,
      ⟨(some 16), .len false (.t 15), none⟩,
      ⟨(some 17), .mov (.t 6), none⟩,
      ⟨(some 18), .bin .lss .no (.t 16) (.t 17), none⟩])
   (.cond (.t 18)
    (.seq (.ops [⟨(some 19), .build [(.int .u8 0), (.slice none 0 (some 0) 0)] [], none⟩,
        ⟨none, .store 2 (.t 2) (.t 19), none⟩,
        ⟨(some 3), .mov (.c (.int .i64 0)), none⟩,
        ⟨(some 4), .mov (.c (.bool false)), none⟩])
     (.ret))
    (.skip)))
  (.seq (.ops [⟨(some 7), .mov (.c (.int .i64 0)), none⟩])
  (.seq (.seq (.ops [⟨(some 20), .mov (.t 6), none⟩,
      ⟨(some 21), .bin .sub .no (.t 20) (.c (.int .i64 1)), none⟩,
      ⟨(some 8), .mov (.t 21), none⟩])
   (.block 0 (.loop (L_ops_first_0))))
  (R_ops_first_0))))))⟩

end Go.Eng
