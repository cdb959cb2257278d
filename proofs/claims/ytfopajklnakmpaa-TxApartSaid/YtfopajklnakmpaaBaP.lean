/- Functions of the program, as the evaluator takes them: printed by program. -/
import Derived.Test.YtfopajklnakmpaaBaF
namespace Go.Eng
open Go
/-- purser/purserlaw06.TxApart -/
abbrev k_purserlaw06_TxApart : Nat := 8
/-- purser/tx.Id -/
abbrev k_tx_Id : Nat := 29
/-- purser/tx.Copy -/
abbrev k_tx_Copy : Nat := 33
/-- slices.Clone[[]purser/api.In,purser/api.In] -/
abbrev k_slices_Clone_api_In_api_In : Nat := 78
/-- slices.Clone[[]purser/api.Out,purser/api.Out] -/
abbrev k_slices_Clone_api_Out_api_Out : Nat := 79
/-- bytes.Clone -/
abbrev k_bytes_Clone : Nat := 80
/-- purser/purserlaw06.TxApart -/
def f_purserlaw06_TxApart : Fn := ⟨144, [.tmp 6],
  .seq (.ops [⟨(some 3), .box (.t 0), none⟩,
     ⟨(some 4), .box (.t 1), none⟩,
     ⟨(some 6), .mov (.c (.bool false)), none⟩])
  (.seq (.ops [⟨(some 20), .call k_purserlaw06_alive [], none⟩,
     ⟨(some 7), .mov (.t 20), none⟩])
  (.seq (.seq (.ops [⟨(some 21), .load (some 4) (.t 3), none⟩,
      ⟨(some 22), .call k_purserref06_Great [(.t 21)], none⟩,
      ⟨(some 23), .bin .gtr .no (.t 22) (.c (.int .i64 0)), none⟩,
      ⟨(some 24), .mov (.t 23), none⟩,
      ⟨(some 25), .load (some 4) (.t 4), (some (24, false))⟩,
      ⟨(some 26), .call k_purserref06_Great [(.t 25)], (some (24, false))⟩,
      ⟨(some 27), .bin .gtr .no (.t 26) (.c (.int .i64 0)), (some (24, false))⟩,
      ⟨(some 28), .pick (.t 24) (.c (.bool true)) (.t 27), none⟩,
      ⟨(some 29), .mov (.t 28), none⟩,
      ⟨(some 30), .mov (.t 7), (some (29, false))⟩,
      ⟨(some 31), .un .not (.t 30), (some (29, false))⟩,
      ⟨(some 32), .pick (.t 29) (.c (.bool true)) (.t 31), none⟩])
   (.cond (.t 32)
    (.seq (.ops [⟨(some 33), .mov (.t 7), none⟩,
        ⟨(some 6), .mov (.t 33), none⟩])
     (.ret))
    (.skip)))
  (.seq (.ops [⟨(some 35), .load (some 4) (.t 3), none⟩,
     ⟨(some 36), .call k_tx_Encode [(.t 35)], none⟩,
     ⟨(some 34), .mov (.t 36), none⟩,
     ⟨(some 37), .ext (.t 34) 0, none⟩,
     ⟨(some 38), .ext (.t 34) 1, none⟩,
     ⟨(some 8), .mov (.t 37), none⟩,
     ⟨(some 9), .mov (.t 38), none⟩])
  (.seq (.ops [⟨(some 40), .load (some 4) (.t 4), none⟩,
     ⟨(some 41), .call k_tx_Encode [(.t 40)], none⟩,
     ⟨(some 39), .mov (.t 41), none⟩,
     ⟨(some 42), .ext (.t 39) 0, none⟩,
     ⟨(some 43), .ext (.t 39) 1, none⟩,
     ⟨(some 10), .mov (.t 42), none⟩,
     ⟨(some 11), .mov (.t 43), none⟩])
  (.seq (.ops [⟨(some 45), .load (some 4) (.t 3), none⟩,
     ⟨(some 46), .call k_tx_Id [(.t 45)], none⟩,
     ⟨(some 44), .mov (.t 46), none⟩,
     ⟨(some 47), .ext (.t 44) 0, none⟩,
     ⟨(some 48), .ext (.t 44) 1, none⟩,
     ⟨(some 12), .alloc [(.int .u8 0), (.int .u8 0), (.int .u8 0), (.int .u8 0), (.int .u8 0), (.int .u8 0), (.int .u8 0), (.int .u8 0), (.int .u8 0), (.int .u8 0), (.int .u8 0), (.int .u8 0), (.int .u8 0), (.int .u8 0), (.int .u8 0), (.int .u8 0), (.int .u8 0), (.int .u8 0), (.int .u8 0), (.int .u8 0), (.int .u8 0), (.int .u8 0), (.int .u8 0), (.int .u8 0), (.int .u8 0), (.int .u8 0), (.int .u8 0), (.int .u8 0), (.int .u8 0), (.int .u8 0), (.int .u8 0), (.int .u8 0)], none⟩,
     ⟨none, .store 32 (.t 12) (.t 47), none⟩,
     ⟨(some 13), .mov (.t 48), none⟩])
  (.seq (.seq (.ops [⟨(some 49), .mov (.t 9), none⟩,
      ⟨(some 50), .bin .neq .no (.t 49) (.c (.int .i64 0)), none⟩,
      ⟨(some 51), .mov (.t 50), none⟩,
      ⟨(some 52), .mov (.t 11), (some (51, false))⟩,
      ⟨(some 53), .bin .neq .no (.t 52) (.c (.int .i64 0)), (some (51, false))⟩,
      ⟨(some 54), .pick (.t 51) (.c (.bool true)) (.t 53), none⟩])
   (.cond (.t 54)
    (.seq (.ops [⟨(some 55), .mov (.t 7), none⟩,
        ⟨(some 6), .mov (.t 55), none⟩])
     (.ret))
    (.skip)))
  (.seq (.seq (.dops 0 [] [(⟨(some 56), .mov (.t 13), none⟩, .L),
      (⟨(some 57), .bin .neq .no (.t 56) (.c (.int .i64 0)), none⟩, .L),
      (⟨(some 58), .mov (.t 57), none⟩, .L),
      (⟨(some 59), .load (some 32) (.t 12), (some (58, false))⟩, .R [] [(1, [])]),
      (⟨(some 60), .mov (.t 8), (some (58, false))⟩, .L),
      (⟨(some 61), .call k_sha_Twice [(.t 60)], (some (58, false))⟩, .B []),
      (⟨(some 62), .bin .neq (.flat [.i, .i, .i, .i, .i, .i, .i, .i, .i, .i, .i, .i, .i, .i, .i, .i, .i, .i, .i, .i, .i, .i, .i, .i, .i, .i, .i, .i, .i, .i, .i, .i]) (.t 59) (.t 61), (some (58, false))⟩, .L),
      (⟨(some 63), .pick (.t 58) (.c (.bool true)) (.t 62), none⟩, .L),
      (⟨(some 64), .mov (.t 63), none⟩, .L),
      (⟨(some 65), .mov (.t 8), (some (64, false))⟩, .L),
      (⟨(some 66), .b2s (.t 65), (some (64, false))⟩, .R [] [(0, [])]),
      (⟨(some 67), .mov (.t 10), (some (64, false))⟩, .L),
      (⟨(some 68), .b2s (.t 67), (some (64, false))⟩, .R [] [(0, [])]),
      (⟨(some 69), .bin .eql .no (.t 66) (.t 68), (some (64, false))⟩, .L),
      (⟨(some 70), .load (some 4) (.t 3), (some (64, false))⟩, .R [] []),
      (⟨(some 71), .load (some 4) (.t 4), (some (64, false))⟩, .R [] []),
      (⟨(some 72), .call k_tx_Same [(.t 70), (.t 71)], (some (64, false))⟩, .B []),
      (⟨(some 73), .bin .neq .bool (.t 69) (.t 72), (some (64, false))⟩, .L),
      (⟨(some 74), .pick (.t 64) (.c (.bool true)) (.t 73), none⟩, .L)])
   (.cond (.t 74)
    (.seq (.ops [⟨(some 6), .mov (.c (.bool false)), none⟩])
     (.ret))
    (.skip)))
  (.seq (.ops [⟨(some 75), .load (some 4) (.t 3), none⟩,
     ⟨(some 76), .call k_tx_Copy [(.t 75)], none⟩,
     ⟨(some 14), .alloc [(.int .u32 0), (.slice none 0 (some 0) 0), (.slice none 0 (some 0) 0), (.int .u32 0)], none⟩,
     ⟨none, .store 4 (.t 14) (.t 76), none⟩])
  (.seq (.ops [⟨(some 77), .fieldAddr 3 (.t 14), none⟩,
     ⟨(some 78), .load none (.t 77), none⟩,
     ⟨(some 79), .mov (.t 2), none⟩,
     ⟨(some 80), .bin .add .no (.t 78) (.t 79), none⟩,
     ⟨(some 81), .fieldAddr 3 (.t 14), none⟩,
     ⟨none, .store 1 (.t 81) (.t 80), none⟩])
  (.seq (.ops [⟨(some 82), .load (some 4) (.t 3), none⟩,
     ⟨(some 83), .call k_tx_Copy [(.t 82)], none⟩,
     ⟨(some 15), .alloc [(.int .u32 0), (.slice none 0 (some 0) 0), (.slice none 0 (some 0) 0), (.int .u32 0)], none⟩,
     ⟨none, .store 4 (.t 15) (.t 83), none⟩])
  (.seq (.dops 0 [] [(⟨(some 84), .fieldAddr 1 (.t 15), none⟩, .L),
     (⟨(some 85), .load none (.t 84), none⟩, .R [] []),
     (⟨(some 86), .fieldAddr 1 (.t 15), none⟩, .L),
     (⟨(some 87), .load none (.t 86), none⟩, .R [] []),
     (⟨(some 88), .idxAddrS 35 (.t 87) (.c (.int .i64 0)), none⟩, .L),
     (⟨(some 89), .fieldAddr 0 (.t 88), none⟩, .L),
     (⟨(some 90), .fieldAddr 32 (.t 89), none⟩, .L),
     (⟨(some 91), .load none (.t 90), none⟩, .R [] []),
     (⟨(some 92), .mov (.t 2), none⟩, .L),
     (⟨(some 93), .bin .add .no (.t 91) (.t 92), none⟩, .L),
     (⟨(some 94), .idxAddrS 35 (.t 85) (.c (.int .i64 0)), none⟩, .L),
     (⟨(some 95), .fieldAddr 0 (.t 94), none⟩, .L),
     (⟨(some 96), .fieldAddr 32 (.t 95), none⟩, .L),
     (⟨none, .store 1 (.t 96) (.t 93), none⟩, .B [])])
  (.seq (.ops [⟨(some 98), .load (some 4) (.t 14), none⟩,
     ⟨(some 99), .call k_tx_Encode [(.t 98)], none⟩,
     ⟨(some 97), .mov (.t 99), none⟩,
     ⟨(some 100), .ext (.t 97) 0, none⟩,
     ⟨(some 101), .ext (.t 97) 1, none⟩,
     ⟨(some 16), .mov (.t 100), none⟩,
     ⟨(some 17), .mov (.t 101), none⟩])
  (.seq (.ops [⟨(some 103), .load (some 4) (.t 15), none⟩,
     ⟨(some 104), .call k_tx_Encode [(.t 103)], none⟩,
     ⟨(some 102), .mov (.t 104), none⟩,
     ⟨(some 105), .ext (.t 102) 0, none⟩,
     ⟨(some 106), .ext (.t 102) 1, none⟩,
     ⟨(some 18), .mov (.t 105), none⟩,
     ⟨(some 19), .mov (.t 106), none⟩])
  (.seq (.ops [⟨(some 107), .mov (.t 7), none⟩,
     ⟨(some 108), .mov (.t 107), none⟩,
     ⟨(some 109), .mov (.t 17), (some (108, true))⟩,
     ⟨(some 110), .bin .eql .no (.t 109) (.c (.int .i64 0)), (some (108, true))⟩,
     ⟨(some 111), .pick (.t 108) (.t 110) (.c (.bool false)), none⟩,
     ⟨(some 112), .mov (.t 111), none⟩,
     ⟨(some 113), .mov (.t 19), (some (112, true))⟩,
     ⟨(some 114), .bin .eql .no (.t 113) (.c (.int .i64 0)), (some (112, true))⟩,
     ⟨(some 115), .pick (.t 112) (.t 114) (.c (.bool false)), none⟩,
     ⟨(some 116), .mov (.t 115), none⟩,
     ⟨(some 117), .mov (.t 16), (some (116, true))⟩,
     ⟨(some 118), .b2s (.t 117), (some (116, true))⟩,
     ⟨(some 119), .mov (.t 8), (some (116, true))⟩,
     ⟨(some 120), .b2s (.t 119), (some (116, true))⟩,
     ⟨(some 121), .bin .eql .no (.t 118) (.t 120), (some (116, true))⟩,
     ⟨(some 122), .mov (.t 2), (some (116, true))⟩,
     ⟨(some 123), .bin .eql .no (.t 122) (.c (.int .u32 0)), (some (116, true))⟩,
     ⟨(some 124), .bin .eql .bool (.t 121) (.t 123), (some (116, true))⟩,
     ⟨(some 125), .pick (.t 116) (.t 124) (.c (.bool false)), none⟩,
     ⟨(some 126), .mov (.t 125), none⟩,
     ⟨(some 127), .mov (.t 18), (some (126, true))⟩,
     ⟨(some 128), .b2s (.t 127), (some (126, true))⟩,
     ⟨(some 129), .mov (.t 8), (some (126, true))⟩,
     ⟨(some 130), .b2s (.t 129), (some (126, true))⟩,
     ⟨(some 131), .bin .eql .no (.t 128) (.t 130), (some (126, true))⟩,
     ⟨(some 132), .mov (.t 2), (some (126, true))⟩,
     ⟨(some 133), .bin .eql .no (.t 132) (.c (.int .u32 0)), (some (126, true))⟩,
     ⟨(some 134), .bin .eql .bool (.t 131) (.t 133), (some (126, true))⟩,
     ⟨(some 135), .pick (.t 126) (.t 134) (.c (.bool false)), none⟩,
     ⟨(some 136), .mov (.t 135), none⟩,
     ⟨(some 137), .load (some 4) (.t 14), (some (136, true))⟩,
     ⟨(some 138), .load (some 4) (.t 3), (some (136, true))⟩,
     ⟨(some 139), .call k_tx_Same [(.t 137), (.t 138)], (some (136, true))⟩,
     ⟨(some 140), .mov (.t 2), (some (136, true))⟩,
     ⟨(some 141), .bin .eql .no (.t 140) (.c (.int .u32 0)), (some (136, true))⟩,
     ⟨(some 142), .bin .eql .bool (.t 139) (.t 141), (some (136, true))⟩,
     ⟨(some 143), .pick (.t 136) (.t 142) (.c (.bool false)), none⟩,
     ⟨(some 6), .mov (.t 143), none⟩])
  (.ret)))))))))))))))⟩
/-- purser/tx.Id -/
def f_tx_Id : Fn := ⟨17, [.cell 2 (some 32), .tmp 3],
  .seq (.ops [⟨(some 1), .box (.t 0), none⟩,
     ⟨(some 2), .alloc [(.int .u8 0), (.int .u8 0), (.int .u8 0), (.int .u8 0), (.int .u8 0), (.int .u8 0), (.int .u8 0), (.int .u8 0), (.int .u8 0), (.int .u8 0), (.int .u8 0), (.int .u8 0), (.int .u8 0), (.int .u8 0), (.int .u8 0), (.int .u8 0), (.int .u8 0), (.int .u8 0), (.int .u8 0), (.int .u8 0), (.int .u8 0), (.int .u8 0), (.int .u8 0), (.int .u8 0), (.int .u8 0), (.int .u8 0), (.int .u8 0), (.int .u8 0), (.int .u8 0), (.int .u8 0), (.int .u8 0), (.int .u8 0)], none⟩,
     ⟨(some 3), .mov (.c (.int .i64 0)), none⟩])
  (.seq (.ops [⟨(some 7), .load (some 4) (.t 1), none⟩,
     ⟨(some 8), .call k_tx_Encode [(.t 7)], none⟩,
     ⟨(some 6), .mov (.t 8), none⟩,
     ⟨(some 9), .ext (.t 6) 0, none⟩,
     ⟨(some 10), .ext (.t 6) 1, none⟩,
     ⟨(some 4), .mov (.t 9), none⟩,
     ⟨(some 5), .mov (.t 10), none⟩])
  (.seq (.seq (.ops [⟨(some 11), .mov (.t 5), none⟩,
      ⟨(some 12), .bin .neq .no (.t 11) (.c (.int .i64 0)), none⟩])
   (.cond (.t 12)
    (.seq (.ops [⟨(some 13), .build [(.int .u8 0), (.int .u8 0), (.int .u8 0), (.int .u8 0), (.int .u8 0), (.int .u8 0), (.int .u8 0), (.int .u8 0), (.int .u8 0), (.int .u8 0), (.int .u8 0), (.int .u8 0), (.int .u8 0), (.int .u8 0), (.int .u8 0), (.int .u8 0), (.int .u8 0), (.int .u8 0), (.int .u8 0), (.int .u8 0), (.int .u8 0), (.int .u8 0), (.int .u8 0), (.int .u8 0), (.int .u8 0), (.int .u8 0), (.int .u8 0), (.int .u8 0), (.int .u8 0), (.int .u8 0), (.int .u8 0), (.int .u8 0)] [], none⟩,
        ⟨(some 14), .mov (.t 5), none⟩,
        ⟨none, .store 32 (.t 2) (.t 13), none⟩,
        ⟨(some 3), .mov (.t 14), none⟩])
     (.ret))
    (.skip)))
  (.seq (.ops [⟨(some 15), .mov (.t 4), none⟩,
     ⟨(some 16), .call k_sha_Twice [(.t 15)], none⟩,
     ⟨none, .store 32 (.t 2) (.t 16), none⟩,
     ⟨(some 3), .mov (.c (.int .i64 0)), none⟩])
  (.ret))))⟩
def L_tx_Copy_0 : C := .seq (.ops [⟨(some 17), .bin .lss .no (.t 16) (.t 15), none⟩])
     (.seq (.cond (.t 17)
       (.skip)
       (.exit 0))
     (.seq (.block 1 (.seq (.ops [⟨(some 18), .mov (.t 16), none⟩,
          ⟨(some 3), .mov (.t 18), none⟩])
       (.dops 0 [] [(⟨(some 19), .fieldAddr 1 (.t 1), none⟩, .L),
         (⟨(some 20), .load none (.t 19), none⟩, .R [] [(1, [])]),
         (⟨(some 21), .mov (.t 3), none⟩, .L),
         (⟨(some 22), .fieldAddr 1 (.t 1), none⟩, .L),
         (⟨(some 23), .load none (.t 22), none⟩, .R [] []),
         (⟨(some 24), .mov (.t 3), none⟩, .L),
         (⟨(some 25), .idxAddrS 35 (.t 23) (.t 24), none⟩, .L),
         (⟨(some 26), .fieldAddr 33 (.t 25), none⟩, .L),
         (⟨(some 27), .load none (.t 26), none⟩, .R [] []),
         (⟨(some 28), .call k_bytes_Clone [(.t 27)], none⟩, .B []),
         (⟨(some 29), .idxAddrS 35 (.t 20) (.t 21), none⟩, .L),
         (⟨(some 30), .fieldAddr 33 (.t 29), none⟩, .L),
         (⟨none, .store 1 (.t 30) (.t 28), none⟩, .B [])])))
     (.ops [⟨(some 31), .bin .add .no (.t 16) (.c (.int .i64 1)), none⟩,
       ⟨(some 16), .mov (.t 31), none⟩])))
def L_tx_Copy_1 : C := .seq (.ops [⟨(some 36), .bin .lss .no (.t 35) (.t 34), none⟩])
     (.seq (.cond (.t 36)
       (.skip)
       (.exit 2))
     (.seq (.block 3 (.seq (.ops [⟨(some 37), .mov (.t 35), none⟩,
          ⟨(some 4), .mov (.t 37), none⟩])
       (.dops 0 [] [(⟨(some 38), .fieldAddr 2 (.t 1), none⟩, .L),
         (⟨(some 39), .load none (.t 38), none⟩, .R [] [(1, [])]),
         (⟨(some 40), .mov (.t 4), none⟩, .L),
         (⟨(some 41), .fieldAddr 2 (.t 1), none⟩, .L),
         (⟨(some 42), .load none (.t 41), none⟩, .R [] []),
         (⟨(some 43), .mov (.t 4), none⟩, .L),
         (⟨(some 44), .idxAddrS 2 (.t 42) (.t 43), none⟩, .L),
         (⟨(some 45), .fieldAddr 1 (.t 44), none⟩, .L),
         (⟨(some 46), .load none (.t 45), none⟩, .R [] []),
         (⟨(some 47), .call k_bytes_Clone [(.t 46)], none⟩, .B []),
         (⟨(some 48), .idxAddrS 2 (.t 39) (.t 40), none⟩, .L),
         (⟨(some 49), .fieldAddr 1 (.t 48), none⟩, .L),
         (⟨none, .store 1 (.t 49) (.t 47), none⟩, .B [])])))
     (.ops [⟨(some 50), .bin .add .no (.t 35) (.c (.int .i64 1)), none⟩,
       ⟨(some 35), .mov (.t 50), none⟩])))
def R_tx_Copy_0 : C := .seq (.ops [⟨(some 51), .load (some 4) (.t 1), none⟩,
     ⟨none, .store 4 (.t 2) (.t 51), none⟩])
  (.ret)
def R_tx_Copy_1 : C := .seq (.seq (.ops [⟨(some 32), .fieldAddr 2 (.t 1), none⟩,
      ⟨(some 33), .load none (.t 32), none⟩,
      ⟨(some 34), .len false (.t 33), none⟩,
      ⟨(some 35), .mov (.c (.int .i64 0)), none⟩])
   (.block 2 (.loop (L_tx_Copy_1))))
  (R_tx_Copy_0)
/-- purser/tx.Copy -/
def f_tx_Copy : Fn := ⟨52, [.cell 2 (some 4)],
  .seq (.ops [⟨(some 1), .box (.t 0), none⟩,
     ⟨(some 2), .alloc [(.int .u32 0), (.slice none 0 (some 0) 0), (.slice none 0 (some 0) 0), (.int .u32 0)], none⟩])
  (.seq (.dops 0 [] [(⟨(some 5), .fieldAddr 1 (.t 1), none⟩, .L),
     (⟨(some 6), .load none (.t 5), none⟩, .R [] []),
     (⟨(some 7), .call k_slices_Clone_api_In_api_In [(.t 6)], none⟩, .B []),
     (⟨(some 8), .fieldAddr 2 (.t 1), none⟩, .L),
     (⟨(some 9), .load none (.t 8), none⟩, .R [] [(4, [])]),
     (⟨(some 10), .call k_slices_Clone_api_Out_api_Out [(.t 9)], none⟩, .B []),
     (⟨(some 11), .fieldAddr 1 (.t 1), none⟩, .L),
     (⟨none, .store 1 (.t 11) (.t 7), none⟩, .B []),
     (⟨(some 12), .fieldAddr 2 (.t 1), none⟩, .L),
     (⟨none, .store 1 (.t 12) (.t 10), none⟩, .B [])])
  (.seq (.seq (.ops [⟨(some 13), .fieldAddr 1 (.t 1), none⟩,
      ⟨(some 14), .load none (.t 13), none⟩,
      ⟨(some 15), .len false (.t 14), none⟩,
      ⟨(some 16), .mov (.c (.int .i64 0)), none⟩])
   (.block 0 (.loop (L_tx_Copy_0))))
  (R_tx_Copy_1)))⟩
/-- slices.Clone[[]purser/api.In,purser/api.In] -/
def f_slices_Clone_api_In_api_In : Fn := ⟨8, [.tmp 2],
  .seq (.ops [⟨(some 2), .mov (.c (.slice none 0 (some 0) 0)), none⟩])
  (.seq (.seq (.ops [⟨(some 3), .mov (.t 0), none⟩,
      ⟨(some 4), .bin .eql (.ref .s) (.t 3) (.c (.slice none 0 (some 0) 0)), none⟩])
   (.cond (.t 4)
    (.seq (.ops [⟨(some 2), .mov (.c (.slice none 0 (some 0) 0)), none⟩])
     (.ret))
    (.skip)))
  (.seq (.ops [⟨(some 5), .buildS [] 0 35 [], none⟩,
     ⟨(some 6), .mov (.t 0), none⟩,
     ⟨(some 7), .append 35 72 (.t 5) (.t 6), none⟩,
     ⟨(some 2), .mov (.t 7), none⟩])
  (.ret)))⟩
/-- slices.Clone[[]purser/api.Out,purser/api.Out] -/
def f_slices_Clone_api_Out_api_Out : Fn := ⟨8, [.tmp 2],
  .seq (.ops [⟨(some 2), .mov (.c (.slice none 0 (some 0) 0)), none⟩])
  (.seq (.seq (.ops [⟨(some 3), .mov (.t 0), none⟩,
      ⟨(some 4), .bin .eql (.ref .s) (.t 3) (.c (.slice none 0 (some 0) 0)), none⟩])
   (.cond (.t 4)
    (.seq (.ops [⟨(some 2), .mov (.c (.slice none 0 (some 0) 0)), none⟩])
     (.ret))
    (.skip)))
  (.seq (.ops [⟨(some 5), .buildS [] 0 2 [], none⟩,
     ⟨(some 6), .mov (.t 0), none⟩,
     ⟨(some 7), .append 2 32 (.t 5) (.t 6), none⟩,
     ⟨(some 2), .mov (.t 7), none⟩])
  (.ret)))⟩
/-- bytes.Clone -/
def f_bytes_Clone : Fn := ⟨8, [.tmp 2],
  .seq (.ops [⟨(some 2), .mov (.c (.slice none 0 (some 0) 0)), none⟩])
  (.seq (.seq (.ops [⟨(some 3), .mov (.t 0), none⟩,
      ⟨(some 4), .bin .eql (.ref .s) (.t 3) (.c (.slice none 0 (some 0) 0)), none⟩])
   (.cond (.t 4)
    (.seq (.ops [⟨(some 2), .mov (.c (.slice none 0 (some 0) 0)), none⟩])
     (.ret))
    (.skip)))
  (.seq (.ops [⟨(some 5), .buildS [] 0 1 [], none⟩,
     ⟨(some 6), .mov (.t 0), none⟩,
     ⟨(some 7), .append 1 1 (.t 5) (.t 6), none⟩,
     ⟨(some 2), .mov (.t 7), none⟩])
  (.ret)))⟩

end Go.Eng
