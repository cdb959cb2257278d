/- Functions of the program, as the evaluator takes them: printed by program. -/
import Derived.Test.YtpmbepldakjkkaaWdF
namespace Go.Eng
open Go
/-- purser/purserlaw05.TargetWork -/
abbrev k_purserlaw05_TargetWork : Nat := 4
/-- purser/purserlaw05.alive -/
abbrev k_purserlaw05_alive : Nat := 6
/-- purser/target.Work -/
abbrev k_target_Work : Nat := 13
/-- purser/purserlaw05.times -/
abbrev k_purserlaw05_times : Nat := 17
/-- purser/purserlaw05.is -/
abbrev k_purserlaw05_is : Nat := 18
/-- purser/target.Compact -/
abbrev k_target_Compact : Nat := 7
/-- purser/target.Expand -/
abbrev k_target_Expand : Nat := 8
/-- purser/target.leading -/
abbrev k_target_leading : Nat := 19
/-- purser/target.highFirst -/
abbrev k_target_highFirst : Nat := 28
/-- purser/target.highFirst$1 -/
abbrev k_target_highFirst_1 : Nat := 32
/-- purser/wide.Bytes -/
abbrev k_wide_Bytes : Nat := 33
/-- purser/purserlaw05.TargetWork -/
def f_purserlaw05_TargetWork : Fn := ⟨140, [.tmp 4],
  .seq (.ops [⟨(some 2), .box (.t 0), none⟩,
     ⟨(some 3), .box (.t 1), none⟩,
     ⟨(some 4), .mov (.c (.bool false)), none⟩])
  (.seq (.ops [⟨(some 16), .call k_purserlaw05_alive [], none⟩,
     ⟨(some 5), .mov (.t 16), none⟩])
  (.seq (.ops [⟨(some 18), .load (some 4) (.t 2), none⟩,
     ⟨(some 19), .call k_target_Work [(.t 18)], none⟩,
     ⟨(some 17), .mov (.t 19), none⟩,
     ⟨(some 20), .ext (.t 17) 0, none⟩,
     ⟨(some 21), .ext (.t 17) 1, none⟩,
     ⟨(some 6), .alloc [(.int .u64 0), (.int .u64 0), (.int .u64 0), (.int .u64 0)], none⟩,
     ⟨none, .store 4 (.t 6) (.t 20), none⟩,
     ⟨(some 7), .mov (.t 21), none⟩])
  (.seq (.ops [⟨(some 23), .load (some 4) (.t 3), none⟩,
     ⟨(some 24), .call k_target_Work [(.t 23)], none⟩,
     ⟨(some 22), .mov (.t 24), none⟩,
     ⟨(some 25), .ext (.t 22) 0, none⟩,
     ⟨(some 26), .ext (.t 22) 1, none⟩,
     ⟨(some 8), .alloc [(.int .u64 0), (.int .u64 0), (.int .u64 0), (.int .u64 0)], none⟩,
     ⟨none, .store 4 (.t 8) (.t 25), none⟩,
     ⟨(some 9), .mov (.t 26), none⟩])
  (.seq (.seq (.ops [⟨(some 27), .mov (.t 7), none⟩,
      ⟨(some 28), .bin .neq .no (.t 27) (.c (.int .i64 0)), none⟩,
      ⟨(some 29), .mov (.t 28), none⟩,
      ⟨(some 30), .mov (.t 9), (some (29, false))⟩,
      ⟨(some 31), .bin .neq .no (.t 30) (.c (.int .i64 0)), (some (29, false))⟩,
      ⟨(some 32), .pick (.t 29) (.c (.bool true)) (.t 31), none⟩,
      ⟨(some 33), .mov (.t 32), none⟩,
      ⟨(some 34), .mov (.t 5), (some (33, false))⟩,
      ⟨(some 35), .un .not (.t 34), (some (33, false))⟩,
      ⟨(some 36), .pick (.t 33) (.c (.bool true)) (.t 35), none⟩])
   (.cond (.t 36)
    (.seq (.ops [⟨(some 37), .mov (.t 5), none⟩,
        ⟨(some 38), .mov (.t 37), none⟩,
        ⟨(some 39), .mov (.t 7), (some (38, true))⟩,
        ⟨(some 40), .bin .eql .no (.t 39) (.c (.int .i64 0)), (some (38, true))⟩,
        ⟨(some 41), .load (some 4) (.t 2), (some (38, true))⟩,
        ⟨(some 42), .build [(.int .u64 0), (.int .u64 0), (.int .u64 0), (.int .u64 0)] [], (some (38, true))⟩,
        ⟨(some 43), .bin .neq (.flat [.i, .i, .i, .i]) (.t 41) (.t 42), (some (38, true))⟩,
        ⟨(some 44), .bin .eql .bool (.t 40) (.t 43), (some (38, true))⟩,
        ⟨(some 45), .pick (.t 38) (.t 44) (.c (.bool false)), none⟩,
        ⟨(some 46), .mov (.t 45), none⟩,
        ⟨(some 47), .mov (.t 9), (some (46, true))⟩,
        ⟨(some 48), .bin .eql .no (.t 47) (.c (.int .i64 0)), (some (46, true))⟩,
        ⟨(some 49), .load (some 4) (.t 3), (some (46, true))⟩,
        ⟨(some 50), .build [(.int .u64 0), (.int .u64 0), (.int .u64 0), (.int .u64 0)] [], (some (46, true))⟩,
        ⟨(some 51), .bin .neq (.flat [.i, .i, .i, .i]) (.t 49) (.t 50), (some (46, true))⟩,
        ⟨(some 52), .bin .eql .bool (.t 48) (.t 51), (some (46, true))⟩,
        ⟨(some 53), .pick (.t 46) (.t 52) (.c (.bool false)), none⟩,
        ⟨(some 4), .mov (.t 53), none⟩])
     (.ret))
    (.skip)))
  (.seq (.seq (.ops [⟨(some 54), .load (some 4) (.t 2), none⟩,
      ⟨(some 55), .load (some 4) (.t 3), none⟩,
      ⟨(some 56), .call k_wide_Compare [(.t 54), (.t 55)], none⟩,
      ⟨(some 57), .bin .leq .no (.t 56) (.c (.int .i64 0)), none⟩,
      ⟨(some 58), .mov (.t 57), none⟩,
      ⟨(some 59), .load (some 4) (.t 6), (some (58, true))⟩,
      ⟨(some 60), .load (some 4) (.t 8), (some (58, true))⟩,
      ⟨(some 61), .call k_wide_Compare [(.t 59), (.t 60)], (some (58, true))⟩,
      ⟨(some 62), .bin .lss .no (.t 61) (.c (.int .i64 0)), (some (58, true))⟩,
      ⟨(some 63), .pick (.t 58) (.t 62) (.c (.bool false)), none⟩,
      ⟨(some 64), .mov (.t 63), none⟩,
      ⟨(some 65), .load (some 4) (.t 2), (some (64, false))⟩,
      ⟨(some 66), .load (some 4) (.t 3), (some (64, false))⟩,
      ⟨(some 67), .call k_wide_Compare [(.t 65), (.t 66)], (some (64, false))⟩,
      ⟨(some 68), .bin .geq .no (.t 67) (.c (.int .i64 0)), (some (64, false))⟩,
      ⟨(some 69), .mov (.t 68), (some (64, false))⟩,
      ⟨(some 70), .load (some 4) (.t 6), (some (69, true))⟩,
      ⟨(some 71), .load (some 4) (.t 8), (some (69, true))⟩,
      ⟨(some 72), .call k_wide_Compare [(.t 70), (.t 71)], (some (69, true))⟩,
      ⟨(some 73), .bin .gtr .no (.t 72) (.c (.int .i64 0)), (some (69, true))⟩,
      ⟨(some 74), .pick (.t 69) (.t 73) (.c (.bool false)), (some (64, false))⟩,
      ⟨(some 75), .pick (.t 64) (.c (.bool true)) (.t 74), none⟩])
   (.cond (.t 75)
    (.seq (.ops [⟨(some 4), .mov (.c (.bool false)), none⟩])
     (.ret))
    (.skip)))
  (.seq (.dops 1 [] [(⟨(some 77), .load (some 4) (.t 2), none⟩, .R [] [(2, [])]),
     (⟨(some 78), .call k_wide_Of [(.c (.int .u64 1))], none⟩, .B []),
     (⟨(some 79), .call k_wide_Add [(.t 77), (.t 78)], none⟩, .B []),
     (⟨(some 76), .mov (.t 79), none⟩, .L),
     (⟨(some 80), .ext (.t 76) 0, none⟩, .L),
     (⟨(some 81), .ext (.t 76) 1, none⟩, .L),
     (⟨(some 10), .alloc [(.int .u64 0), (.int .u64 0), (.int .u64 0), (.int .u64 0)], none⟩, .Al 0),
     (⟨none, .store 4 (.t 10) (.t 80), none⟩, .B [0]),
     (⟨(some 11), .mov (.t 81), none⟩, .L)])
  (.seq (.seq (.ops [⟨(some 82), .mov (.t 11), none⟩])
   (.cond (.t 82)
    (.seq (.dops 0 [] [(⟨(some 83), .mov (.t 5), none⟩, .L),
        (⟨(some 84), .mov (.t 83), none⟩, .L),
        (⟨(some 85), .load (some 4) (.t 6), (some (84, true))⟩, .R [] [(0, [])]),
        (⟨(some 86), .call k_wide_Of [(.c (.int .u64 1))], (some (84, true))⟩, .B []),
        (⟨(some 87), .bin .eql (.flat [.i, .i, .i, .i]) (.t 85) (.t 86), (some (84, true))⟩, .L),
        (⟨(some 88), .pick (.t 84) (.t 87) (.c (.bool false)), none⟩, .L),
        (⟨(some 4), .mov (.t 88), none⟩, .L)])
     (.ret))
    (.skip)))
  (.seq (.ops [⟨(some 90), .load (some 4) (.t 6), none⟩,
     ⟨(some 91), .load (some 4) (.t 10), none⟩,
     ⟨(some 92), .call k_wide_Mul [(.t 90), (.t 91)], none⟩,
     ⟨(some 89), .mov (.t 92), none⟩,
     ⟨(some 93), .ext (.t 89) 0, none⟩,
     ⟨(some 94), .ext (.t 89) 1, none⟩,
     ⟨(some 12), .alloc [(.int .u64 0), (.int .u64 0), (.int .u64 0), (.int .u64 0)], none⟩,
     ⟨(some 13), .alloc [(.int .u64 0), (.int .u64 0), (.int .u64 0), (.int .u64 0)], none⟩,
     ⟨none, .store 4 (.t 12) (.t 93), none⟩,
     ⟨none, .store 4 (.t 13) (.t 94), none⟩])
  (.seq (.dops 0 [] [(⟨(some 95), .load (some 4) (.t 13), none⟩, .R [] []),
     (⟨(some 96), .build [(.int .u64 0), (.int .u64 0), (.int .u64 0), (.int .u64 0)] [], none⟩, .L),
     (⟨(some 97), .bin .eql (.flat [.i, .i, .i, .i]) (.t 95) (.t 96), none⟩, .L),
     (⟨(some 98), .mov (.t 97), none⟩, .L),
     (⟨(some 99), .load (some 4) (.t 13), (some (98, false))⟩, .R [] [(0, [])]),
     (⟨(some 100), .call k_wide_Of [(.c (.int .u64 1))], (some (98, false))⟩, .B []),
     (⟨(some 101), .bin .eql (.flat [.i, .i, .i, .i]) (.t 99) (.t 100), (some (98, false))⟩, .L),
     (⟨(some 102), .mov (.t 101), (some (98, false))⟩, .L),
     (⟨(some 103), .load (some 4) (.t 12), (some (102, true))⟩, .R [] []),
     (⟨(some 104), .build [(.int .u64 0), (.int .u64 0), (.int .u64 0), (.int .u64 0)] [], (some (102, true))⟩, .L),
     (⟨(some 105), .bin .eql (.flat [.i, .i, .i, .i]) (.t 103) (.t 104), (some (102, true))⟩, .L),
     (⟨(some 106), .pick (.t 102) (.t 105) (.c (.bool false)), (some (98, false))⟩, .L),
     (⟨(some 107), .pick (.t 98) (.c (.bool true)) (.t 106), none⟩, .L),
     (⟨(some 14), .mov (.t 107), none⟩, .L)])
  (.seq (.ops [⟨(some 109), .load (some 4) (.t 12), none⟩,
     ⟨(some 110), .load (some 4) (.t 10), none⟩,
     ⟨(some 111), .call k_wide_Add [(.t 109), (.t 110)], none⟩,
     ⟨(some 108), .mov (.t 111), none⟩,
     ⟨(some 112), .ext (.t 108) 0, none⟩,
     ⟨(some 113), .ext (.t 108) 1, none⟩,
     ⟨none, .store 4 (.t 12) (.t 112), none⟩,
     ⟨(some 15), .mov (.t 113), none⟩])
  (.seq (.seq (.ops [⟨(some 114), .mov (.t 15), none⟩])
   (.cond (.t 114)
    (.dops 0 [] [(⟨(some 116), .load (some 4) (.t 13), none⟩, .R [] [(2, [])]),
       (⟨(some 117), .call k_wide_Of [(.c (.int .u64 1))], none⟩, .B []),
       (⟨(some 118), .call k_wide_Add [(.t 116), (.t 117)], none⟩, .B []),
       (⟨(some 115), .mov (.t 118), none⟩, .L),
       (⟨(some 119), .ext (.t 115) 0, none⟩, .L),
       (⟨(some 120), .ext (.t 115) 1, none⟩, .L),
       (⟨none, .store 4 (.t 13) (.t 119), none⟩, .B [])])
    (.skip)))
  (.seq (.dops 0 [] [(⟨(some 121), .mov (.t 5), none⟩, .L),
     (⟨(some 122), .mov (.t 121), none⟩, .L),
     (⟨(some 123), .mov (.t 14), (some (122, true))⟩, .L),
     (⟨(some 124), .pick (.t 122) (.t 123) (.c (.bool false)), none⟩, .L),
     (⟨(some 125), .mov (.t 124), none⟩, .L),
     (⟨(some 126), .load (some 4) (.t 13), (some (125, true))⟩, .R [] []),
     (⟨(some 127), .build [(.int .u64 0), (.int .u64 0), (.int .u64 0), (.int .u64 0)] [], (some (125, true))⟩, .L),
     (⟨(some 128), .bin .neq (.flat [.i, .i, .i, .i]) (.t 126) (.t 127), (some (125, true))⟩, .L),
     (⟨(some 129), .pick (.t 125) (.t 128) (.c (.bool false)), none⟩, .L),
     (⟨(some 130), .mov (.t 129), none⟩, .L),
     (⟨(some 131), .load (some 4) (.t 13), (some (130, true))⟩, .R [] [(0, [])]),
     (⟨(some 132), .call k_wide_Of [(.c (.int .u64 1))], (some (130, true))⟩, .B []),
     (⟨(some 133), .bin .neq (.flat [.i, .i, .i, .i]) (.t 131) (.t 132), (some (130, true))⟩, .L),
     (⟨(some 134), .mov (.t 133), (some (130, true))⟩, .L),
     (⟨(some 135), .load (some 4) (.t 12), (some (134, false))⟩, .R [] []),
     (⟨(some 136), .build [(.int .u64 0), (.int .u64 0), (.int .u64 0), (.int .u64 0)] [], (some (134, false))⟩, .L),
     (⟨(some 137), .bin .neq (.flat [.i, .i, .i, .i]) (.t 135) (.t 136), (some (134, false))⟩, .L),
     (⟨(some 138), .pick (.t 134) (.c (.bool true)) (.t 137), (some (130, true))⟩, .L),
     (⟨(some 139), .pick (.t 130) (.t 138) (.c (.bool false)), none⟩, .L),
     (⟨(some 4), .mov (.t 139), none⟩, .L)])
  (.ret)))))))))))))⟩
/-- purser/purserlaw05.alive -/
def f_purserlaw05_alive : Fn := ⟨19, [.tmp 0],
  .seq (.ops [⟨(some 0), .mov (.c (.bool false)), none⟩])
  (.seq (.ops [⟨(some 4), .call k_purserlaw05_times [(.c (.int .u64 65535)), (.c (.int .i64 208))], none⟩,
     ⟨(some 5), .call k_target_Work [(.t 4)], none⟩,
     ⟨(some 3), .mov (.t 5), none⟩,
     ⟨(some 6), .ext (.t 3) 0, none⟩,
     ⟨(some 7), .ext (.t 3) 1, none⟩,
     ⟨(some 1), .alloc [(.int .u64 0), (.int .u64 0), (.int .u64 0), (.int .u64 0)], none⟩,
     ⟨none, .store 4 (.t 1) (.t 6), none⟩,
     ⟨(some 2), .mov (.t 7), none⟩])
  (.seq (.dops 0 [] [(⟨(some 8), .call k_purserlaw05_times [(.c (.int .u64 65535)), (.c (.int .i64 208))], none⟩, .B []),
     (⟨(some 9), .call k_purserlaw05_is [(.c (.int .u32 486604799)), (.t 8)], none⟩, .B []),
     (⟨(some 10), .mov (.t 9), none⟩, .L),
     (⟨(some 11), .mov (.t 2), (some (10, true))⟩, .L),
     (⟨(some 12), .bin .eql .no (.t 11) (.c (.int .i64 0)), (some (10, true))⟩, .L),
     (⟨(some 13), .pick (.t 10) (.t 12) (.c (.bool false)), none⟩, .L),
     (⟨(some 14), .mov (.t 13), none⟩, .L),
     (⟨(some 15), .load (some 4) (.t 1), (some (14, true))⟩, .R [] [(0, [])]),
     (⟨(some 16), .call k_wide_Of [(.c (.int .u64 4295032833))], (some (14, true))⟩, .B []),
     (⟨(some 17), .bin .eql (.flat [.i, .i, .i, .i]) (.t 15) (.t 16), (some (14, true))⟩, .L),
     (⟨(some 18), .pick (.t 14) (.t 17) (.c (.bool false)), none⟩, .L),
     (⟨(some 0), .mov (.t 18), none⟩, .L)])
  (.ret)))⟩
/-- purser/target.Work -/
def f_target_Work : Fn := ⟨38, [.cell 2 (some 4), .tmp 3],
  .seq (.ops [⟨(some 1), .box (.t 0), none⟩,
     ⟨(some 2), .alloc [(.int .u64 0), (.int .u64 0), (.int .u64 0), (.int .u64 0)], none⟩,
     ⟨(some 3), .mov (.c (.int .i64 0)), none⟩])
  (.seq (.seq (.ops [⟨(some 11), .load (some 4) (.t 1), none⟩,
      ⟨(some 12), .build [(.int .u64 0), (.int .u64 0), (.int .u64 0), (.int .u64 0)] [], none⟩,
      ⟨(some 13), .bin .eql (.flat [.i, .i, .i, .i]) (.t 11) (.t 12), none⟩])
   (.cond (.t 13)
    (.seq (.ops [⟨(some 14), .build [(.int .u64 0), (.int .u64 0), (.int .u64 0), (.int .u64 0)] [], none⟩,
        ⟨none, .store 4 (.t 2) (.t 14), none⟩,
        ⟨(some 3), .mov (.c (.int .i64 50)), none⟩])
     (.ret))
    (.skip)))
  (.seq (.dops 1 [] [(⟨(some 16), .load (some 4) (.t 1), none⟩, .R [] [(2, [])]),
     (⟨(some 17), .call k_wide_Of [(.c (.int .u64 1))], none⟩, .B []),
     (⟨(some 18), .call k_wide_Add [(.t 16), (.t 17)], none⟩, .B []),
     (⟨(some 15), .mov (.t 18), none⟩, .L),
     (⟨(some 19), .ext (.t 15) 0, none⟩, .L),
     (⟨(some 20), .ext (.t 15) 1, none⟩, .L),
     (⟨(some 4), .alloc [(.int .u64 0), (.int .u64 0), (.int .u64 0), (.int .u64 0)], none⟩, .Al 0),
     (⟨none, .store 4 (.t 4) (.t 19), none⟩, .B [0]),
     (⟨(some 5), .mov (.t 20), none⟩, .L)])
  (.seq (.seq (.ops [⟨(some 21), .mov (.t 5), none⟩])
   (.cond (.t 21)
    (.seq (.ops [⟨(some 22), .call k_wide_Of [(.c (.int .u64 1))], none⟩,
        ⟨none, .store 4 (.t 2) (.t 22), none⟩,
        ⟨(some 3), .mov (.c (.int .i64 0)), none⟩])
     (.ret))
    (.skip)))
  (.seq (.dops 2 [] [(⟨(some 24), .load (some 4) (.t 1), none⟩, .R [] []),
     (⟨(some 25), .call k_wide_Not [(.t 24)], none⟩, .B []),
     (⟨(some 26), .load (some 4) (.t 4), none⟩, .R [] [(4, [])]),
     (⟨(some 27), .call k_wide_Div [(.t 25), (.t 26)], none⟩, .B []),
     (⟨(some 23), .mov (.t 27), none⟩, .L),
     (⟨(some 28), .ext (.t 23) 0, none⟩, .L),
     (⟨(some 29), .ext (.t 23) 1, none⟩, .L),
     (⟨(some 30), .ext (.t 23) 2, none⟩, .L),
     (⟨(some 6), .alloc [(.int .u64 0), (.int .u64 0), (.int .u64 0), (.int .u64 0)], none⟩, .Al 0),
     (⟨(some 7), .alloc [(.int .u64 0), (.int .u64 0), (.int .u64 0), (.int .u64 0)], none⟩, .Al 1),
     (⟨none, .store 4 (.t 6) (.t 28), none⟩, .B [0, 1]),
     (⟨none, .store 4 (.t 7) (.t 29), none⟩, .B []),
     (⟨(some 8), .mov (.t 30), none⟩, .L)])
  (.seq (.dops 1 [] [(⟨(some 32), .load (some 4) (.t 6), none⟩, .R [] [(2, [])]),
     (⟨(some 33), .call k_wide_Of [(.c (.int .u64 1))], none⟩, .B []),
     (⟨(some 34), .call k_wide_Add [(.t 32), (.t 33)], none⟩, .B []),
     (⟨(some 31), .mov (.t 34), none⟩, .L),
     (⟨(some 35), .ext (.t 31) 0, none⟩, .L),
     (⟨(some 36), .ext (.t 31) 1, none⟩, .L),
     (⟨(some 9), .alloc [(.int .u64 0), (.int .u64 0), (.int .u64 0), (.int .u64 0)], none⟩, .Al 0),
     (⟨none, .store 4 (.t 9) (.t 35), none⟩, .B [0]),
     (⟨(some 10), .mov (.t 36), none⟩, .L)])
  (.seq (.ops [⟨(some 37), .load (some 4) (.t 9), none⟩,
     ⟨none, .store 4 (.t 2) (.t 37), none⟩,
     ⟨(some 3), .mov (.c (.int .i64 0)), none⟩])
  (.ret)))))))⟩
/-- purser/purserlaw05.times -/
def f_purserlaw05_times : Fn := ⟨9, [.cell 4 (some 4)],
  .seq (.ops [⟨(some 4), .alloc [(.int .u64 0), (.int .u64 0), (.int .u64 0), (.int .u64 0)], none⟩])
  (.seq (.ops [⟨(some 5), .mov (.t 0), none⟩,
     ⟨(some 6), .call k_wide_Of [(.t 5)], none⟩,
     ⟨(some 7), .mov (.t 1), none⟩,
     ⟨(some 8), .call k_wide_Left [(.t 6), (.t 7)], none⟩,
     ⟨none, .store 4 (.t 4) (.t 8), none⟩])
  (.ret))⟩
/-- purser/purserlaw05.is -/
def f_purserlaw05_is : Fn := ⟨35, [.tmp 4],
  .seq (.ops [⟨(some 3), .box (.t 1), none⟩,
     ⟨(some 4), .mov (.c (.bool false)), none⟩])
  (.seq (.ops [⟨(some 10), .mov (.t 0), none⟩,
     ⟨(some 11), .call k_target_Expand [(.t 10)], none⟩,
     ⟨(some 9), .mov (.t 11), none⟩,
     ⟨(some 12), .ext (.t 9) 0, none⟩,
     ⟨(some 13), .ext (.t 9) 1, none⟩,
     ⟨(some 5), .alloc [(.int .u64 0), (.int .u64 0), (.int .u64 0), (.int .u64 0)], none⟩,
     ⟨none, .store 4 (.t 5) (.t 12), none⟩,
     ⟨(some 6), .mov (.t 13), none⟩])
  (.seq (.ops [⟨(some 15), .load (some 4) (.t 5), none⟩,
     ⟨(some 16), .call k_target_Compact [(.t 15)], none⟩,
     ⟨(some 14), .mov (.t 16), none⟩,
     ⟨(some 17), .ext (.t 14) 0, none⟩,
     ⟨(some 18), .ext (.t 14) 1, none⟩,
     ⟨(some 7), .mov (.t 17), none⟩,
     ⟨(some 8), .mov (.t 18), none⟩])
  (.seq (.ops [⟨(some 19), .mov (.t 6), none⟩,
     ⟨(some 20), .bin .eql .no (.t 19) (.c (.int .i64 0)), none⟩,
     ⟨(some 21), .mov (.t 20), none⟩,
     ⟨(some 22), .load (some 4) (.t 5), (some (21, true))⟩,
     ⟨(some 23), .load (some 4) (.t 3), (some (21, true))⟩,
     ⟨(some 24), .bin .eql (.flat [.i, .i, .i, .i]) (.t 22) (.t 23), (some (21, true))⟩,
     ⟨(some 25), .pick (.t 21) (.t 24) (.c (.bool false)), none⟩,
     ⟨(some 26), .mov (.t 25), none⟩,
     ⟨(some 27), .mov (.t 8), (some (26, true))⟩,
     ⟨(some 28), .bin .eql .no (.t 27) (.c (.int .i64 0)), (some (26, true))⟩,
     ⟨(some 29), .pick (.t 26) (.t 28) (.c (.bool false)), none⟩,
     ⟨(some 30), .mov (.t 29), none⟩,
     ⟨(some 31), .mov (.t 7), (some (30, true))⟩,
     ⟨(some 32), .mov (.t 0), (some (30, true))⟩,
     ⟨(some 33), .bin .eql .no (.t 31) (.t 32), (some (30, true))⟩,
     ⟨(some 34), .pick (.t 30) (.t 33) (.c (.bool false)), none⟩,
     ⟨(some 4), .mov (.t 34), none⟩])
  (.ret))))⟩
/-- purser/target.Compact -/
def f_target_Compact : Fn := ⟨26, [.tmp 2, .tmp 3],
  .seq (.ops [⟨(some 1), .box (.t 0), none⟩,
     ⟨(some 2), .mov (.c (.int .u32 0)), none⟩,
     ⟨(some 3), .mov (.c (.int .i64 0)), none⟩])
  (.seq (.seq (.ops [⟨(some 6), .load (some 4) (.t 1), none⟩,
      ⟨(some 7), .build [(.int .u64 0), (.int .u64 0), (.int .u64 0), (.int .u64 0)] [], none⟩,
      ⟨(some 8), .bin .eql (.flat [.i, .i, .i, .i]) (.t 6) (.t 7), none⟩])
   (.cond (.t 8)
    (.seq (.ops [⟨(some 2), .mov (.c (.int .u32 0)), none⟩,
        ⟨(some 3), .mov (.c (.int .i64 50)), none⟩])
     (.ret))
    (.skip)))
  (.seq (.ops [⟨(some 10), .load (some 4) (.t 1), none⟩,
     ⟨(some 11), .call k_target_leading [(.t 10)], none⟩,
     ⟨(some 9), .mov (.t 11), none⟩,
     ⟨(some 12), .ext (.t 9) 0, none⟩,
     ⟨(some 13), .ext (.t 9) 1, none⟩,
     ⟨(some 4), .mov (.t 12), none⟩,
     ⟨(some 5), .mov (.t 13), none⟩])
  (.seq (.seq (.ops [⟨(some 14), .mov (.t 5), none⟩,
      ⟨(some 15), .bin .and .no (.t 14) (.c (.int .u32 8388608)), none⟩,
      ⟨(some 16), .bin .neq .no (.t 15) (.c (.int .u32 0)), none⟩])
   (.cond (.t 16)
    (.seq (.ops [⟨(some 17), .mov (.t 4), none⟩,
        ⟨(some 18), .bin .add .no (.t 17) (.c (.int .i64 1)), none⟩,
        ⟨(some 4), .mov (.t 18), none⟩])
     (.ops [⟨(some 19), .mov (.t 5), none⟩,
       ⟨(some 20), .bin .shr .no (.t 19) (.c (.int .u64 8)), none⟩,
       ⟨(some 5), .mov (.t 20), none⟩]))
    (.skip)))
  (.seq (.ops [⟨(some 21), .mov (.t 4), none⟩,
     ⟨(some 22), .conv .u32 (.t 21), none⟩,
     ⟨(some 23), .bin .shl .no (.t 22) (.c (.int .u64 24)), none⟩,
     ⟨(some 24), .mov (.t 5), none⟩,
     ⟨(some 25), .bin .or .no (.t 23) (.t 24), none⟩,
     ⟨(some 2), .mov (.t 25), none⟩,
     ⟨(some 3), .mov (.c (.int .i64 0)), none⟩])
  (.ret)))))⟩
/-- purser/target.Expand -/
def f_target_Expand : Fn := ⟨40, [.cell 2 (some 4), .tmp 3],
  .seq (.ops [⟨(some 2), .alloc [(.int .u64 0), (.int .u64 0), (.int .u64 0), (.int .u64 0)], none⟩,
     ⟨(some 3), .mov (.c (.int .i64 0)), none⟩])
  (.seq (.ops [⟨(some 10), .mov (.t 0), none⟩,
     ⟨(some 11), .bin .shr .no (.t 10) (.c (.int .u64 24)), none⟩,
     ⟨(some 12), .conv .i64 (.t 11), none⟩,
     ⟨(some 13), .mov (.t 0), none⟩,
     ⟨(some 14), .bin .and .no (.t 13) (.c (.int .u32 8388607)), none⟩,
     ⟨(some 15), .conv .u64 (.t 14), none⟩,
     ⟨(some 16), .call k_wide_Of [(.t 15)], none⟩,
     ⟨(some 5), .alloc [(.int .u64 0), (.int .u64 0), (.int .u64 0), (.int .u64 0)], none⟩,
     ⟨(some 4), .mov (.t 12), none⟩,
     ⟨none, .store 4 (.t 5) (.t 16), none⟩])
  (.seq (.ops [⟨(some 17), .mov (.t 4), none⟩,
     ⟨(some 18), .bin .sub .no (.t 17) (.c (.int .i64 3)), none⟩,
     ⟨(some 19), .bin .mul .no (.c (.int .i64 8)) (.t 18), none⟩,
     ⟨(some 6), .mov (.t 19), none⟩])
  (.seq (.ops [⟨(some 20), .load (some 4) (.t 5), none⟩,
     ⟨(some 21), .mov (.t 6), none⟩,
     ⟨(some 22), .call k_wide_Left [(.t 20), (.t 21)], none⟩,
     ⟨(some 23), .mov (.t 6), none⟩,
     ⟨(some 24), .un .neg (.t 23), none⟩,
     ⟨(some 25), .call k_wide_Right [(.t 22), (.t 24)], none⟩,
     ⟨(some 7), .alloc [(.int .u64 0), (.int .u64 0), (.int .u64 0), (.int .u64 0)], none⟩,
     ⟨none, .store 4 (.t 7) (.t 25), none⟩])
  (.seq (.seq (.ops [⟨(some 27), .load (some 4) (.t 7), none⟩,
      ⟨(some 28), .call k_target_Compact [(.t 27)], none⟩,
      ⟨(some 26), .mov (.t 28), none⟩,
      ⟨(some 29), .ext (.t 26) 0, none⟩,
      ⟨(some 30), .ext (.t 26) 1, none⟩,
      ⟨(some 8), .mov (.t 29), none⟩,
      ⟨(some 9), .mov (.t 30), none⟩])
   (.seq (.ops [⟨(some 31), .mov (.t 9), none⟩,
      ⟨(some 32), .bin .neq .no (.t 31) (.c (.int .i64 0)), none⟩,
      ⟨(some 33), .mov (.t 32), none⟩,
      ⟨(some 34), .mov (.t 8), (some (33, false))⟩,
      ⟨(some 35), .mov (.t 0), (some (33, false))⟩,
      ⟨(some 36), .bin .neq .no (.t 34) (.t 35), (some (33, false))⟩,
      ⟨(some 37), .pick (.t 33) (.c (.bool true)) (.t 36), none⟩])
   (.cond (.t 37)
    (.seq (.ops [⟨(some 38), .build [(.int .u64 0), (.int .u64 0), (.int .u64 0), (.int .u64 0)] [], none⟩,
        ⟨none, .store 4 (.t 2) (.t 38), none⟩,
        ⟨(some 3), .mov (.c (.int .i64 50)), none⟩])
     (.ret))
    (.skip))))
  (.seq (.ops [⟨(some 39), .load (some 4) (.t 7), none⟩,
     ⟨none, .store 4 (.t 2) (.t 39), none⟩,
     ⟨(some 3), .mov (.c (.int .i64 0)), none⟩])
  (.ret))))))⟩
/-- purser/target.leading -/
def f_target_leading : Fn := ⟨36, [.cell 2 none, .cell 3 none],
  .seq (.ops [⟨(some 1), .box (.t 0), none⟩,
     ⟨(some 2), .alloc [(.int .i64 0)], none⟩,
     ⟨(some 3), .alloc [(.int .u32 0)], none⟩])
  (.scope (.seq (.ops [⟨(some 4), .alloc [(.int .i64 0)], none⟩,
      ⟨none, .store 1 (.t 4) (.c (.int .i64 0)), none⟩])
   (.seq (.skip)
   (.seq (.seq (.ops [⟨(some 7), .load (some 4) (.t 1), none⟩,
       ⟨(some 8), .call k_target_highFirst [(.t 7)], none⟩])
    (.block 0 (.rangeF (.t 8) [9, 10] (.seq (.ops [⟨(some 5), .mov (.t 9), none⟩])
      (.ops [⟨(some 6), .mov (.t 10), none⟩]))
     (.block 1 (.seq (.seq (.ops [⟨(some 11), .mov (.t 6), none⟩,
           ⟨(some 12), .bin .eql .no (.t 11) (.c (.int .u8 0)), none⟩,
           ⟨(some 13), .mov (.t 12), none⟩,
           ⟨(some 14), .load none (.t 2), (some (13, true))⟩,
           ⟨(some 15), .bin .eql .no (.t 14) (.c (.int .i64 0)), (some (13, true))⟩,
           ⟨(some 16), .pick (.t 13) (.t 15) (.c (.bool false)), none⟩])
        (.cond (.t 16)
         (.exit 1)
         (.skip)))
       (.seq (.seq (.ops [⟨(some 17), .load none (.t 2), none⟩,
           ⟨(some 18), .bin .eql .no (.t 17) (.c (.int .i64 0)), none⟩])
        (.cond (.t 18)
         (.ops [⟨(some 19), .mov (.t 5), none⟩,
            ⟨(some 20), .bin .add .no (.t 19) (.c (.int .i64 1)), none⟩,
            ⟨none, .store 1 (.t 2) (.t 20), none⟩])
         (.skip)))
       (.seq (.ops [⟨(some 21), .load none (.t 3), none⟩,
          ⟨(some 22), .bin .shl .no (.t 21) (.c (.int .u64 8)), none⟩,
          ⟨(some 23), .mov (.t 6), none⟩,
          ⟨(some 24), .conv .u32 (.t 23), none⟩,
          ⟨(some 25), .bin .or .no (.t 22) (.t 24), none⟩,
          ⟨none, .store 1 (.t 3) (.t 25), none⟩])
       (.seq (.ops [⟨(some 26), .load none (.t 4), none⟩,
          ⟨(some 27), .bin .add .no (.t 26) (.c (.int .i64 1)), none⟩,
          ⟨none, .store 1 (.t 4) (.t 27), none⟩])
       (.seq (.ops [⟨(some 28), .load none (.t 4), none⟩,
          ⟨(some 29), .bin .eql .no (.t 28) (.c (.int .i64 3)), none⟩])
       (.cond (.t 29)
        (.exit 0)
        (.skip)))))))))))
   (.seq (.dops 0 [] [(⟨(some 30), .load none (.t 2), none⟩, .R [] []),
      (⟨(some 31), .load none (.t 3), none⟩, .R [] [(1, [])]),
      (⟨(some 32), .load none (.t 4), none⟩, .R [] [(1, [])]),
      (⟨(some 33), .bin .sub .no (.c (.int .i64 3)) (.t 32), none⟩, .L),
      (⟨(some 34), .bin .mul .no (.c (.int .i64 8)) (.t 33), none⟩, .L),
      (⟨(some 35), .bin .shl .no (.t 31) (.t 34), none⟩, .L),
      (⟨none, .store 1 (.t 2) (.t 30), none⟩, .B []),
      (⟨none, .store 1 (.t 3) (.t 35), none⟩, .B [])])
   (.ret))))))⟩
/-- purser/target.highFirst -/
def f_target_highFirst : Fn := ⟨4, [.tmp 2],
  .seq (.ops [⟨(some 1), .box (.t 0), none⟩,
     ⟨(some 2), .mov (.c .nilFn), none⟩])
  (.seq (.ops [⟨(some 3), .mkfn k_target_highFirst_1 [] [(.t 1)], none⟩,
     ⟨(some 2), .mov (.t 3), none⟩])
  (.ret))⟩
/-- purser/target.highFirst$1 -/
def f_target_highFirst_1 : Fn := ⟨22, [],
  .seq (.ops [⟨(some 5), .load (some 4) (.t 1), none⟩,
     ⟨(some 6), .call k_wide_Bytes [(.t 5)], none⟩,
     ⟨(some 3), .mov (.t 6), none⟩])
  (.seq (.ops [⟨(some 7), .mov (.t 3), none⟩,
     ⟨(some 8), .len false (.t 7), none⟩,
     ⟨(some 9), .bin .sub .no (.t 8) (.c (.int .i64 1)), none⟩,
     ⟨(some 4), .mov (.t 9), none⟩])
  (.block 0 (.loop (.seq (.seq (.ops [⟨(some 10), .mov (.t 4), none⟩,
        ⟨(some 11), .bin .geq .no (.t 10) (.c (.int .i64 0)), none⟩])
     (.cond (.t 11)
      (.skip)
      (.exit 0)))
    (.seq (.block 1 (.seq (.ops [⟨(some 14), .mov (.t 0), none⟩,
         ⟨(some 15), .mov (.t 4), none⟩,
         ⟨(some 16), .mov (.t 3), none⟩,
         ⟨(some 17), .mov (.t 4), none⟩,
         ⟨(some 18), .idxAddrS 1 (.t 16) (.t 17), none⟩,
         ⟨(some 19), .load none (.t 18), none⟩,
         ⟨(some 20), .callv (.t 14) [(.t 15), (.t 19)], none⟩,
         ⟨(some 21), .un .not (.t 20), none⟩])
      (.cond (.t 21)
       (.ret)
       (.skip))))
    (.ops [⟨(some 12), .mov (.t 4), none⟩,
      ⟨(some 13), .bin .sub .no (.t 12) (.c (.int .i64 1)), none⟩,
      ⟨(some 4), .mov (.t 13), none⟩]))))))⟩
/-- purser/wide.Bytes -/
def f_wide_Bytes : Fn := ⟨23, [.tmp 2],
  .seq (.ops [⟨(some 1), .box (.t 0), none⟩,
     ⟨(some 2), .mov (.c (.slice none 0 (some 0) 0)), none⟩])
  (.seq (.ops [⟨(some 5), .mkslice [(.int .u8 0)] 1 (.c (.int .i64 32)) (.c (.int .i64 32)), none⟩,
     ⟨(some 3), .mov (.t 5), none⟩])
  (.seq (.seq (.ops [⟨(some 6), .mov (.c (.int .i64 0)), none⟩])
   (.block 0 (.loop (.seq (.ops [⟨(some 7), .bin .lss .no (.t 6) (.c (.int .i64 32)), none⟩])
     (.seq (.cond (.t 7)
       (.skip)
       (.exit 0))
     (.seq (.block 1 (.seq (.ops [⟨(some 8), .mov (.t 6), none⟩,
          ⟨(some 4), .mov (.t 8), none⟩])
       (.ops [⟨(some 9), .mov (.t 3), none⟩,
         ⟨(some 10), .mov (.t 4), none⟩,
         ⟨(some 11), .mov (.t 4), none⟩,
         ⟨(some 12), .bin .quo .no (.t 11) (.c (.int .i64 8)), none⟩,
         ⟨(some 13), .idxAddrA 4 1 (.t 1) (.t 12), none⟩,
         ⟨(some 14), .load none (.t 13), none⟩,
         ⟨(some 15), .mov (.t 4), none⟩,
         ⟨(some 16), .bin .rem .no (.t 15) (.c (.int .i64 8)), none⟩,
         ⟨(some 17), .bin .mul .no (.c (.int .i64 8)) (.t 16), none⟩,
         ⟨(some 18), .bin .shr .no (.t 14) (.t 17), none⟩,
         ⟨(some 19), .conv .u8 (.t 18), none⟩,
         ⟨(some 20), .idxAddrS 1 (.t 9) (.t 10), none⟩,
         ⟨none, .store 1 (.t 20) (.t 19), none⟩])))
     (.ops [⟨(some 21), .bin .add .no (.t 6) (.c (.int .i64 1)), none⟩,
       ⟨(some 6), .mov (.t 21), none⟩])))))))
  (.seq (.ops [⟨(some 22), .mov (.t 3), none⟩,
     ⟨(some 2), .mov (.t 22), none⟩])
  (.ret))))⟩


end Go.Eng
