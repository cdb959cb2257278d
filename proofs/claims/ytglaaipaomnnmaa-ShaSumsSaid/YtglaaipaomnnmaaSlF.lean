/- Functions of the program, as the evaluator takes them: printed by program. -/
import Derived.Test.YtglaaipaomnnmaaShF
namespace Go.Eng
open Go
/-- purser/purserlaw04.ShaParts -/
abbrev k_purserlaw04_ShaParts : Nat := 5
/-- purser/purserlaw04.ShaLong -/
abbrev k_purserlaw04_ShaLong : Nat := 6
/-- purser/purserlaw04.alive -/
abbrev k_purserlaw04_alive : Nat := 26
/-- purser/purserlaw04.hex -/
abbrev k_purserlaw04_hex : Nat := 53
def L_purserlaw04_ShaParts_0 : C := .seq (.ops [⟨(some 41), .bin .lss .no (.t 40) (.t 39), none⟩])
     (.seq (.cond (.t 41)
       (.skip)
       (.exit 0))
     (.seq (.block 1 (.seq (.ops [⟨(some 42), .mov (.t 40), none⟩,
          ⟨(some 10), .mov (.t 42), none⟩])
       (.ops [⟨(some 43), .mov (.t 9), none⟩,
         ⟨(some 44), .mov (.t 0), none⟩,
         ⟨(some 45), .mov (.t 10), none⟩,
         ⟨(some 46), .mov (.t 10), none⟩,
         ⟨(some 47), .bin .add .no (.t 46) (.c (.int .i64 1)), none⟩,
         ⟨(some 48), .slcS 1 (.t 44) (some (.t 45)) (some (.t 47)) none, none⟩,
         ⟨(some 49), .call k_sha_Sum_Write [(.t 43), (.t 48)], none⟩])))
     (.ops [⟨(some 50), .bin .add .no (.t 40) (.c (.int .i64 1)), none⟩,
       ⟨(some 40), .mov (.t 50), none⟩])))
def R_purserlaw04_ShaParts_0 : C := .seq (.dops 0 [] [(⟨(some 51), .mov (.t 5), none⟩, .L),
     (⟨(some 52), .mov (.t 51), none⟩, .L),
     (⟨(some 53), .mov (.t 8), (some (52, true))⟩, .L),
     (⟨(some 54), .call k_sha_Sum_End [(.t 53)], (some (52, true))⟩, .B []),
     (⟨(some 55), .load (some 32) (.t 7), (some (52, true))⟩, .R [] [(5, [])]),
     (⟨(some 56), .bin .eql (.flat [.i, .i, .i, .i, .i, .i, .i, .i, .i, .i, .i, .i, .i, .i, .i, .i, .i, .i, .i, .i, .i, .i, .i, .i, .i, .i, .i, .i, .i, .i, .i, .i]) (.t 54) (.t 55), (some (52, true))⟩, .L),
     (⟨(some 57), .pick (.t 52) (.t 56) (.c (.bool false)), none⟩, .L),
     (⟨(some 58), .mov (.t 57), none⟩, .L),
     (⟨(some 59), .mov (.t 9), (some (58, true))⟩, .L),
     (⟨(some 60), .call k_sha_Sum_End [(.t 59)], (some (58, true))⟩, .B []),
     (⟨(some 61), .load (some 32) (.t 7), (some (58, true))⟩, .R [] [(4, [])]),
     (⟨(some 62), .bin .eql (.flat [.i, .i, .i, .i, .i, .i, .i, .i, .i, .i, .i, .i, .i, .i, .i, .i, .i, .i, .i, .i, .i, .i, .i, .i, .i, .i, .i, .i, .i, .i, .i, .i]) (.t 60) (.t 61), (some (58, true))⟩, .L),
     (⟨(some 63), .pick (.t 58) (.t 62) (.c (.bool false)), none⟩, .L),
     (⟨(some 64), .mov (.t 63), none⟩, .L),
     (⟨(some 65), .mov (.t 9), (some (64, true))⟩, .L),
     (⟨(some 66), .call k_sha_Sum_Len [(.t 65)], (some (64, true))⟩, .B []),
     (⟨(some 67), .mov (.t 0), (some (64, true))⟩, .L),
     (⟨(some 68), .len false (.t 67), (some (64, true))⟩, .L),
     (⟨(some 69), .conv .u64 (.t 68), (some (64, true))⟩, .L),
     (⟨(some 70), .bin .eql .no (.t 66) (.t 69), (some (64, true))⟩, .L),
     (⟨(some 71), .pick (.t 64) (.t 70) (.c (.bool false)), none⟩, .L),
     (⟨(some 72), .mov (.t 71), none⟩, .L),
     (⟨(some 73), .mov (.t 8), (some (72, true))⟩, .L),
     (⟨(some 74), .call k_sha_Sum_Write [(.t 73), (.c (.slice none 0 (some 0) 0))], (some (72, true))⟩, .B []),
     (⟨(some 75), .call k_sha_Sum_End [(.t 74)], (some (72, true))⟩, .B []),
     (⟨(some 76), .load (some 32) (.t 7), (some (72, true))⟩, .R [] [(2, []), (1, [])]),
     (⟨(some 77), .bin .eql (.flat [.i, .i, .i, .i, .i, .i, .i, .i, .i, .i, .i, .i, .i, .i, .i, .i, .i, .i, .i, .i, .i, .i, .i, .i, .i, .i, .i, .i, .i, .i, .i, .i]) (.t 75) (.t 76), (some (72, true))⟩, .L),
     (⟨(some 78), .pick (.t 72) (.t 77) (.c (.bool false)), none⟩, .L),
     (⟨(some 4), .mov (.t 78), none⟩, .L)])
  (.ret)
/-- purser/purserlaw04.ShaParts -/
def f_purserlaw04_ShaParts : Fn := ⟨79, [.tmp 4],
  .seq (.ops [⟨(some 4), .mov (.c (.bool false)), none⟩])
  (.seq (.ops [⟨(some 11), .call k_purserlaw04_alive [], none⟩,
     ⟨(some 5), .mov (.t 11), none⟩])
  (.seq (.seq (.ops [⟨(some 12), .mov (.t 0), none⟩,
      ⟨(some 13), .len false (.t 12), none⟩,
      ⟨(some 14), .bin .gtr .no (.t 13) (.c (.int .i64 1000)), none⟩,
      ⟨(some 15), .mov (.t 14), none⟩,
      ⟨(some 16), .mov (.t 5), (some (15, false))⟩,
      ⟨(some 17), .un .not (.t 16), (some (15, false))⟩,
      ⟨(some 18), .pick (.t 15) (.c (.bool true)) (.t 17), none⟩])
   (.cond (.t 18)
    (.seq (.ops [⟨(some 19), .mov (.t 5), none⟩,
        ⟨(some 4), .mov (.t 19), none⟩])
     (.ret))
    (.skip)))
  (.seq (.ops [⟨(some 20), .mov (.t 1), none⟩,
     ⟨(some 21), .conv .i64 (.t 20), none⟩,
     ⟨(some 22), .mov (.t 0), none⟩,
     ⟨(some 23), .len false (.t 22), none⟩,
     ⟨(some 24), .bin .add .no (.t 23) (.c (.int .i64 1)), none⟩,
     ⟨(some 25), .bin .rem .no (.t 21) (.t 24), none⟩,
     ⟨(some 6), .mov (.t 25), none⟩])
  (.seq (.ops [⟨(some 26), .mov (.t 0), none⟩,
     ⟨(some 27), .call k_sha_Of [(.t 26)], none⟩,
     ⟨(some 7), .alloc [(.int .u8 0), (.int .u8 0), (.int .u8 0), (.int .u8 0), (.int .u8 0), (.int .u8 0), (.int .u8 0), (.int .u8 0), (.int .u8 0), (.int .u8 0), (.int .u8 0), (.int .u8 0), (.int .u8 0), (.int .u8 0), (.int .u8 0), (.int .u8 0), (.int .u8 0), (.int .u8 0), (.int .u8 0), (.int .u8 0), (.int .u8 0), (.int .u8 0), (.int .u8 0), (.int .u8 0), (.int .u8 0), (.int .u8 0), (.int .u8 0), (.int .u8 0), (.int .u8 0), (.int .u8 0), (.int .u8 0), (.int .u8 0)], none⟩,
     ⟨none, .store 32 (.t 7) (.t 27), none⟩])
  (.seq (.dops 0 [] [(⟨(some 28), .call k_sha_New [], none⟩, .B []),
     (⟨(some 29), .mov (.t 0), none⟩, .L),
     (⟨(some 30), .mov (.t 6), none⟩, .L),
     (⟨(some 31), .slcS 1 (.t 29) none (some (.t 30)) none, none⟩, .L),
     (⟨(some 32), .call k_sha_Sum_Write [(.t 28), (.t 31)], none⟩, .B []),
     (⟨(some 33), .mov (.t 0), none⟩, .L),
     (⟨(some 34), .mov (.t 6), none⟩, .L),
     (⟨(some 35), .slcS 1 (.t 33) (some (.t 34)) none none, none⟩, .L),
     (⟨(some 36), .call k_sha_Sum_Write [(.t 32), (.t 35)], none⟩, .B []),
     (⟨(some 8), .mov (.t 36), none⟩, .L)])
  (.seq (.ops [⟨(some 37), .call k_sha_New [], none⟩,
     ⟨(some 9), .mov (.t 37), none⟩])
  (.seq (.seq (.ops [⟨(some 38), .mov (.t 0), none⟩,
      ⟨(some 39), .len false (.t 38), none⟩,
      ⟨(some 40), .mov (.c (.int .i64 0)), none⟩])
   (.block 0 (.loop (L_purserlaw04_ShaParts_0))))
  (R_purserlaw04_ShaParts_0))))))))⟩
/-- purser/purserlaw04.ShaLong -/
def f_purserlaw04_ShaLong : Fn := ⟨80, [.tmp 4],
  .seq (.ops [⟨(some 4), .mov (.c (.bool false)), none⟩])
  (.seq (.ops [⟨(some 10), .call k_purserlaw04_alive [], none⟩,
     ⟨(some 5), .mov (.t 10), none⟩])
  (.seq (.seq (.ops [⟨(some 11), .mov (.t 0), none⟩,
      ⟨(some 12), .len false (.t 11), none⟩,
      ⟨(some 13), .bin .gtr .no (.t 12) (.c (.int .i64 1000)), none⟩,
      ⟨(some 14), .mov (.t 13), none⟩,
      ⟨(some 15), .mov (.t 1), (some (14, false))⟩,
      ⟨(some 16), .len false (.t 15), (some (14, false))⟩,
      ⟨(some 17), .bin .gtr .no (.t 16) (.c (.int .i64 1000)), (some (14, false))⟩,
      ⟨(some 18), .pick (.t 14) (.c (.bool true)) (.t 17), none⟩,
      ⟨(some 19), .mov (.t 18), none⟩,
      ⟨(some 20), .mov (.t 5), (some (19, false))⟩,
      ⟨(some 21), .un .not (.t 20), (some (19, false))⟩,
      ⟨(some 22), .pick (.t 19) (.c (.bool true)) (.t 21), none⟩])
   (.cond (.t 22)
    (.seq (.ops [⟨(some 23), .mov (.t 5), none⟩,
        ⟨(some 4), .mov (.t 23), none⟩])
     (.ret))
    (.skip)))
  (.seq (.ops [⟨(some 24), .mov (.t 0), none⟩,
     ⟨(some 25), .call k_sha_Of [(.t 24)], none⟩,
     ⟨(some 6), .alloc [(.int .u8 0), (.int .u8 0), (.int .u8 0), (.int .u8 0), (.int .u8 0), (.int .u8 0), (.int .u8 0), (.int .u8 0), (.int .u8 0), (.int .u8 0), (.int .u8 0), (.int .u8 0), (.int .u8 0), (.int .u8 0), (.int .u8 0), (.int .u8 0), (.int .u8 0), (.int .u8 0), (.int .u8 0), (.int .u8 0), (.int .u8 0), (.int .u8 0), (.int .u8 0), (.int .u8 0), (.int .u8 0), (.int .u8 0), (.int .u8 0), (.int .u8 0), (.int .u8 0), (.int .u8 0), (.int .u8 0), (.int .u8 0)], none⟩,
     ⟨none, .store 32 (.t 6) (.t 25), none⟩])
  (.seq (.ops [⟨(some 26), .call k_sha_New [], none⟩,
     ⟨(some 27), .mov (.t 0), none⟩,
     ⟨(some 28), .call k_sha_Sum_Write [(.t 26), (.t 27)], none⟩,
     ⟨(some 7), .mov (.t 28), none⟩])
  (.seq (.ops [⟨(some 29), .mov (.t 7), none⟩,
     ⟨(some 30), .call k_sha_Sum_End [(.t 29)], none⟩,
     ⟨(some 8), .alloc [(.int .u8 0), (.int .u8 0), (.int .u8 0), (.int .u8 0), (.int .u8 0), (.int .u8 0), (.int .u8 0), (.int .u8 0), (.int .u8 0), (.int .u8 0), (.int .u8 0), (.int .u8 0), (.int .u8 0), (.int .u8 0), (.int .u8 0), (.int .u8 0), (.int .u8 0), (.int .u8 0), (.int .u8 0), (.int .u8 0), (.int .u8 0), (.int .u8 0), (.int .u8 0), (.int .u8 0), (.int .u8 0), (.int .u8 0), (.int .u8 0), (.int .u8 0), (.int .u8 0), (.int .u8 0), (.int .u8 0), (.int .u8 0)], none⟩,
     ⟨none, .store 32 (.t 8) (.t 30), none⟩])
  (.seq (.ops [⟨(some 31), .mov (.t 7), none⟩,
     ⟨(some 32), .mov (.t 1), none⟩,
     ⟨(some 33), .call k_sha_Sum_Write [(.t 31), (.t 32)], none⟩])
  (.seq (.ops [⟨(some 34), .mov (.t 0), none⟩,
     ⟨(some 35), .call k_sha_Twice [(.t 34)], none⟩,
     ⟨(some 9), .alloc [(.int .u8 0), (.int .u8 0), (.int .u8 0), (.int .u8 0), (.int .u8 0), (.int .u8 0), (.int .u8 0), (.int .u8 0), (.int .u8 0), (.int .u8 0), (.int .u8 0), (.int .u8 0), (.int .u8 0), (.int .u8 0), (.int .u8 0), (.int .u8 0), (.int .u8 0), (.int .u8 0), (.int .u8 0), (.int .u8 0), (.int .u8 0), (.int .u8 0), (.int .u8 0), (.int .u8 0), (.int .u8 0), (.int .u8 0), (.int .u8 0), (.int .u8 0), (.int .u8 0), (.int .u8 0), (.int .u8 0), (.int .u8 0)], none⟩,
     ⟨none, .store 32 (.t 9) (.t 35), none⟩])
  (.seq (.dops 1 [] [(⟨(some 36), .mov (.t 5), none⟩, .L),
     (⟨(some 37), .mov (.t 36), none⟩, .L),
     (⟨(some 38), .load (some 32) (.t 8), (some (37, true))⟩, .R [] []),
     (⟨(some 39), .load (some 32) (.t 6), (some (37, true))⟩, .R [] []),
     (⟨(some 40), .bin .eql (.flat [.i, .i, .i, .i, .i, .i, .i, .i, .i, .i, .i, .i, .i, .i, .i, .i, .i, .i, .i, .i, .i, .i, .i, .i, .i, .i, .i, .i, .i, .i, .i, .i]) (.t 38) (.t 39), (some (37, true))⟩, .L),
     (⟨(some 41), .pick (.t 37) (.t 40) (.c (.bool false)), none⟩, .L),
     (⟨(some 42), .mov (.t 41), none⟩, .L),
     (⟨(some 43), .load (some 32) (.t 9), (some (42, true))⟩, .R [] [(8, []), (7, []), (6, [])]),
     (⟨(some 44), .call k_sha_New [], (some (42, true))⟩, .B []),
     (⟨(some 45), .slcA 32 1 (.t 6) none none none, (some (42, true))⟩, .R [] [(9, [])]),
     (⟨(some 46), .call k_sha_Sum_Write [(.t 44), (.t 45)], (some (42, true))⟩, .B []),
     (⟨(some 47), .call k_sha_Sum_End [(.t 46)], (some (42, true))⟩, .B []),
     (⟨(some 48), .bin .eql (.flat [.i, .i, .i, .i, .i, .i, .i, .i, .i, .i, .i, .i, .i, .i, .i, .i, .i, .i, .i, .i, .i, .i, .i, .i, .i, .i, .i, .i, .i, .i, .i, .i]) (.t 43) (.t 47), (some (42, true))⟩, .L),
     (⟨(some 49), .pick (.t 42) (.t 48) (.c (.bool false)), none⟩, .L),
     (⟨(some 50), .mov (.t 49), none⟩, .L),
     (⟨(some 51), .mov (.t 0), (some (50, true))⟩, .L),
     (⟨(some 52), .call k_sha_Short [(.t 51)], (some (50, true))⟩, .B []),
     (⟨(some 53), .b2s (.t 52), (some (50, true))⟩, .R [] []),
     (⟨(some 54), .slcA 32 1 (.t 9) none (some (.c (.int .i64 20))) none, (some (50, true))⟩, .R [] [(6, [])]),
     (⟨(some 55), .b2s (.t 54), (some (50, true))⟩, .R [] [(6, [])]),
     (⟨(some 56), .bin .eql .no (.t 53) (.t 55), (some (50, true))⟩, .L),
     (⟨(some 57), .pick (.t 50) (.t 56) (.c (.bool false)), none⟩, .L),
     (⟨(some 58), .mov (.t 57), none⟩, .L),
     (⟨(some 59), .mov (.t 7), (some (58, true))⟩, .L),
     (⟨(some 60), .call k_sha_Sum_End [(.t 59)], (some (58, true))⟩, .B []),
     (⟨(some 61), .buildS [] 0 1 [], (some (58, true))⟩, .Al 0),
     (⟨(some 62), .mov (.t 0), (some (58, true))⟩, .L),
     (⟨(some 63), .append 1 1 (.t 61) (.t 62), (some (58, true))⟩, .B [0]),
     (⟨(some 64), .mov (.t 1), (some (58, true))⟩, .L),
     (⟨(some 65), .append 1 1 (.t 63) (.t 64), (some (58, true))⟩, .B []),
     (⟨(some 66), .call k_sha_Of [(.t 65)], (some (58, true))⟩, .B []),
     (⟨(some 67), .bin .eql (.flat [.i, .i, .i, .i, .i, .i, .i, .i, .i, .i, .i, .i, .i, .i, .i, .i, .i, .i, .i, .i, .i, .i, .i, .i, .i, .i, .i, .i, .i, .i, .i, .i]) (.t 60) (.t 66), (some (58, true))⟩, .L),
     (⟨(some 68), .pick (.t 58) (.t 67) (.c (.bool false)), none⟩, .L),
     (⟨(some 69), .mov (.t 68), none⟩, .L),
     (⟨(some 70), .mov (.t 7), (some (69, true))⟩, .L),
     (⟨(some 71), .call k_sha_Sum_Len [(.t 70)], (some (69, true))⟩, .B []),
     (⟨(some 72), .mov (.t 0), (some (69, true))⟩, .L),
     (⟨(some 73), .len false (.t 72), (some (69, true))⟩, .L),
     (⟨(some 74), .mov (.t 1), (some (69, true))⟩, .L),
     (⟨(some 75), .len false (.t 74), (some (69, true))⟩, .L),
     (⟨(some 76), .bin .add .no (.t 73) (.t 75), (some (69, true))⟩, .L),
     (⟨(some 77), .conv .u64 (.t 76), (some (69, true))⟩, .L),
     (⟨(some 78), .bin .eql .no (.t 71) (.t 77), (some (69, true))⟩, .L),
     (⟨(some 79), .pick (.t 69) (.t 78) (.c (.bool false)), none⟩, .L),
     (⟨(some 4), .mov (.t 79), none⟩, .L)])
  (.ret)))))))))⟩
/-- purser/purserlaw04.alive -/
def f_purserlaw04_alive : Fn := ⟨11, [.tmp 0],
  .seq (.ops [⟨(some 0), .mov (.c (.bool false)), none⟩])
  (.seq (.ops [⟨(some 1), .call k_sha_Of [(.c (.slice none 0 (some 0) 0))], none⟩,
     ⟨(some 2), .call k_purserlaw04_hex [(.t 1)], none⟩,
     ⟨(some 3), .bin .eql .no (.t 2) (.c (.str [101, 51, 98, 48, 99, 52, 52, 50, 57, 56, 102, 99, 49, 99, 49, 52, 57, 97, 102, 98, 102, 52, 99, 56, 57, 57, 54, 102, 98, 57, 50, 52, 50, 55, 97, 101, 52, 49, 101, 52, 54, 52, 57, 98, 57, 51, 52, 99, 97, 52, 57, 53, 57, 57, 49, 98, 55, 56, 53, 50, 98, 56, 53, 53])), none⟩,
     ⟨(some 4), .mov (.t 3), none⟩,
     ⟨(some 5), .buildS [(.int .u8 0), (.int .u8 0), (.int .u8 0)] 3 1 [(0, 1, (.c (.int .u8 97))), (1, 1, (.c (.int .u8 98))), (2, 1, (.c (.int .u8 99)))], (some (4, true))⟩,
     ⟨(some 6), .mark (.t 5), (some (4, true))⟩,
     ⟨(some 7), .call k_sha_Of [(.t 6)], (some (4, true))⟩,
     ⟨(some 8), .call k_purserlaw04_hex [(.t 7)], (some (4, true))⟩,
     ⟨(some 9), .bin .eql .no (.t 8) (.c (.str [98, 97, 55, 56, 49, 54, 98, 102, 56, 102, 48, 49, 99, 102, 101, 97, 52, 49, 52, 49, 52, 48, 100, 101, 53, 100, 97, 101, 50, 50, 50, 51, 98, 48, 48, 51, 54, 49, 97, 51, 57, 54, 49, 55, 55, 97, 57, 99, 98, 52, 49, 48, 102, 102, 54, 49, 102, 50, 48, 48, 49, 53, 97, 100])), (some (4, true))⟩,
     ⟨(some 10), .pick (.t 4) (.t 9) (.c (.bool false)), none⟩,
     ⟨(some 0), .mov (.t 10), none⟩])
  (.ret))⟩
def L_purserlaw04_hex_0 : C := .seq (.ops [⟨(some 8), .bin .lss .no (.t 7) (.c (.int .i64 32)), none⟩])
     (.seq (.cond (.t 8)
       (.skip)
       (.exit 0))
     (.seq (.block 1 (.seq (.ops [⟨(some 9), .idxArr 32 1 false (.t 6) (.t 7), none⟩,
          ⟨(some 5), .mov (.t 9), none⟩])
       (.dops 0 [] [(⟨(some 10), .mov (.t 3), none⟩, .L),
         (⟨(some 11), .mov (.t 5), none⟩, .L),
         (⟨(some 12), .bin .shr .no (.t 11) (.c (.int .u64 4)), none⟩, .L),
         (⟨(some 13), .mov (.t 5), none⟩, .L),
         (⟨(some 14), .bin .shr .no (.t 13) (.c (.int .u64 4)), none⟩, .L),
         (⟨(some 15), .bin .add .no (.t 14) (.c (.int .u8 1)), none⟩, .L),
         (⟨(some 16), .slcStr (.c (.str [48, 49, 50, 51, 52, 53, 54, 55, 56, 57, 97, 98, 99, 100, 101, 102])) (some (.t 12)) (some (.t 15)), none⟩, .L),
         (⟨(some 17), .bin .add .no (.t 10) (.t 16), none⟩, .L),
         (⟨(some 18), .mov (.t 5), none⟩, .L),
         (⟨(some 19), .bin .and .no (.t 18) (.c (.int .u8 15)), none⟩, .L),
         (⟨(some 20), .mov (.t 5), none⟩, .L),
         (⟨(some 21), .bin .and .no (.t 20) (.c (.int .u8 15)), none⟩, .L),
         (⟨(some 22), .bin .add .no (.t 21) (.c (.int .u8 1)), none⟩, .L),
         (⟨(some 23), .slcStr (.c (.str [48, 49, 50, 51, 52, 53, 54, 55, 56, 57, 97, 98, 99, 100, 101, 102])) (some (.t 19)) (some (.t 22)), none⟩, .L),
         (⟨(some 24), .bin .add .no (.t 17) (.t 23), none⟩, .L),
         (⟨(some 3), .mov (.t 24), none⟩, .L)])))
     (.ops [⟨(some 25), .bin .add .no (.t 7) (.c (.int .i64 1)), none⟩,
       ⟨(some 7), .mov (.t 25), none⟩])))
def R_purserlaw04_hex_0 : C := .seq (.ops [⟨(some 26), .mov (.t 3), none⟩,
     ⟨(some 2), .mov (.t 26), none⟩])
  (.ret)
/-- purser/purserlaw04.hex -/
def f_purserlaw04_hex : Fn := ⟨27, [.tmp 2],
  .seq (.ops [⟨(some 1), .box (.t 0), none⟩,
     ⟨(some 2), .mov (.c (.str [])), none⟩])
  (.seq (.ops [⟨(some 3), .mov (.c (.str [])), none⟩])
  (.seq (.seq (.ops [⟨(some 6), .load (some 32) (.t 1), none⟩,
      ⟨(some 7), .mov (.c (.int .i64 0)), none⟩])
   (.block 0 (.loop (L_purserlaw04_hex_0))))
  (R_purserlaw04_hex_0)))⟩

end Go.Eng
