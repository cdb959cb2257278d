/- Functions of the program, as the evaluator takes them: printed by program. -/
import Derived.Test.YtglaaipaomnnmaaEngI
namespace Go.Eng
open Go
/-- purser/purserlaw04.ShaPieces -/
abbrev k_purserlaw04_ShaPieces : Nat := 4
/-- purser/purserlaw04.ShaParts -/
abbrev k_purserlaw04_ShaParts : Nat := 5
/-- purser/purserref04.Of -/
abbrev k_purserref04_Of : Nat := 17
/-- purser/sha.New -/
abbrev k_sha_New : Nat := 21
/-- (*purser/sha.Sum).Copy -/
abbrev k_sha_Sum_Copy : Nat := 22
/-- (*purser/sha.Sum).Write -/
abbrev k_sha_Sum_Write : Nat := 23
/-- (*purser/sha.Sum).End -/
abbrev k_sha_Sum_End : Nat := 24
/-- (*purser/sha.Sum).Len -/
abbrev k_sha_Sum_Len : Nat := 25
/-- purser/sha.Of -/
abbrev k_sha_Of : Nat := 16
/-- purser/purserlaw04.alive -/
abbrev k_purserlaw04_alive : Nat := 26
/-- purser/purserref04.Square -/
abbrev k_purserref04_Square : Nat := 44
/-- purser/purserref04.Cube -/
abbrev k_purserref04_Cube : Nat := 45
/-- purser/purserref04.padded -/
abbrev k_purserref04_padded : Nat := 46
/-- purser/purserref04.turned -/
abbrev k_purserref04_turned : Nat := 47
/-- purser/sha.squareTable -/
abbrev k_sha_squareTable : Nat := 48
/-- (*purser/sha.Sum).sums -/
abbrev k_sha_Sum_sums : Nat := 49
/-- (*purser/sha.Sum).fill -/
abbrev k_sha_Sum_fill : Nat := 50
/-- (*purser/sha.Sum).mix -/
abbrev k_sha_Sum_mix : Nat := 51
/-- purser/sha.padding -/
abbrev k_sha_padding : Nat := 52
/-- purser/purserlaw04.hex -/
abbrev k_purserlaw04_hex : Nat := 53
/-- (*purser/sha.Sum).fill$1 -/
abbrev k_sha_Sum_fill_1 : Nat := 58
/-- purser/sha.cubeTable -/
abbrev k_sha_cubeTable : Nat := 59
/-- (*purser/sha.Sum).schedule -/
abbrev k_sha_Sum_schedule : Nat := 60
/-- purser/sha.turned -/
abbrev k_sha_turned : Nat := 61
/-- math/bits.RotateLeft32 -/
abbrev k_math_bits_RotateLeft32 : Nat := 66
def L_purserlaw04_ShaPieces_0 : C := .seq (.ops [⟨(some 53), .bin .lss .no (.t 52) (.t 51), none⟩])
          (.seq (.cond (.t 53)
            (.skip)
            (.exit 2))
          (.seq (.block 3 (.seq (.ops [⟨(some 54), .mov (.t 52), none⟩,
               ⟨(some 11), .mov (.t 54), none⟩])
            (.ops [⟨(some 55), .mov (.t 10), none⟩,
              ⟨(some 56), .mov (.t 11), none⟩,
              ⟨(some 57), .idxAddrS 1 (.t 55) (.t 56), none⟩,
              ⟨(some 58), .load none (.t 57), none⟩,
              ⟨(some 59), .bin .add .no (.t 58) (.c (.int .u8 1)), none⟩,
              ⟨(some 60), .idxAddrS 1 (.t 55) (.t 56), none⟩,
              ⟨none, .store 1 (.t 60) (.t 59), none⟩])))
          (.ops [⟨(some 61), .bin .add .no (.t 52) (.c (.int .i64 1)), none⟩,
            ⟨(some 52), .mov (.t 61), none⟩])))
def R_purserlaw04_ShaPieces_0 : C := .seq (.ops [⟨(some 62), .mov (.t 7), none⟩,
          ⟨(some 63), .mov (.t 0), none⟩,
          ⟨(some 64), .mov (.t 9), none⟩,
          ⟨(some 65), .idxAddrS 1 (.t 63) (.t 64), none⟩,
          ⟨(some 66), .load none (.t 65), none⟩,
          ⟨(some 67), .append 1 1 (.t 62) (.t 66), none⟩,
          ⟨(some 7), .mov (.t 67), none⟩])
       (.seq (.seq (.ops [⟨(some 68), .mov (.t 9), none⟩,
           ⟨(some 69), .mov (.t 1), none⟩,
           ⟨(some 70), .conv .i64 (.t 69), none⟩,
           ⟨(some 71), .mov (.t 0), none⟩,
           ⟨(some 72), .len false (.t 71), none⟩,
           ⟨(some 73), .bin .rem .no (.t 70) (.t 72), none⟩,
           ⟨(some 74), .bin .eql .no (.t 68) (.t 73), none⟩])
        (.cond (.t 74)
         (.seq (.ops [⟨(some 75), .mov (.t 5), none⟩,
             ⟨(some 76), .call k_sha_Sum_Copy [(.t 75)], none⟩,
             ⟨(some 6), .mov (.t 76), none⟩])
          (.ops [⟨(some 77), .mov (.t 8), none⟩,
            ⟨(some 78), .mov (.t 7), none⟩,
            ⟨(some 79), .append 1 1 (.t 77) (.t 78), none⟩,
            ⟨(some 8), .mov (.t 79), none⟩]))
         (.skip)))
       (.seq (.ops [⟨(some 80), .mov (.t 5), none⟩,
          ⟨(some 81), .call k_sha_Sum_End [(.t 80)], none⟩,
          ⟨(some 82), .mov (.t 7), none⟩,
          ⟨(some 83), .call k_purserref04_Of [(.t 82)], none⟩,
          ⟨(some 84), .bin .neq (.flat [.i, .i, .i, .i, .i, .i, .i, .i, .i, .i, .i, .i, .i, .i, .i, .i, .i, .i, .i, .i, .i, .i, .i, .i, .i, .i, .i, .i, .i, .i, .i, .i]) (.t 81) (.t 83), none⟩,
          ⟨(some 85), .mov (.t 84), none⟩,
          ⟨(some 86), .mov (.t 5), (some (85, false))⟩,
          ⟨(some 87), .call k_sha_Sum_Len [(.t 86)], (some (85, false))⟩,
          ⟨(some 88), .mov (.t 7), (some (85, false))⟩,
          ⟨(some 89), .len false (.t 88), (some (85, false))⟩,
          ⟨(some 90), .conv .u64 (.t 89), (some (85, false))⟩,
          ⟨(some 91), .bin .neq .no (.t 87) (.t 90), (some (85, false))⟩,
          ⟨(some 92), .pick (.t 85) (.c (.bool true)) (.t 91), none⟩])
       (.cond (.t 92)
        (.seq (.ops [⟨(some 4), .mov (.c (.bool false)), none⟩])
         (.ret))
        (.skip))))
def R_purserlaw04_ShaPieces_1 : C := .ops [⟨(some 93), .bin .add .no (.t 20) (.c (.int .i64 1)), none⟩,
       ⟨(some 20), .mov (.t 93), none⟩]
def L_purserlaw04_ShaPieces_1 : C := .seq (.ops [⟨(some 21), .bin .lss .no (.t 20) (.t 19), none⟩])
     (.seq (.cond (.t 21)
       (.skip)
       (.exit 0))
     (.seq (.block 1 (.seq (.ops [⟨(some 22), .mov (.t 20), none⟩,
          ⟨(some 9), .mov (.t 22), none⟩])
       (.seq (.seq (.ops [⟨(some 23), .mov (.t 0), none⟩,
           ⟨(some 24), .mov (.t 9), none⟩,
           ⟨(some 25), .idxAddrS 1 (.t 23) (.t 24), none⟩,
           ⟨(some 26), .load none (.t 25), none⟩,
           ⟨(some 27), .len false (.t 26), none⟩,
           ⟨(some 28), .bin .gtr .no (.t 27) (.c (.int .i64 300)), none⟩])
        (.cond (.t 28)
         (.seq (.ops [⟨(some 4), .mov (.c (.bool true)), none⟩])
          (.ret))
         (.skip)))
       (.seq (.ops [⟨(some 29), .buildS [] 0 1 [], none⟩,
          ⟨(some 30), .mov (.t 0), none⟩,
          ⟨(some 31), .mov (.t 9), none⟩,
          ⟨(some 32), .idxAddrS 1 (.t 30) (.t 31), none⟩,
          ⟨(some 33), .load none (.t 32), none⟩,
          ⟨(some 34), .append 1 1 (.t 29) (.t 33), none⟩,
          ⟨(some 10), .mov (.t 34), none⟩])
       (.seq (.seq (.dops 0 [] [(⟨(some 35), .mov (.t 5), none⟩, .L),
           (⟨(some 36), .mov (.t 10), none⟩, .L),
           (⟨(some 37), .call k_sha_Sum_Write [(.t 35), (.t 36)], none⟩, .B []),
           (⟨(some 38), .mov (.t 5), none⟩, .L),
           (⟨(some 39), .bin .neq (.ref .p) (.t 37) (.t 38), none⟩, .R [] []),
           (⟨(some 40), .mov (.t 39), none⟩, .L),
           (⟨(some 41), .mov (.t 10), (some (40, false))⟩, .L),
           (⟨(some 42), .b2s (.t 41), (some (40, false))⟩, .R [] []),
           (⟨(some 43), .mov (.t 0), (some (40, false))⟩, .L),
           (⟨(some 44), .mov (.t 9), (some (40, false))⟩, .L),
           (⟨(some 45), .idxAddrS 1 (.t 43) (.t 44), (some (40, false))⟩, .L),
           (⟨(some 46), .load none (.t 45), (some (40, false))⟩, .R [] []),
           (⟨(some 47), .b2s (.t 46), (some (40, false))⟩, .R [] []),
           (⟨(some 48), .bin .neq .no (.t 42) (.t 47), (some (40, false))⟩, .L),
           (⟨(some 49), .pick (.t 40) (.c (.bool true)) (.t 48), none⟩, .L)])
        (.cond (.t 49)
         (.seq (.ops [⟨(some 4), .mov (.c (.bool false)), none⟩])
          (.ret))
         (.skip)))
       (.seq (.seq (.ops [⟨(some 50), .mov (.t 10), none⟩,
           ⟨(some 51), .len false (.t 50), none⟩,
           ⟨(some 52), .mov (.c (.int .i64 0)), none⟩])
        (.block 2 (.loop (L_purserlaw04_ShaPieces_0))))
       (R_purserlaw04_ShaPieces_0)))))))
     (R_purserlaw04_ShaPieces_1)))
def R_purserlaw04_ShaPieces_2 : C := .seq (.seq (.ops [⟨(some 94), .mov (.t 6), none⟩,
      ⟨(some 95), .bin .eql (.ref .p) (.t 94) (.c (.ptr none)), none⟩,
      ⟨(some 96), .mov (.t 95), none⟩,
      ⟨(some 97), .mov (.t 6), (some (96, false))⟩,
      ⟨(some 98), .call k_sha_Sum_End [(.t 97)], (some (96, false))⟩,
      ⟨(some 99), .mov (.t 8), (some (96, false))⟩,
      ⟨(some 100), .call k_purserref04_Of [(.t 99)], (some (96, false))⟩,
      ⟨(some 101), .bin .neq (.flat [.i, .i, .i, .i, .i, .i, .i, .i, .i, .i, .i, .i, .i, .i, .i, .i, .i, .i, .i, .i, .i, .i, .i, .i, .i, .i, .i, .i, .i, .i, .i, .i]) (.t 98) (.t 100), (some (96, false))⟩,
      ⟨(some 102), .pick (.t 96) (.c (.bool true)) (.t 101), none⟩])
   (.cond (.t 102)
    (.seq (.ops [⟨(some 4), .mov (.c (.bool false)), none⟩])
     (.ret))
    (.skip)))
  (.seq (.ops [⟨(some 103), .mov (.t 6), none⟩,
     ⟨(some 104), .buildS [(.int .u8 0)] 1 1 [(0, 1, (.c (.int .u8 120)))], none⟩,
     ⟨(some 105), .mark (.t 104), none⟩,
     ⟨(some 106), .call k_sha_Sum_Write [(.t 103), (.t 105)], none⟩])
  (.seq (.ops [⟨(some 107), .mov (.t 6), none⟩,
     ⟨(some 108), .call k_sha_Sum_End [(.t 107)], none⟩,
     ⟨(some 109), .mov (.t 8), none⟩,
     ⟨(some 110), .buildS [(.int .u8 0)] 1 1 [(0, 1, (.c (.int .u8 120)))], none⟩,
     ⟨(some 111), .append 1 1 (.t 109) (.t 110), none⟩,
     ⟨(some 112), .call k_purserref04_Of [(.t 111)], none⟩,
     ⟨(some 113), .bin .eql (.flat [.i, .i, .i, .i, .i, .i, .i, .i, .i, .i, .i, .i, .i, .i, .i, .i, .i, .i, .i, .i, .i, .i, .i, .i, .i, .i, .i, .i, .i, .i, .i, .i]) (.t 108) (.t 112), none⟩,
     ⟨(some 114), .mov (.t 113), none⟩,
     ⟨(some 115), .mov (.t 5), (some (114, true))⟩,
     ⟨(some 116), .call k_sha_Sum_End [(.t 115)], (some (114, true))⟩,
     ⟨(some 117), .mov (.t 7), (some (114, true))⟩,
     ⟨(some 118), .call k_purserref04_Of [(.t 117)], (some (114, true))⟩,
     ⟨(some 119), .bin .eql (.flat [.i, .i, .i, .i, .i, .i, .i, .i, .i, .i, .i, .i, .i, .i, .i, .i, .i, .i, .i, .i, .i, .i, .i, .i, .i, .i, .i, .i, .i, .i, .i, .i]) (.t 116) (.t 118), (some (114, true))⟩,
     ⟨(some 120), .pick (.t 114) (.t 119) (.c (.bool false)), none⟩,
     ⟨(some 4), .mov (.t 120), none⟩])
  (.ret)))
/-- purser/purserlaw04.ShaPieces -/
def f_purserlaw04_ShaPieces : Fn := ⟨121, [.tmp 4],
  .seq (.ops [⟨(some 4), .mov (.c (.bool false)), none⟩])
  (.seq (.seq (.ops [⟨(some 12), .mov (.t 0), none⟩,
      ⟨(some 13), .len false (.t 12), none⟩,
      ⟨(some 14), .bin .gtr .no (.t 13) (.c (.int .i64 20)), none⟩])
   (.cond (.t 14)
    (.seq (.ops [⟨(some 4), .mov (.c (.bool true)), none⟩])
     (.ret))
    (.skip)))
  (.seq (.ops [⟨(some 15), .call k_sha_New [], none⟩,
     ⟨(some 5), .mov (.t 15), none⟩])
  (.seq (.ops [⟨(some 16), .mov (.t 5), none⟩,
     ⟨(some 17), .call k_sha_Sum_Copy [(.t 16)], none⟩,
     ⟨(some 6), .mov (.t 17), none⟩])
  (.seq (.ops [⟨(some 7), .mov (.c (.slice none 0 (some 0) 0)), none⟩,
     ⟨(some 8), .mov (.c (.slice none 0 (some 0) 0)), none⟩])
  (.seq (.seq (.ops [⟨(some 18), .mov (.t 0), none⟩,
      ⟨(some 19), .len false (.t 18), none⟩,
      ⟨(some 20), .mov (.c (.int .i64 0)), none⟩])
   (.block 0 (.loop (L_purserlaw04_ShaPieces_1))))
  (R_purserlaw04_ShaPieces_2))))))⟩
def L_purserlaw04_ShaParts_0 : C := .seq (.ops [⟨(some 41), .bin .lss .no (.t 40) (.t 39), none⟩])
     (.seq (.cond (.t 41)
       (.skip)
       (.exit 0))
     (.seq (.block 1 (.seq (.ops [⟨(some 42), .mov (.t 40), none⟩,
          ⟨(some 10), .mov (.t 42), none⟩])
       (.ops [⟨(some 43), .mov (.t 9), none⟩,
         ⟨(some 44), .mov (.t 0), none⟩,
         ⟨(some 45), .mov (.t 10), none⟩,
         ⟨(some 46), .mov (.t 10), none⟩,
         ⟨(some 47), .bin .add .no (.t 46) (.c (.int .i64 1)), none⟩,
         ⟨(some 48), .slcS 1 (.t 44) (some (.t 45)) (some (.t 47)) none, none⟩,
         ⟨(some 49), .call k_sha_Sum_Write [(.t 43), (.t 48)], none⟩])))
     (.ops [⟨(some 50), .bin .add .no (.t 40) (.c (.int .i64 1)), none⟩,
       ⟨(some 40), .mov (.t 50), none⟩])))
def R_purserlaw04_ShaParts_0 : C := .seq (.dops 0 [] [(⟨(some 51), .mov (.t 5), none⟩, .L),
     (⟨(some 52), .mov (.t 51), none⟩, .L),
     (⟨(some 53), .mov (.t 8), (some (52, true))⟩, .L),
     (⟨(some 54), .call k_sha_Sum_End [(.t 53)], (some (52, true))⟩, .B []),
     (⟨(some 55), .load (some 32) (.t 7), (some (52, true))⟩, .R [] [(5, [])]),
     (⟨(some 56), .bin .eql (.flat [.i, .i, .i, .i, .i, .i, .i, .i, .i, .i, .i, .i, .i, .i, .i, .i, .i, .i, .i, .i, .i, .i, .i, .i, .i, .i, .i, .i, .i, .i, .i, .i]) (.t 54) (.t 55), (some (52, true))⟩, .L),
     (⟨(some 57), .pick (.t 52) (.t 56) (.c (.bool false)), none⟩, .L),
     (⟨(some 58), .mov (.t 57), none⟩, .L),
     (⟨(some 59), .mov (.t 9), (some (58, true))⟩, .L),
     (⟨(some 60), .call k_sha_Sum_End [(.t 59)], (some (58, true))⟩, .B []),
     (⟨(some 61), .load (some 32) (.t 7), (some (58, true))⟩, .R [] [(4, [])]),
     (⟨(some 62), .bin .eql (.flat [.i, .i, .i, .i, .i, .i, .i, .i, .i, .i, .i, .i, .i, .i, .i, .i, .i, .i, .i, .i, .i, .i, .i, .i, .i, .i, .i, .i, .i, .i, .i, .i]) (.t 60) (.t 61), (some (58, true))⟩, .L),
     (⟨(some 63), .pick (.t 58) (.t 62) (.c (.bool false)), none⟩, .L),
     (⟨(some 64), .mov (.t 63), none⟩, .L),
     (⟨(some 65), .mov (.t 9), (some (64, true))⟩, .L),
     (⟨(some 66), .call k_sha_Sum_Len [(.t 65)], (some (64, true))⟩, .B []),
     (⟨(some 67), .mov (.t 0), (some (64, true))⟩, .L),
     (⟨(some 68), .len false (.t 67), (some (64, true))⟩, .L),
     (⟨(some 69), .conv .u64 (.t 68), (some (64, true))⟩, .L),
     (⟨(some 70), .bin .eql .no (.t 66) (.t 69), (some (64, true))⟩, .L),
     (⟨(some 71), .pick (.t 64) (.t 70) (.c (.bool false)), none⟩, .L),
     (⟨(some 72), .mov (.t 71), none⟩, .L),
     (⟨(some 73), .mov (.t 8), (some (72, true))⟩, .L),
     (⟨(some 74), .call k_sha_Sum_Write [(.t 73), (.c (.slice none 0 (some 0) 0))], (some (72, true))⟩, .B []),
     (⟨(some 75), .call k_sha_Sum_End [(.t 74)], (some (72, true))⟩, .B []),
     (⟨(some 76), .load (some 32) (.t 7), (some (72, true))⟩, .R [] [(2, []), (1, [])]),
     (⟨(some 77), .bin .eql (.flat [.i, .i, .i, .i, .i, .i, .i, .i, .i, .i, .i, .i, .i, .i, .i, .i, .i, .i, .i, .i, .i, .i, .i, .i, .i, .i, .i, .i, .i, .i, .i, .i]) (.t 75) (.t 76), (some (72, true))⟩, .L),
     (⟨(some 78), .pick (.t 72) (.t 77) (.c (.bool false)), none⟩, .L),
     (⟨(some 4), .mov (.t 78), none⟩, .L)])
  (.ret)
/-- purser/purserlaw04.ShaParts -/
def f_purserlaw04_ShaParts : Fn := ⟨79, [.tmp 4],
  .seq (.ops [⟨(some 4), .mov (.c (.bool false)), none⟩])
  (.seq (.ops [⟨(some 11), .call k_purserlaw04_alive [], none⟩,
     ⟨(some 5), .mov (.t 11), none⟩])
  (.seq (.seq (.ops [⟨(some 12), .mov (.t 0), none⟩,
      ⟨(some 13), .len false (.t 12), none⟩,
      ⟨(some 14), .bin .gtr .no (.t 13) (.c (.int .i64 1000)), none⟩,
      ⟨(some 15), .mov (.t 14), none⟩,
      ⟨(some 16), .mov (.t 5), (some (15, false))⟩,
      ⟨(some 17), .un .not (.t 16), (some (15, false))⟩,
      ⟨(some 18), .pick (.t 15) (.c (.bool true)) (.t 17), none⟩])
   (.cond (.t 18)
    (.seq (.ops [⟨(some 19), .mov (.t 5), none⟩,
        ⟨(some 4), .mov (.t 19), none⟩])
     (.ret))
    (.skip)))
  (.seq (.ops [⟨(some 20), .mov (.t 1), none⟩,
     ⟨(some 21), .conv .i64 (.t 20), none⟩,
     ⟨(some 22), .mov (.t 0), none⟩,
     ⟨(some 23), .len false (.t 22), none⟩,
     ⟨(some 24), .bin .add .no (.t 23) (.c (.int .i64 1)), none⟩,
     ⟨(some 25), .bin .rem .no (.t 21) (.t 24), none⟩,
     ⟨(some 6), .mov (.t 25), none⟩])
  (.seq (.ops [⟨(some 26), .mov (.t 0), none⟩,
     ⟨(some 27), .call k_sha_Of [(.t 26)], none⟩,
     ⟨(some 7), .alloc [(.int .u8 0), (.int .u8 0), (.int .u8 0), (.int .u8 0), (.int .u8 0), (.int .u8 0), (.int .u8 0), (.int .u8 0), (.int .u8 0), (.int .u8 0), (.int .u8 0), (.int .u8 0), (.int .u8 0), (.int .u8 0), (.int .u8 0), (.int .u8 0), (.int .u8 0), (.int .u8 0), (.int .u8 0), (.int .u8 0), (.int .u8 0), (.int .u8 0), (.int .u8 0), (.int .u8 0), (.int .u8 0), (.int .u8 0), (.int .u8 0), (.int .u8 0), (.int .u8 0), (.int .u8 0), (.int .u8 0), (.int .u8 0)], none⟩,
     ⟨none, .store 32 (.t 7) (.t 27), none⟩])
  (.seq (.dops 0 [] [(⟨(some 28), .call k_sha_New [], none⟩, .B []),
     (⟨(some 29), .mov (.t 0), none⟩, .L),
     (⟨(some 30), .mov (.t 6), none⟩, .L),
     (⟨(some 31), .slcS 1 (.t 29) none (some (.t 30)) none, none⟩, .L),
     (⟨(some 32), .call k_sha_Sum_Write [(.t 28), (.t 31)], none⟩, .B []),
     (⟨(some 33), .mov (.t 0), none⟩, .L),
     (⟨(some 34), .mov (.t 6), none⟩, .L),
     (⟨(some 35), .slcS 1 (.t 33) (some (.t 34)) none none, none⟩, .L),
     (⟨(some 36), .call k_sha_Sum_Write [(.t 32), (.t 35)], none⟩, .B []),
     (⟨(some 8), .mov (.t 36), none⟩, .L)])
  (.seq (.ops [⟨(some 37), .call k_sha_New [], none⟩,
     ⟨(some 9), .mov (.t 37), none⟩])
  (.seq (.seq (.ops [⟨(some 38), .mov (.t 0), none⟩,
      ⟨(some 39), .len false (.t 38), none⟩,
      ⟨(some 40), .mov (.c (.int .i64 0)), none⟩])
   (.block 0 (.loop (L_purserlaw04_ShaParts_0))))
  (R_purserlaw04_ShaParts_0))))))))⟩
def L_purserref04_Of_0 : C := .seq (.seq (.ops [⟨(some 30), .mov (.t 8), none⟩,
              ⟨(some 31), .bin .lss .no (.t 30) (.c (.int .i64 16)), none⟩])
           (.cond (.t 31)
            (.skip)
            (.exit 2)))
          (.seq (.block 3 (.dops 0 [] [(⟨(some 34), .mov (.t 7), none⟩, .L),
              (⟨(some 35), .mov (.t 8), none⟩, .L),
              (⟨(some 36), .mov (.t 5), none⟩, .L),
              (⟨(some 37), .mov (.t 6), none⟩, .L),
              (⟨(some 38), .mov (.t 8), none⟩, .L),
              (⟨(some 39), .bin .mul .no (.c (.int .i64 4)) (.t 38), none⟩, .L),
              (⟨(some 40), .bin .add .no (.t 37) (.t 39), none⟩, .L),
              (⟨(some 41), .idxAddrS 1 (.t 36) (.t 40), none⟩, .L),
              (⟨(some 42), .load none (.t 41), none⟩, .R [] []),
              (⟨(some 43), .conv .u32 (.t 42), none⟩, .L),
              (⟨(some 44), .bin .shl .no (.t 43) (.c (.int .u64 24)), none⟩, .L),
              (⟨(some 45), .mov (.t 5), none⟩, .L),
              (⟨(some 46), .mov (.t 6), none⟩, .L),
              (⟨(some 47), .mov (.t 8), none⟩, .L),
              (⟨(some 48), .bin .mul .no (.c (.int .i64 4)) (.t 47), none⟩, .L),
              (⟨(some 49), .bin .add .no (.t 46) (.t 48), none⟩, .L),
              (⟨(some 50), .bin .add .no (.t 49) (.c (.int .i64 1)), none⟩, .L),
              (⟨(some 51), .idxAddrS 1 (.t 45) (.t 50), none⟩, .L),
              (⟨(some 52), .load none (.t 51), none⟩, .R [] []),
              (⟨(some 53), .conv .u32 (.t 52), none⟩, .L),
              (⟨(some 54), .bin .shl .no (.t 53) (.c (.int .u64 16)), none⟩, .L),
              (⟨(some 55), .bin .add .no (.t 44) (.t 54), none⟩, .L),
              (⟨(some 56), .mov (.t 5), none⟩, .L),
              (⟨(some 57), .mov (.t 6), none⟩, .L),
              (⟨(some 58), .mov (.t 8), none⟩, .L),
              (⟨(some 59), .bin .mul .no (.c (.int .i64 4)) (.t 58), none⟩, .L),
              (⟨(some 60), .bin .add .no (.t 57) (.t 59), none⟩, .L),
              (⟨(some 61), .bin .add .no (.t 60) (.c (.int .i64 2)), none⟩, .L),
              (⟨(some 62), .idxAddrS 1 (.t 56) (.t 61), none⟩, .L),
              (⟨(some 63), .load none (.t 62), none⟩, .R [] []),
              (⟨(some 64), .conv .u32 (.t 63), none⟩, .L),
              (⟨(some 65), .bin .shl .no (.t 64) (.c (.int .u64 8)), none⟩, .L),
              (⟨(some 66), .bin .add .no (.t 55) (.t 65), none⟩, .L),
              (⟨(some 67), .mov (.t 5), none⟩, .L),
              (⟨(some 68), .mov (.t 6), none⟩, .L),
              (⟨(some 69), .mov (.t 8), none⟩, .L),
              (⟨(some 70), .bin .mul .no (.c (.int .i64 4)) (.t 69), none⟩, .L),
              (⟨(some 71), .bin .add .no (.t 68) (.t 70), none⟩, .L),
              (⟨(some 72), .bin .add .no (.t 71) (.c (.int .i64 3)), none⟩, .L),
              (⟨(some 73), .idxAddrS 1 (.t 67) (.t 72), none⟩, .L),
              (⟨(some 74), .load none (.t 73), none⟩, .R [] []),
              (⟨(some 75), .conv .u32 (.t 74), none⟩, .L),
              (⟨(some 76), .bin .add .no (.t 66) (.t 75), none⟩, .L),
              (⟨(some 77), .idxAddrS 1 (.t 34) (.t 35), none⟩, .L),
              (⟨none, .store 1 (.t 77) (.t 76), none⟩, .B [])]))
          (.ops [⟨(some 32), .mov (.t 8), none⟩,
            ⟨(some 33), .bin .add .no (.t 32) (.c (.int .i64 1)), none⟩,
            ⟨(some 8), .mov (.t 33), none⟩]))
def L_purserref04_Of_1 : C := .seq (.seq (.ops [⟨(some 78), .mov (.t 9), none⟩,
              ⟨(some 79), .bin .lss .no (.t 78) (.c (.int .i64 64)), none⟩])
           (.cond (.t 79)
            (.skip)
            (.exit 4)))
          (.seq (.block 5 (.seq (.dops 0 [] [(⟨(some 82), .mov (.t 7), none⟩, .L),
               (⟨(some 83), .mov (.t 9), none⟩, .L),
               (⟨(some 84), .bin .sub .no (.t 83) (.c (.int .i64 15)), none⟩, .L),
               (⟨(some 85), .idxAddrS 1 (.t 82) (.t 84), none⟩, .L),
               (⟨(some 86), .load none (.t 85), none⟩, .R [] []),
               (⟨(some 87), .call k_purserref04_turned [(.t 86), (.c (.int .u64 7))], none⟩, .B []),
               (⟨(some 88), .mov (.t 7), none⟩, .L),
               (⟨(some 89), .mov (.t 9), none⟩, .L),
               (⟨(some 90), .bin .sub .no (.t 89) (.c (.int .i64 15)), none⟩, .L),
               (⟨(some 91), .idxAddrS 1 (.t 88) (.t 90), none⟩, .L),
               (⟨(some 92), .load none (.t 91), none⟩, .R [] [(2, [])]),
               (⟨(some 93), .call k_purserref04_turned [(.t 92), (.c (.int .u64 18))], none⟩, .B []),
               (⟨(some 94), .bin .xor .no (.t 87) (.t 93), none⟩, .L),
               (⟨(some 95), .mov (.t 7), none⟩, .L),
               (⟨(some 96), .mov (.t 9), none⟩, .L),
               (⟨(some 97), .bin .sub .no (.t 96) (.c (.int .i64 15)), none⟩, .L),
               (⟨(some 98), .idxAddrS 1 (.t 95) (.t 97), none⟩, .L),
               (⟨(some 99), .load none (.t 98), none⟩, .R [] [(2, []), (1, [])]),
               (⟨(some 100), .bin .shr .no (.t 99) (.c (.int .u64 3)), none⟩, .L),
               (⟨(some 101), .bin .xor .no (.t 94) (.t 100), none⟩, .L),
               (⟨(some 10), .mov (.t 101), none⟩, .L)])
            (.seq (.dops 0 [] [(⟨(some 102), .mov (.t 7), none⟩, .L),
               (⟨(some 103), .mov (.t 9), none⟩, .L),
               (⟨(some 104), .bin .sub .no (.t 103) (.c (.int .i64 2)), none⟩, .L),
               (⟨(some 105), .idxAddrS 1 (.t 102) (.t 104), none⟩, .L),
               (⟨(some 106), .load none (.t 105), none⟩, .R [] []),
               (⟨(some 107), .call k_purserref04_turned [(.t 106), (.c (.int .u64 17))], none⟩, .B []),
               (⟨(some 108), .mov (.t 7), none⟩, .L),
               (⟨(some 109), .mov (.t 9), none⟩, .L),
               (⟨(some 110), .bin .sub .no (.t 109) (.c (.int .i64 2)), none⟩, .L),
               (⟨(some 111), .idxAddrS 1 (.t 108) (.t 110), none⟩, .L),
               (⟨(some 112), .load none (.t 111), none⟩, .R [] [(2, [])]),
               (⟨(some 113), .call k_purserref04_turned [(.t 112), (.c (.int .u64 19))], none⟩, .B []),
               (⟨(some 114), .bin .xor .no (.t 107) (.t 113), none⟩, .L),
               (⟨(some 115), .mov (.t 7), none⟩, .L),
               (⟨(some 116), .mov (.t 9), none⟩, .L),
               (⟨(some 117), .bin .sub .no (.t 116) (.c (.int .i64 2)), none⟩, .L),
               (⟨(some 118), .idxAddrS 1 (.t 115) (.t 117), none⟩, .L),
               (⟨(some 119), .load none (.t 118), none⟩, .R [] [(2, []), (1, [])]),
               (⟨(some 120), .bin .shr .no (.t 119) (.c (.int .u64 10)), none⟩, .L),
               (⟨(some 121), .bin .xor .no (.t 114) (.t 120), none⟩, .L),
               (⟨(some 11), .mov (.t 121), none⟩, .L)])
            (.dops 0 [] [(⟨(some 122), .mov (.t 7), none⟩, .L),
              (⟨(some 123), .mov (.t 9), none⟩, .L),
              (⟨(some 124), .mov (.t 7), none⟩, .L),
              (⟨(some 125), .mov (.t 9), none⟩, .L),
              (⟨(some 126), .bin .sub .no (.t 125) (.c (.int .i64 16)), none⟩, .L),
              (⟨(some 127), .idxAddrS 1 (.t 124) (.t 126), none⟩, .L),
              (⟨(some 128), .load none (.t 127), none⟩, .R [] []),
              (⟨(some 129), .mov (.t 10), none⟩, .L),
              (⟨(some 130), .bin .add .no (.t 128) (.t 129), none⟩, .L),
              (⟨(some 131), .mov (.t 7), none⟩, .L),
              (⟨(some 132), .mov (.t 9), none⟩, .L),
              (⟨(some 133), .bin .sub .no (.t 132) (.c (.int .i64 7)), none⟩, .L),
              (⟨(some 134), .idxAddrS 1 (.t 131) (.t 133), none⟩, .L),
              (⟨(some 135), .load none (.t 134), none⟩, .R [] []),
              (⟨(some 136), .bin .add .no (.t 130) (.t 135), none⟩, .L),
              (⟨(some 137), .mov (.t 11), none⟩, .L),
              (⟨(some 138), .bin .add .no (.t 136) (.t 137), none⟩, .L),
              (⟨(some 139), .idxAddrS 1 (.t 122) (.t 123), none⟩, .L),
              (⟨none, .store 1 (.t 139) (.t 138), none⟩, .B [])]))))
          (.ops [⟨(some 80), .mov (.t 9), none⟩,
            ⟨(some 81), .bin .add .no (.t 80) (.c (.int .i64 1)), none⟩,
            ⟨(some 9), .mov (.t 81), none⟩]))
def L_purserref04_Of_2 : C := .seq (.seq (.ops [⟨(some 143), .mov (.t 13), none⟩,
              ⟨(some 144), .bin .lss .no (.t 143) (.c (.int .i64 64)), none⟩])
           (.cond (.t 144)
            (.skip)
            (.exit 6)))
          (.seq (.block 7 (.seq (.dops 0 [] [(⟨(some 147), .mov (.t 12), none⟩, .L),
               (⟨(some 148), .idxAddrS 1 (.t 147) (.c (.int .i64 7)), none⟩, .L),
               (⟨(some 149), .load none (.t 148), none⟩, .R [] [(2, []), (1, []), (0, [])]),
               (⟨(some 150), .mov (.t 12), none⟩, .L),
               (⟨(some 151), .idxAddrS 1 (.t 150) (.c (.int .i64 4)), none⟩, .L),
               (⟨(some 152), .load none (.t 151), none⟩, .R [] []),
               (⟨(some 153), .call k_purserref04_turned [(.t 152), (.c (.int .u64 6))], none⟩, .B []),
               (⟨(some 154), .mov (.t 12), none⟩, .L),
               (⟨(some 155), .idxAddrS 1 (.t 154) (.c (.int .i64 4)), none⟩, .L),
               (⟨(some 156), .load none (.t 155), none⟩, .R [] [(3, [])]),
               (⟨(some 157), .call k_purserref04_turned [(.t 156), (.c (.int .u64 11))], none⟩, .B []),
               (⟨(some 158), .bin .xor .no (.t 153) (.t 157), none⟩, .L),
               (⟨(some 159), .mov (.t 12), none⟩, .L),
               (⟨(some 160), .idxAddrS 1 (.t 159) (.c (.int .i64 4)), none⟩, .L),
               (⟨(some 161), .load none (.t 160), none⟩, .R [] [(3, []), (2, [])]),
               (⟨(some 162), .call k_purserref04_turned [(.t 161), (.c (.int .u64 25))], none⟩, .B []),
               (⟨(some 163), .bin .xor .no (.t 158) (.t 162), none⟩, .L),
               (⟨(some 164), .bin .add .no (.t 149) (.t 163), none⟩, .L),
               (⟨(some 165), .mov (.t 12), none⟩, .L),
               (⟨(some 166), .idxAddrS 1 (.t 165) (.c (.int .i64 4)), none⟩, .L),
               (⟨(some 167), .load none (.t 166), none⟩, .R [] [(3, []), (2, []), (1, [])]),
               (⟨(some 168), .mov (.t 12), none⟩, .L),
               (⟨(some 169), .idxAddrS 1 (.t 168) (.c (.int .i64 5)), none⟩, .L),
               (⟨(some 170), .load none (.t 169), none⟩, .R [] [(3, []), (2, []), (1, [])]),
               (⟨(some 171), .bin .and .no (.t 167) (.t 170), none⟩, .L),
               (⟨(some 172), .mov (.t 12), none⟩, .L),
               (⟨(some 173), .idxAddrS 1 (.t 172) (.c (.int .i64 4)), none⟩, .L),
               (⟨(some 174), .load none (.t 173), none⟩, .R [] [(3, []), (2, []), (1, [])]),
               (⟨(some 175), .un .xor (.t 174), none⟩, .L),
               (⟨(some 176), .mov (.t 12), none⟩, .L),
               (⟨(some 177), .idxAddrS 1 (.t 176) (.c (.int .i64 6)), none⟩, .L),
               (⟨(some 178), .load none (.t 177), none⟩, .R [] [(3, []), (2, []), (1, [])]),
               (⟨(some 179), .bin .and .no (.t 175) (.t 178), none⟩, .L),
               (⟨(some 180), .bin .xor .no (.t 171) (.t 179), none⟩, .L),
               (⟨(some 181), .bin .add .no (.t 164) (.t 180), none⟩, .L),
               (⟨(some 182), .mov (.t 4), none⟩, .L),
               (⟨(some 183), .mov (.t 13), none⟩, .L),
               (⟨(some 184), .idxAddrS 1 (.t 182) (.t 183), none⟩, .L),
               (⟨(some 185), .load none (.t 184), none⟩, .R [] [(3, []), (2, []), (1, [])]),
               (⟨(some 186), .bin .add .no (.t 181) (.t 185), none⟩, .L),
               (⟨(some 187), .mov (.t 7), none⟩, .L),
               (⟨(some 188), .mov (.t 13), none⟩, .L),
               (⟨(some 189), .idxAddrS 1 (.t 187) (.t 188), none⟩, .L),
               (⟨(some 190), .load none (.t 189), none⟩, .R [] [(3, []), (2, []), (1, [])]),
               (⟨(some 191), .bin .add .no (.t 186) (.t 190), none⟩, .L),
               (⟨(some 14), .mov (.t 191), none⟩, .L)])
            (.seq (.dops 0 [] [(⟨(some 192), .mov (.t 12), none⟩, .L),
               (⟨(some 193), .idxAddrS 1 (.t 192) (.c (.int .i64 0)), none⟩, .L),
               (⟨(some 194), .load none (.t 193), none⟩, .R [] []),
               (⟨(some 195), .call k_purserref04_turned [(.t 194), (.c (.int .u64 2))], none⟩, .B []),
               (⟨(some 196), .mov (.t 12), none⟩, .L),
               (⟨(some 197), .idxAddrS 1 (.t 196) (.c (.int .i64 0)), none⟩, .L),
               (⟨(some 198), .load none (.t 197), none⟩, .R [] [(3, [])]),
               (⟨(some 199), .call k_purserref04_turned [(.t 198), (.c (.int .u64 13))], none⟩, .B []),
               (⟨(some 200), .bin .xor .no (.t 195) (.t 199), none⟩, .L),
               (⟨(some 201), .mov (.t 12), none⟩, .L),
               (⟨(some 202), .idxAddrS 1 (.t 201) (.c (.int .i64 0)), none⟩, .L),
               (⟨(some 203), .load none (.t 202), none⟩, .R [] [(3, []), (2, [])]),
               (⟨(some 204), .call k_purserref04_turned [(.t 203), (.c (.int .u64 22))], none⟩, .B []),
               (⟨(some 205), .bin .xor .no (.t 200) (.t 204), none⟩, .L),
               (⟨(some 206), .mov (.t 12), none⟩, .L),
               (⟨(some 207), .idxAddrS 1 (.t 206) (.c (.int .i64 0)), none⟩, .L),
               (⟨(some 208), .load none (.t 207), none⟩, .R [] [(3, []), (2, []), (1, [])]),
               (⟨(some 209), .mov (.t 12), none⟩, .L),
               (⟨(some 210), .idxAddrS 1 (.t 209) (.c (.int .i64 1)), none⟩, .L),
               (⟨(some 211), .load none (.t 210), none⟩, .R [] [(3, []), (2, []), (1, [])]),
               (⟨(some 212), .bin .and .no (.t 208) (.t 211), none⟩, .L),
               (⟨(some 213), .mov (.t 12), none⟩, .L),
               (⟨(some 214), .idxAddrS 1 (.t 213) (.c (.int .i64 0)), none⟩, .L),
               (⟨(some 215), .load none (.t 214), none⟩, .R [] [(3, []), (2, []), (1, [])]),
               (⟨(some 216), .mov (.t 12), none⟩, .L),
               (⟨(some 217), .idxAddrS 1 (.t 216) (.c (.int .i64 2)), none⟩, .L),
               (⟨(some 218), .load none (.t 217), none⟩, .R [] [(3, []), (2, []), (1, [])]),
               (⟨(some 219), .bin .and .no (.t 215) (.t 218), none⟩, .L),
               (⟨(some 220), .bin .xor .no (.t 212) (.t 219), none⟩, .L),
               (⟨(some 221), .mov (.t 12), none⟩, .L),
               (⟨(some 222), .idxAddrS 1 (.t 221) (.c (.int .i64 1)), none⟩, .L),
               (⟨(some 223), .load none (.t 222), none⟩, .R [] [(3, []), (2, []), (1, [])]),
               (⟨(some 224), .mov (.t 12), none⟩, .L),
               (⟨(some 225), .idxAddrS 1 (.t 224) (.c (.int .i64 2)), none⟩, .L),
               (⟨(some 226), .load none (.t 225), none⟩, .R [] [(3, []), (2, []), (1, [])]),
               (⟨(some 227), .bin .and .no (.t 223) (.t 226), none⟩, .L),
               (⟨(some 228), .bin .xor .no (.t 220) (.t 227), none⟩, .L),
               (⟨(some 229), .bin .add .no (.t 205) (.t 228), none⟩, .L),
               (⟨(some 15), .mov (.t 229), none⟩, .L)])
            (.dops 1 [0] [(⟨(some 230), .mov (.t 14), none⟩, .L),
              (⟨(some 231), .mov (.t 15), none⟩, .L),
              (⟨(some 232), .bin .add .no (.t 230) (.t 231), none⟩, .L),
              (⟨(some 233), .mov (.t 12), none⟩, .L),
              (⟨(some 234), .idxAddrS 1 (.t 233) (.c (.int .i64 0)), none⟩, .L),
              (⟨(some 235), .load none (.t 234), none⟩, .R [] []),
              (⟨(some 236), .mov (.t 12), none⟩, .L),
              (⟨(some 237), .idxAddrS 1 (.t 236) (.c (.int .i64 1)), none⟩, .L),
              (⟨(some 238), .load none (.t 237), none⟩, .R [] []),
              (⟨(some 239), .mov (.t 12), none⟩, .L),
              (⟨(some 240), .idxAddrS 1 (.t 239) (.c (.int .i64 2)), none⟩, .L),
              (⟨(some 241), .load none (.t 240), none⟩, .R [] []),
              (⟨(some 242), .mov (.t 12), none⟩, .L),
              (⟨(some 243), .idxAddrS 1 (.t 242) (.c (.int .i64 3)), none⟩, .L),
              (⟨(some 244), .load none (.t 243), none⟩, .R [] []),
              (⟨(some 245), .mov (.t 14), none⟩, .L),
              (⟨(some 246), .bin .add .no (.t 244) (.t 245), none⟩, .L),
              (⟨(some 247), .mov (.t 12), none⟩, .L),
              (⟨(some 248), .idxAddrS 1 (.t 247) (.c (.int .i64 4)), none⟩, .L),
              (⟨(some 249), .load none (.t 248), none⟩, .R [] []),
              (⟨(some 250), .mov (.t 12), none⟩, .L),
              (⟨(some 251), .idxAddrS 1 (.t 250) (.c (.int .i64 5)), none⟩, .L),
              (⟨(some 252), .load none (.t 251), none⟩, .R [] []),
              (⟨(some 253), .mov (.t 12), none⟩, .L),
              (⟨(some 254), .idxAddrS 1 (.t 253) (.c (.int .i64 6)), none⟩, .L),
              (⟨(some 255), .load none (.t 254), none⟩, .R [] []),
              (⟨(some 256), .buildS [(.int .u32 0), (.int .u32 0), (.int .u32 0), (.int .u32 0), (.int .u32 0), (.int .u32 0), (.int .u32 0), (.int .u32 0)] 8 1 [(0, 1, (.t 232)), (1, 1, (.t 235)), (2, 1, (.t 238)), (3, 1, (.t 241)), (4, 1, (.t 246)), (5, 1, (.t 249)), (6, 1, (.t 252)), (7, 1, (.t 255))], none⟩, .Al 0),
              (⟨(some 12), .mov (.t 256), none⟩, .L)]))))
          (.ops [⟨(some 145), .mov (.t 13), none⟩,
            ⟨(some 146), .bin .add .no (.t 145) (.c (.int .i64 1)), none⟩,
            ⟨(some 13), .mov (.t 146), none⟩]))
def L_purserref04_Of_3 : C := .seq (.seq (.ops [⟨(some 257), .mov (.t 16), none⟩,
             ⟨(some 258), .bin .lss .no (.t 257) (.c (.int .i64 8)), none⟩])
          (.cond (.t 258)
           (.skip)
           (.exit 8)))
         (.seq (.block 9 (.dops 0 [] [(⟨(some 261), .mov (.t 3), none⟩, .L),
             (⟨(some 262), .mov (.t 16), none⟩, .L),
             (⟨(some 263), .mov (.t 3), none⟩, .L),
             (⟨(some 264), .mov (.t 16), none⟩, .L),
             (⟨(some 265), .idxAddrS 1 (.t 263) (.t 264), none⟩, .L),
             (⟨(some 266), .load none (.t 265), none⟩, .R [] []),
             (⟨(some 267), .mov (.t 12), none⟩, .L),
             (⟨(some 268), .mov (.t 16), none⟩, .L),
             (⟨(some 269), .idxAddrS 1 (.t 267) (.t 268), none⟩, .L),
             (⟨(some 270), .load none (.t 269), none⟩, .R [] []),
             (⟨(some 271), .bin .add .no (.t 266) (.t 270), none⟩, .L),
             (⟨(some 272), .idxAddrS 1 (.t 261) (.t 262), none⟩, .L),
             (⟨none, .store 1 (.t 272) (.t 271), none⟩, .B [])]))
         (.ops [⟨(some 259), .mov (.t 16), none⟩,
           ⟨(some 260), .bin .add .no (.t 259) (.c (.int .i64 1)), none⟩,
           ⟨(some 16), .mov (.t 260), none⟩]))
def R_purserref04_Of_0 : C := .seq (.ops [⟨(some 16), .mov (.c (.int .i64 0)), none⟩])
       (.block 8 (.loop (L_purserref04_Of_3)))
def R_purserref04_Of_1 : C := .seq (.ops [⟨(some 12), .mov (.c (.slice none 0 (some 0) 0)), none⟩])
       (.seq (.ops [⟨(some 140), .mov (.t 12), none⟩,
          ⟨(some 141), .mov (.t 3), none⟩,
          ⟨(some 142), .append 1 4 (.t 140) (.t 141), none⟩,
          ⟨(some 12), .mov (.t 142), none⟩])
       (.seq (.seq (.ops [⟨(some 13), .mov (.c (.int .i64 0)), none⟩])
        (.block 6 (.loop (L_purserref04_Of_2))))
       (R_purserref04_Of_0)))
def R_purserref04_Of_2 : C := .seq (.seq (.ops [⟨(some 9), .mov (.c (.int .i64 16)), none⟩])
        (.block 4 (.loop (L_purserref04_Of_1))))
       (R_purserref04_Of_1)
def R_purserref04_Of_3 : C := .ops [⟨(some 27), .mov (.t 6), none⟩,
       ⟨(some 28), .bin .add .no (.t 27) (.c (.int .i64 64)), none⟩,
       ⟨(some 6), .mov (.t 28), none⟩]
def L_purserref04_Of_4 : C := .seq (.seq (.ops [⟨(some 23), .mov (.t 6), none⟩,
         ⟨(some 24), .mov (.t 5), none⟩,
         ⟨(some 25), .len false (.t 24), none⟩,
         ⟨(some 26), .bin .lss .no (.t 23) (.t 25), none⟩])
      (.cond (.t 26)
       (.skip)
       (.exit 0)))
     (.seq (.block 1 (.seq (.ops [⟨(some 29), .mkslice [(.int .u32 0)] 4 (.c (.int .i64 64)) (.c (.int .i64 64)), none⟩,
          ⟨(some 7), .mov (.t 29), none⟩])
       (.seq (.seq (.ops [⟨(some 8), .mov (.c (.int .i64 0)), none⟩])
        (.block 2 (.loop (L_purserref04_Of_0))))
       (R_purserref04_Of_2))))
     (R_purserref04_Of_3))
def L_purserref04_Of_5 : C := .seq (.seq (.ops [⟨(some 273), .mov (.t 18), none⟩,
         ⟨(some 274), .bin .lss .no (.t 273) (.c (.int .i64 32)), none⟩])
      (.cond (.t 274)
       (.skip)
       (.exit 10)))
     (.seq (.block 11 (.ops [⟨(some 277), .mov (.t 18), none⟩,
         ⟨(some 278), .mov (.t 3), none⟩,
         ⟨(some 279), .mov (.t 18), none⟩,
         ⟨(some 280), .bin .quo .no (.t 279) (.c (.int .i64 4)), none⟩,
         ⟨(some 281), .idxAddrS 1 (.t 278) (.t 280), none⟩,
         ⟨(some 282), .load none (.t 281), none⟩,
         ⟨(some 283), .mov (.t 18), none⟩,
         ⟨(some 284), .bin .rem .no (.t 283) (.c (.int .i64 4)), none⟩,
         ⟨(some 285), .bin .mul .no (.c (.int .i64 8)) (.t 284), none⟩,
         ⟨(some 286), .bin .sub .no (.c (.int .i64 24)) (.t 285), none⟩,
         ⟨(some 287), .conv .u64 (.t 286), none⟩,
         ⟨(some 288), .bin .shr .no (.t 282) (.t 287), none⟩,
         ⟨(some 289), .conv .u8 (.t 288), none⟩,
         ⟨(some 290), .idxAddrA 32 1 (.t 17) (.t 277), none⟩,
         ⟨none, .store 1 (.t 290) (.t 289), none⟩]))
     (.ops [⟨(some 275), .mov (.t 18), none⟩,
       ⟨(some 276), .bin .add .no (.t 275) (.c (.int .i64 1)), none⟩,
       ⟨(some 18), .mov (.t 276), none⟩]))
def R_purserref04_Of_4 : C := .seq (.ops [⟨(some 291), .load (some 32) (.t 17), none⟩,
     ⟨none, .store 32 (.t 2) (.t 291), none⟩])
  (.ret)
def R_purserref04_Of_5 : C := .seq (.ops [⟨(some 17), .alloc [(.int .u8 0), (.int .u8 0), (.int .u8 0), (.int .u8 0), (.int .u8 0), (.int .u8 0), (.int .u8 0), (.int .u8 0), (.int .u8 0), (.int .u8 0), (.int .u8 0), (.int .u8 0), (.int .u8 0), (.int .u8 0), (.int .u8 0), (.int .u8 0), (.int .u8 0), (.int .u8 0), (.int .u8 0), (.int .u8 0), (.int .u8 0), (.int .u8 0), (.int .u8 0), (.int .u8 0), (.int .u8 0), (.int .u8 0), (.int .u8 0), (.int .u8 0), (.int .u8 0), (.int .u8 0), (.int .u8 0), (.int .u8 0)], none⟩])
  (.seq (.seq (.ops [⟨(some 18), .mov (.c (.int .i64 0)), none⟩])
   (.block 10 (.loop (L_purserref04_Of_5))))
  (R_purserref04_Of_4))
/-- purser/purserref04.Of -/
def f_purserref04_Of : Fn := ⟨292, [.cell 2 (some 32)],
  .seq (.ops [⟨(some 2), .alloc [(.int .u8 0), (.int .u8 0), (.int .u8 0), (.int .u8 0), (.int .u8 0), (.int .u8 0), (.int .u8 0), (.int .u8 0), (.int .u8 0), (.int .u8 0), (.int .u8 0), (.int .u8 0), (.int .u8 0), (.int .u8 0), (.int .u8 0), (.int .u8 0), (.int .u8 0), (.int .u8 0), (.int .u8 0), (.int .u8 0), (.int .u8 0), (.int .u8 0), (.int .u8 0), (.int .u8 0), (.int .u8 0), (.int .u8 0), (.int .u8 0), (.int .u8 0), (.int .u8 0), (.int .u8 0), (.int .u8 0), (.int .u8 0)], none⟩])
  (.seq (.ops [⟨(some 19), .call k_purserref04_Square [], none⟩,
     ⟨(some 3), .mov (.t 19), none⟩])
  (.seq (.ops [⟨(some 20), .call k_purserref04_Cube [], none⟩,
     ⟨(some 4), .mov (.t 20), none⟩])
  (.seq (.ops [⟨(some 21), .mov (.t 0), none⟩,
     ⟨(some 22), .call k_purserref04_padded [(.t 21)], none⟩,
     ⟨(some 5), .mov (.t 22), none⟩])
  (.seq (.seq (.ops [⟨(some 6), .mov (.c (.int .i64 0)), none⟩])
   (.block 0 (.loop (L_purserref04_Of_4))))
  (R_purserref04_Of_5)))))⟩
/-- purser/sha.New -/
def f_sha_New : Fn := ⟨4, [.tmp 0],
  .seq (.ops [⟨(some 0), .mov (.c (.ptr none)), none⟩])
  (.seq (.ops [⟨(some 1), .call k_sha_squareTable [], none⟩,
     ⟨(some 2), .build [(.int .u32 0), (.int .u32 0), (.int .u32 0), (.int .u32 0), (.int .u32 0), (.int .u32 0), (.int .u32 0), (.int .u32 0), (.int .u8 0), (.int .u8 0), (.int .u8 0), (.int .u8 0), (.int .u8 0), (.int .u8 0), (.int .u8 0), (.int .u8 0), (.int .u8 0), (.int .u8 0), (.int .u8 0), (.int .u8 0), (.int .u8 0), (.int .u8 0), (.int .u8 0), (.int .u8 0), (.int .u8 0), (.int .u8 0), (.int .u8 0), (.int .u8 0), (.int .u8 0), (.int .u8 0), (.int .u8 0), (.int .u8 0), (.int .u8 0), (.int .u8 0), (.int .u8 0), (.int .u8 0), (.int .u8 0), (.int .u8 0), (.int .u8 0), (.int .u8 0), (.int .u8 0), (.int .u8 0), (.int .u8 0), (.int .u8 0), (.int .u8 0), (.int .u8 0), (.int .u8 0), (.int .u8 0), (.int .u8 0), (.int .u8 0), (.int .u8 0), (.int .u8 0), (.int .u8 0), (.int .u8 0), (.int .u8 0), (.int .u8 0), (.int .u8 0), (.int .u8 0), (.int .u8 0), (.int .u8 0), (.int .u8 0), (.int .u8 0), (.int .u8 0), (.int .u8 0), (.int .u8 0), (.int .u8 0), (.int .u8 0), (.int .u8 0), (.int .u8 0), (.int .u8 0), (.int .u8 0), (.int .u8 0), (.int .u64 0), (.bool false)] [(0, 8, (.t 1)), (73, 1, (.c (.bool true)))], none⟩,
     ⟨(some 3), .box (.t 2), none⟩,
     ⟨(some 0), .mov (.t 3), none⟩])
  (.ret))⟩
/-- (*purser/sha.Sum).Copy -/
def f_sha_Sum_Copy : Fn := ⟨10, [.tmp 2],
  .seq (.ops [⟨(some 2), .mov (.c (.ptr none)), none⟩])
  (.seq (.seq (.ops [⟨(some 4), .mov (.t 0), none⟩,
      ⟨(some 5), .call k_sha_Sum_sums [(.t 4)], none⟩,
      ⟨(some 6), .un .not (.t 5), none⟩])
   (.cond (.t 6)
    (.seq (.ops [⟨(some 2), .mov (.c (.ptr none)), none⟩])
     (.ret))
    (.skip)))
  (.seq (.ops [⟨(some 7), .mov (.t 0), none⟩,
     ⟨(some 8), .nilchk (.t 7), none⟩,
     ⟨(some 9), .load (some 74) (.t 8), none⟩,
     ⟨(some 3), .alloc [(.int .u32 0), (.int .u32 0), (.int .u32 0), (.int .u32 0), (.int .u32 0), (.int .u32 0), (.int .u32 0), (.int .u32 0), (.int .u8 0), (.int .u8 0), (.int .u8 0), (.int .u8 0), (.int .u8 0), (.int .u8 0), (.int .u8 0), (.int .u8 0), (.int .u8 0), (.int .u8 0), (.int .u8 0), (.int .u8 0), (.int .u8 0), (.int .u8 0), (.int .u8 0), (.int .u8 0), (.int .u8 0), (.int .u8 0), (.int .u8 0), (.int .u8 0), (.int .u8 0), (.int .u8 0), (.int .u8 0), (.int .u8 0), (.int .u8 0), (.int .u8 0), (.int .u8 0), (.int .u8 0), (.int .u8 0), (.int .u8 0), (.int .u8 0), (.int .u8 0), (.int .u8 0), (.int .u8 0), (.int .u8 0), (.int .u8 0), (.int .u8 0), (.int .u8 0), (.int .u8 0), (.int .u8 0), (.int .u8 0), (.int .u8 0), (.int .u8 0), (.int .u8 0), (.int .u8 0), (.int .u8 0), (.int .u8 0), (.int .u8 0), (.int .u8 0), (.int .u8 0), (.int .u8 0), (.int .u8 0), (.int .u8 0), (.int .u8 0), (.int .u8 0), (.int .u8 0), (.int .u8 0), (.int .u8 0), (.int .u8 0), (.int .u8 0), (.int .u8 0), (.int .u8 0), (.int .u8 0), (.int .u8 0), (.int .u64 0), (.bool false)], none⟩,
     ⟨none, .store 74 (.t 3) (.t 9), none⟩])
  (.seq (.ops [⟨(some 2), .mov (.t 3), none⟩])
  (.ret))))⟩
def A_sha_Sum_Write_0 : C := .ops [⟨(some 5), .mov (.t 12), none⟩]
theorem u_A_sha_Sum_Write_0 (Q : Orc) (N n : Nat) (r : Option Nat) (st : St) : evC Q N n r A_sha_Sum_Write_0 st = evC Q N n r (.ops [⟨(some 5), .mov (.t 12), none⟩]) st := _root_.id rfl
def B_sha_Sum_Write_0 : C := .block 1 (.seq (.seq (.ops [⟨(some 13), .mov (.t 5), none⟩,
           ⟨(some 14), .un .not (.t 13), none⟩])
        (.cond (.t 14)
         (.exit 1)
         (.skip)))
       (.ops [⟨(some 15), .load none (.t 2), none⟩,
         ⟨(some 16), .call k_sha_Sum_mix [(.t 15)], none⟩]))
theorem u_B_sha_Sum_Write_0 (Q : Orc) (N n : Nat) (r : Option Nat) (st : St) : evC Q N n r B_sha_Sum_Write_0 st = evC Q N n r (.block 1 (.seq (.seq (.ops [⟨(some 13), .mov (.t 5), none⟩,
           ⟨(some 14), .un .not (.t 13), none⟩])
        (.cond (.t 14)
         (.exit 1)
         (.skip)))
       (.ops [⟨(some 15), .load none (.t 2), none⟩,
         ⟨(some 16), .call k_sha_Sum_mix [(.t 15)], none⟩]))) st := _root_.id rfl
def R_sha_Sum_Write_0 : C := .seq (.ops [⟨(some 17), .load none (.t 2), none⟩,
      ⟨(some 4), .mov (.t 17), none⟩])
   (.ret)
/-- (*purser/sha.Sum).Write -/
def f_sha_Sum_Write : Fn := ⟨18, [.tmp 4],
  .seq (.ops [⟨(some 2), .box (.t 0), none⟩,
     ⟨(some 4), .mov (.c (.ptr none)), none⟩])
  (.scope (.seq (.seq (.ops [⟨(some 6), .load none (.t 2), none⟩,
       ⟨(some 7), .call k_sha_Sum_sums [(.t 6)], none⟩,
       ⟨(some 8), .un .not (.t 7), none⟩])
    (.cond (.t 8)
     (.seq (.ops [⟨(some 4), .mov (.c (.ptr none)), none⟩])
      (.ret))
     (.skip)))
   (.seq (.skip)
   (.seq (.seq (.ops [⟨(some 9), .load none (.t 2), none⟩,
       ⟨(some 10), .mov (.t 1), none⟩,
       ⟨(some 11), .call k_sha_Sum_fill [(.t 9), (.t 10)], none⟩])
    (.block 0 (.rangeF (.t 11) [12] (A_sha_Sum_Write_0)
     (B_sha_Sum_Write_0))))
   (R_sha_Sum_Write_0)))))⟩
def L_sha_Sum_End_0 : C := .seq (.ops [⟨(some 23), .bin .lss .no (.t 22) (.c (.int .i64 8)), none⟩])
     (.seq (.cond (.t 23)
       (.skip)
       (.exit 0))
     (.seq (.block 1 (.seq (.ops [⟨(some 24), .mov (.t 22), none⟩,
          ⟨(some 25), .idxArr 8 1 false (.t 21) (.t 22), none⟩,
          ⟨(some 5), .mov (.t 24), none⟩,
          ⟨(some 6), .mov (.t 25), none⟩])
       (.ops [⟨(some 26), .mov (.t 5), none⟩,
         ⟨(some 27), .bin .mul .no (.c (.int .i64 4)) (.t 26), none⟩,
         ⟨(some 28), .slcA 32 1 (.t 4) (some (.t 27)) none none, none⟩,
         ⟨(some 29), .mov (.t 6), none⟩,
         ⟨(some 30), .bin .shr .no (.t 29) (.c (.int .u64 24)), none⟩,
         ⟨(some 31), .conv .u8 (.t 30), none⟩,
         ⟨(some 32), .mov (.t 6), none⟩,
         ⟨(some 33), .bin .shr .no (.t 32) (.c (.int .u64 16)), none⟩,
         ⟨(some 34), .conv .u8 (.t 33), none⟩,
         ⟨(some 35), .mov (.t 6), none⟩,
         ⟨(some 36), .bin .shr .no (.t 35) (.c (.int .u64 8)), none⟩,
         ⟨(some 37), .conv .u8 (.t 36), none⟩,
         ⟨(some 38), .mov (.t 6), none⟩,
         ⟨(some 39), .conv .u8 (.t 38), none⟩,
         ⟨(some 40), .buildS [(.int .u8 0), (.int .u8 0), (.int .u8 0), (.int .u8 0)] 4 1 [(0, 1, (.t 31)), (1, 1, (.t 34)), (2, 1, (.t 37)), (3, 1, (.t 39))], none⟩,
         ⟨(some 41), .copy 1 (.t 28) (.t 40), none⟩])))
     (.ops [⟨(some 42), .bin .add .no (.t 22) (.c (.int .i64 1)), none⟩,
       ⟨(some 22), .mov (.t 42), none⟩])))
def R_sha_Sum_End_0 : C := .seq (.ops [⟨(some 43), .load (some 32) (.t 4), none⟩,
     ⟨none, .store 32 (.t 2) (.t 43), none⟩])
  (.ret)
/-- (*purser/sha.Sum).End -/
def f_sha_Sum_End : Fn := ⟨44, [.cell 2 (some 32)],
  .seq (.ops [⟨(some 2), .alloc [(.int .u8 0), (.int .u8 0), (.int .u8 0), (.int .u8 0), (.int .u8 0), (.int .u8 0), (.int .u8 0), (.int .u8 0), (.int .u8 0), (.int .u8 0), (.int .u8 0), (.int .u8 0), (.int .u8 0), (.int .u8 0), (.int .u8 0), (.int .u8 0), (.int .u8 0), (.int .u8 0), (.int .u8 0), (.int .u8 0), (.int .u8 0), (.int .u8 0), (.int .u8 0), (.int .u8 0), (.int .u8 0), (.int .u8 0), (.int .u8 0), (.int .u8 0), (.int .u8 0), (.int .u8 0), (.int .u8 0), (.int .u8 0)], none⟩])
  (.seq (.seq (.ops [⟨(some 7), .mov (.t 0), none⟩,
      ⟨(some 8), .call k_sha_Sum_sums [(.t 7)], none⟩,
      ⟨(some 9), .un .not (.t 8), none⟩])
   (.cond (.t 9)
    (.seq (.ops [⟨(some 10), .build [(.int .u8 0), (.int .u8 0), (.int .u8 0), (.int .u8 0), (.int .u8 0), (.int .u8 0), (.int .u8 0), (.int .u8 0), (.int .u8 0), (.int .u8 0), (.int .u8 0), (.int .u8 0), (.int .u8 0), (.int .u8 0), (.int .u8 0), (.int .u8 0), (.int .u8 0), (.int .u8 0), (.int .u8 0), (.int .u8 0), (.int .u8 0), (.int .u8 0), (.int .u8 0), (.int .u8 0), (.int .u8 0), (.int .u8 0), (.int .u8 0), (.int .u8 0), (.int .u8 0), (.int .u8 0), (.int .u8 0), (.int .u8 0)] [], none⟩,
        ⟨none, .store 32 (.t 2) (.t 10), none⟩])
     (.ret))
    (.skip)))
  (.seq (.ops [⟨(some 11), .mov (.t 0), none⟩,
     ⟨(some 12), .nilchk (.t 11), none⟩,
     ⟨(some 13), .load (some 74) (.t 12), none⟩,
     ⟨(some 3), .alloc [(.int .u32 0), (.int .u32 0), (.int .u32 0), (.int .u32 0), (.int .u32 0), (.int .u32 0), (.int .u32 0), (.int .u32 0), (.int .u8 0), (.int .u8 0), (.int .u8 0), (.int .u8 0), (.int .u8 0), (.int .u8 0), (.int .u8 0), (.int .u8 0), (.int .u8 0), (.int .u8 0), (.int .u8 0), (.int .u8 0), (.int .u8 0), (.int .u8 0), (.int .u8 0), (.int .u8 0), (.int .u8 0), (.int .u8 0), (.int .u8 0), (.int .u8 0), (.int .u8 0), (.int .u8 0), (.int .u8 0), (.int .u8 0), (.int .u8 0), (.int .u8 0), (.int .u8 0), (.int .u8 0), (.int .u8 0), (.int .u8 0), (.int .u8 0), (.int .u8 0), (.int .u8 0), (.int .u8 0), (.int .u8 0), (.int .u8 0), (.int .u8 0), (.int .u8 0), (.int .u8 0), (.int .u8 0), (.int .u8 0), (.int .u8 0), (.int .u8 0), (.int .u8 0), (.int .u8 0), (.int .u8 0), (.int .u8 0), (.int .u8 0), (.int .u8 0), (.int .u8 0), (.int .u8 0), (.int .u8 0), (.int .u8 0), (.int .u8 0), (.int .u8 0), (.int .u8 0), (.int .u8 0), (.int .u8 0), (.int .u8 0), (.int .u8 0), (.int .u8 0), (.int .u8 0), (.int .u8 0), (.int .u8 0), (.int .u64 0), (.bool false)], none⟩,
     ⟨none, .store 74 (.t 3) (.t 13), none⟩])
  (.seq (.ops [⟨(some 14), .mov (.t 0), none⟩,
     ⟨(some 15), .nilchk (.t 14), none⟩,
     ⟨(some 16), .fieldAddr 72 (.t 15), none⟩,
     ⟨(some 17), .load none (.t 16), none⟩,
     ⟨(some 18), .call k_sha_padding [(.t 17)], none⟩,
     ⟨(some 19), .call k_sha_Sum_Write [(.t 3), (.t 18)], none⟩])
  (.seq (.ops [⟨(some 4), .alloc [(.int .u8 0), (.int .u8 0), (.int .u8 0), (.int .u8 0), (.int .u8 0), (.int .u8 0), (.int .u8 0), (.int .u8 0), (.int .u8 0), (.int .u8 0), (.int .u8 0), (.int .u8 0), (.int .u8 0), (.int .u8 0), (.int .u8 0), (.int .u8 0), (.int .u8 0), (.int .u8 0), (.int .u8 0), (.int .u8 0), (.int .u8 0), (.int .u8 0), (.int .u8 0), (.int .u8 0), (.int .u8 0), (.int .u8 0), (.int .u8 0), (.int .u8 0), (.int .u8 0), (.int .u8 0), (.int .u8 0), (.int .u8 0)], none⟩])
  (.seq (.seq (.ops [⟨(some 20), .fieldAddr 0 (.t 3), none⟩,
      ⟨(some 21), .load (some 8) (.t 20), none⟩,
      ⟨(some 22), .mov (.c (.int .i64 0)), none⟩])
   (.block 0 (.loop (L_sha_Sum_End_0))))
  (R_sha_Sum_End_0))))))⟩
/-- (*purser/sha.Sum).Len -/
def f_sha_Sum_Len : Fn := ⟨10, [.tmp 2],
  .seq (.ops [⟨(some 2), .mov (.c (.int .u64 0)), none⟩])
  (.seq (.seq (.ops [⟨(some 3), .mov (.t 0), none⟩,
      ⟨(some 4), .call k_sha_Sum_sums [(.t 3)], none⟩,
      ⟨(some 5), .un .not (.t 4), none⟩])
   (.cond (.t 5)
    (.seq (.ops [⟨(some 2), .mov (.c (.int .u64 0)), none⟩])
     (.ret))
    (.skip)))
  (.seq (.ops [⟨(some 6), .mov (.t 0), none⟩,
     ⟨(some 7), .nilchk (.t 6), none⟩,
     ⟨(some 8), .fieldAddr 72 (.t 7), none⟩,
     ⟨(some 9), .load none (.t 8), none⟩,
     ⟨(some 2), .mov (.t 9), none⟩])
  (.ret)))⟩
/-- purser/sha.Of -/
def f_sha_Of : Fn := ⟨7, [.cell 2 (some 32)],
  .seq (.ops [⟨(some 2), .alloc [(.int .u8 0), (.int .u8 0), (.int .u8 0), (.int .u8 0), (.int .u8 0), (.int .u8 0), (.int .u8 0), (.int .u8 0), (.int .u8 0), (.int .u8 0), (.int .u8 0), (.int .u8 0), (.int .u8 0), (.int .u8 0), (.int .u8 0), (.int .u8 0), (.int .u8 0), (.int .u8 0), (.int .u8 0), (.int .u8 0), (.int .u8 0), (.int .u8 0), (.int .u8 0), (.int .u8 0), (.int .u8 0), (.int .u8 0), (.int .u8 0), (.int .u8 0), (.int .u8 0), (.int .u8 0), (.int .u8 0), (.int .u8 0)], none⟩])
  (.seq (.ops [⟨(some 3), .call k_sha_New [], none⟩,
     ⟨(some 4), .mov (.t 0), none⟩,
     ⟨(some 5), .call k_sha_Sum_Write [(.t 3), (.t 4)], none⟩,
     ⟨(some 6), .call k_sha_Sum_End [(.t 5)], none⟩,
     ⟨none, .store 32 (.t 2) (.t 6), none⟩])
  (.ret))⟩
/-- purser/purserlaw04.alive -/
def f_purserlaw04_alive : Fn := ⟨11, [.tmp 0],
  .seq (.ops [⟨(some 0), .mov (.c (.bool false)), none⟩])
  (.seq (.ops [⟨(some 1), .call k_sha_Of [(.c (.slice none 0 (some 0) 0))], none⟩,
     ⟨(some 2), .call k_purserlaw04_hex [(.t 1)], none⟩,
     ⟨(some 3), .bin .eql .no (.t 2) (.c (.str [101, 51, 98, 48, 99, 52, 52, 50, 57, 56, 102, 99, 49, 99, 49, 52, 57, 97, 102, 98, 102, 52, 99, 56, 57, 57, 54, 102, 98, 57, 50, 52, 50, 55, 97, 101, 52, 49, 101, 52, 54, 52, 57, 98, 57, 51, 52, 99, 97, 52, 57, 53, 57, 57, 49, 98, 55, 56, 53, 50, 98, 56, 53, 53])), none⟩,
     ⟨(some 4), .mov (.t 3), none⟩,
     ⟨(some 5), .buildS [(.int .u8 0), (.int .u8 0), (.int .u8 0)] 3 1 [(0, 1, (.c (.int .u8 97))), (1, 1, (.c (.int .u8 98))), (2, 1, (.c (.int .u8 99)))], (some (4, true))⟩,
     ⟨(some 6), .mark (.t 5), (some (4, true))⟩,
     ⟨(some 7), .call k_sha_Of [(.t 6)], (some (4, true))⟩,
     ⟨(some 8), .call k_purserlaw04_hex [(.t 7)], (some (4, true))⟩,
     ⟨(some 9), .bin .eql .no (.t 8) (.c (.str [98, 97, 55, 56, 49, 54, 98, 102, 56, 102, 48, 49, 99, 102, 101, 97, 52, 49, 52, 49, 52, 48, 100, 101, 53, 100, 97, 101, 50, 50, 50, 51, 98, 48, 48, 51, 54, 49, 97, 51, 57, 54, 49, 55, 55, 97, 57, 99, 98, 52, 49, 48, 102, 102, 54, 49, 102, 50, 48, 48, 49, 53, 97, 100])), (some (4, true))⟩,
     ⟨(some 10), .pick (.t 4) (.t 9) (.c (.bool false)), none⟩,
     ⟨(some 0), .mov (.t 10), none⟩])
  (.ret))⟩
/-- purser/purserref04.Square -/
def f_purserref04_Square : Fn := ⟨2, [.tmp 0],
  .seq (.ops [⟨(some 0), .mov (.c (.slice none 0 (some 0) 0)), none⟩])
  (.seq (.ops [⟨(some 1), .buildS [(.int .u32 0), (.int .u32 0), (.int .u32 0), (.int .u32 0), (.int .u32 0), (.int .u32 0), (.int .u32 0), (.int .u32 0)] 8 1 [(0, 1, (.c (.int .u32 1779033703))), (1, 1, (.c (.int .u32 3144134277))), (2, 1, (.c (.int .u32 1013904242))), (3, 1, (.c (.int .u32 2773480762))), (4, 1, (.c (.int .u32 1359893119))), (5, 1, (.c (.int .u32 2600822924))), (6, 1, (.c (.int .u32 528734635))), (7, 1, (.c (.int .u32 1541459225)))], none⟩,
     ⟨(some 0), .mov (.t 1), none⟩])
  (.ret))⟩
/-- purser/purserref04.Cube -/
def f_purserref04_Cube : Fn := ⟨2, [.tmp 0],
  .seq (.ops [⟨(some 0), .mov (.c (.slice none 0 (some 0) 0)), none⟩])
  (.seq (.ops [⟨(some 1), .buildS [(.int .u32 0), (.int .u32 0), (.int .u32 0), (.int .u32 0), (.int .u32 0), (.int .u32 0), (.int .u32 0), (.int .u32 0), (.int .u32 0), (.int .u32 0), (.int .u32 0), (.int .u32 0), (.int .u32 0), (.int .u32 0), (.int .u32 0), (.int .u32 0), (.int .u32 0), (.int .u32 0), (.int .u32 0), (.int .u32 0), (.int .u32 0), (.int .u32 0), (.int .u32 0), (.int .u32 0), (.int .u32 0), (.int .u32 0), (.int .u32 0), (.int .u32 0), (.int .u32 0), (.int .u32 0), (.int .u32 0), (.int .u32 0), (.int .u32 0), (.int .u32 0), (.int .u32 0), (.int .u32 0), (.int .u32 0), (.int .u32 0), (.int .u32 0), (.int .u32 0), (.int .u32 0), (.int .u32 0), (.int .u32 0), (.int .u32 0), (.int .u32 0), (.int .u32 0), (.int .u32 0), (.int .u32 0), (.int .u32 0), (.int .u32 0), (.int .u32 0), (.int .u32 0), (.int .u32 0), (.int .u32 0), (.int .u32 0), (.int .u32 0), (.int .u32 0), (.int .u32 0), (.int .u32 0), (.int .u32 0), (.int .u32 0), (.int .u32 0), (.int .u32 0), (.int .u32 0)] 64 1 [(0, 1, (.c (.int .u32 1116352408))), (1, 1, (.c (.int .u32 1899447441))), (2, 1, (.c (.int .u32 3049323471))), (3, 1, (.c (.int .u32 3921009573))), (4, 1, (.c (.int .u32 961987163))), (5, 1, (.c (.int .u32 1508970993))), (6, 1, (.c (.int .u32 2453635748))), (7, 1, (.c (.int .u32 2870763221))), (8, 1, (.c (.int .u32 3624381080))), (9, 1, (.c (.int .u32 310598401))), (10, 1, (.c (.int .u32 607225278))), (11, 1, (.c (.int .u32 1426881987))), (12, 1, (.c (.int .u32 1925078388))), (13, 1, (.c (.int .u32 2162078206))), (14, 1, (.c (.int .u32 2614888103))), (15, 1, (.c (.int .u32 3248222580))), (16, 1, (.c (.int .u32 3835390401))), (17, 1, (.c (.int .u32 4022224774))), (18, 1, (.c (.int .u32 264347078))), (19, 1, (.c (.int .u32 604807628))), (20, 1, (.c (.int .u32 770255983))), (21, 1, (.c (.int .u32 1249150122))), (22, 1, (.c (.int .u32 1555081692))), (23, 1, (.c (.int .u32 1996064986))), (24, 1, (.c (.int .u32 2554220882))), (25, 1, (.c (.int .u32 2821834349))), (26, 1, (.c (.int .u32 2952996808))), (27, 1, (.c (.int .u32 3210313671))), (28, 1, (.c (.int .u32 3336571891))), (29, 1, (.c (.int .u32 3584528711))), (30, 1, (.c (.int .u32 113926993))), (31, 1, (.c (.int .u32 338241895))), (32, 1, (.c (.int .u32 666307205))), (33, 1, (.c (.int .u32 773529912))), (34, 1, (.c (.int .u32 1294757372))), (35, 1, (.c (.int .u32 1396182291))), (36, 1, (.c (.int .u32 1695183700))), (37, 1, (.c (.int .u32 1986661051))), (38, 1, (.c (.int .u32 2177026350))), (39, 1, (.c (.int .u32 2456956037))), (40, 1, (.c (.int .u32 2730485921))), (41, 1, (.c (.int .u32 2820302411))), (42, 1, (.c (.int .u32 3259730800))), (43, 1, (.c (.int .u32 3345764771))), (44, 1, (.c (.int .u32 3516065817))), (45, 1, (.c (.int .u32 3600352804))), (46, 1, (.c (.int .u32 4094571909))), (47, 1, (.c (.int .u32 275423344))), (48, 1, (.c (.int .u32 430227734))), (49, 1, (.c (.int .u32 506948616))), (50, 1, (.c (.int .u32 659060556))), (51, 1, (.c (.int .u32 883997877))), (52, 1, (.c (.int .u32 958139571))), (53, 1, (.c (.int .u32 1322822218))), (54, 1, (.c (.int .u32 1537002063))), (55, 1, (.c (.int .u32 1747873779))), (56, 1, (.c (.int .u32 1955562222))), (57, 1, (.c (.int .u32 2024104815))), (58, 1, (.c (.int .u32 2227730452))), (59, 1, (.c (.int .u32 2361852424))), (60, 1, (.c (.int .u32 2428436474))), (61, 1, (.c (.int .u32 2756734187))), (62, 1, (.c (.int .u32 3204031479))), (63, 1, (.c (.int .u32 3329325298)))], none⟩,
     ⟨(some 0), .mov (.t 1), none⟩])
  (.ret))⟩
def L_purserref04_padded_0 : C := .seq (.seq (.ops [⟨(some 12), .mov (.t 3), none⟩,
         ⟨(some 13), .len false (.t 12), none⟩,
         ⟨(some 14), .bin .rem .no (.t 13) (.c (.int .i64 64)), none⟩,
         ⟨(some 15), .bin .neq .no (.t 14) (.c (.int .i64 56)), none⟩])
      (.cond (.t 15)
       (.skip)
       (.exit 0)))
     (.block 1 (.ops [⟨(some 16), .mov (.t 3), none⟩,
        ⟨(some 17), .buildS [(.int .u8 0)] 1 1 [(0, 1, (.c (.int .u8 0)))], none⟩,
        ⟨(some 18), .append 1 1 (.t 16) (.t 17), none⟩,
        ⟨(some 3), .mov (.t 18), none⟩]))
def L_purserref04_padded_1 : C := .seq (.seq (.ops [⟨(some 23), .mov (.t 5), none⟩,
         ⟨(some 24), .bin .lss .no (.t 23) (.c (.int .i64 8)), none⟩])
      (.cond (.t 24)
       (.skip)
       (.exit 2)))
     (.seq (.block 3 (.ops [⟨(some 27), .mov (.t 3), none⟩,
         ⟨(some 28), .mov (.t 4), none⟩,
         ⟨(some 29), .mov (.t 5), none⟩,
         ⟨(some 30), .bin .mul .no (.c (.int .i64 8)) (.t 29), none⟩,
         ⟨(some 31), .bin .sub .no (.c (.int .i64 56)) (.t 30), none⟩,
         ⟨(some 32), .conv .u64 (.t 31), none⟩,
         ⟨(some 33), .bin .shr .no (.t 28) (.t 32), none⟩,
         ⟨(some 34), .conv .u8 (.t 33), none⟩,
         ⟨(some 35), .buildS [(.int .u8 0)] 1 1 [(0, 1, (.t 34))], none⟩,
         ⟨(some 36), .append 1 1 (.t 27) (.t 35), none⟩,
         ⟨(some 3), .mov (.t 36), none⟩]))
     (.ops [⟨(some 25), .mov (.t 5), none⟩,
       ⟨(some 26), .bin .add .no (.t 25) (.c (.int .i64 1)), none⟩,
       ⟨(some 5), .mov (.t 26), none⟩]))
def R_purserref04_padded_0 : C := .seq (.ops [⟨(some 37), .mov (.t 3), none⟩,
     ⟨(some 2), .mov (.t 37), none⟩])
  (.ret)
def R_purserref04_padded_1 : C := .seq (.ops [⟨(some 19), .mov (.t 0), none⟩,
     ⟨(some 20), .len false (.t 19), none⟩,
     ⟨(some 21), .conv .u64 (.t 20), none⟩,
     ⟨(some 22), .bin .mul .no (.t 21) (.c (.int .u64 8)), none⟩,
     ⟨(some 4), .mov (.t 22), none⟩])
  (.seq (.seq (.ops [⟨(some 5), .mov (.c (.int .i64 0)), none⟩])
   (.block 2 (.loop (L_purserref04_padded_1))))
  (R_purserref04_padded_0))
/-- purser/purserref04.padded -/
def f_purserref04_padded : Fn := ⟨38, [.tmp 2],
  .seq (.ops [⟨(some 2), .mov (.c (.slice none 0 (some 0) 0)), none⟩])
  (.seq (.ops [⟨(some 3), .mov (.c (.slice none 0 (some 0) 0)), none⟩])
  (.seq (.ops [⟨(some 6), .mov (.t 3), none⟩,
     ⟨(some 7), .mov (.t 0), none⟩,
     ⟨(some 8), .append 1 1 (.t 6) (.t 7), none⟩,
     ⟨(some 3), .mov (.t 8), none⟩])
  (.seq (.ops [⟨(some 9), .mov (.t 3), none⟩,
     ⟨(some 10), .buildS [(.int .u8 0)] 1 1 [(0, 1, (.c (.int .u8 128)))], none⟩,
     ⟨(some 11), .append 1 1 (.t 9) (.t 10), none⟩,
     ⟨(some 3), .mov (.t 11), none⟩])
  (.seq (.block 0 (.loop (L_purserref04_padded_0)))
  (R_purserref04_padded_1)))))⟩
/-- purser/purserref04.turned -/
def f_purserref04_turned : Fn := ⟨13, [.tmp 4],
  .seq (.ops [⟨(some 4), .mov (.c (.int .u32 0)), none⟩])
  (.seq (.ops [⟨(some 5), .mov (.t 0), none⟩,
     ⟨(some 6), .mov (.t 1), none⟩,
     ⟨(some 7), .bin .shr .no (.t 5) (.t 6), none⟩,
     ⟨(some 8), .mov (.t 0), none⟩,
     ⟨(some 9), .mov (.t 1), none⟩,
     ⟨(some 10), .bin .sub .no (.c (.int .u64 32)) (.t 9), none⟩,
     ⟨(some 11), .bin .shl .no (.t 8) (.t 10), none⟩,
     ⟨(some 12), .bin .or .no (.t 7) (.t 11), none⟩,
     ⟨(some 4), .mov (.t 12), none⟩])
  (.ret))⟩
/-- purser/sha.squareTable -/
def f_sha_squareTable : Fn := ⟨2, [.cell 0 (some 8)],
  .seq (.ops [⟨(some 0), .alloc [(.int .u32 0), (.int .u32 0), (.int .u32 0), (.int .u32 0), (.int .u32 0), (.int .u32 0), (.int .u32 0), (.int .u32 0)], none⟩])
  (.seq (.ops [⟨(some 1), .build [(.int .u32 0), (.int .u32 0), (.int .u32 0), (.int .u32 0), (.int .u32 0), (.int .u32 0), (.int .u32 0), (.int .u32 0)] [(0, 1, (.c (.int .u32 1779033703))), (1, 1, (.c (.int .u32 3144134277))), (2, 1, (.c (.int .u32 1013904242))), (3, 1, (.c (.int .u32 2773480762))), (4, 1, (.c (.int .u32 1359893119))), (5, 1, (.c (.int .u32 2600822924))), (6, 1, (.c (.int .u32 528734635))), (7, 1, (.c (.int .u32 1541459225)))], none⟩,
     ⟨none, .store 8 (.t 0) (.t 1), none⟩])
  (.ret))⟩
/-- (*purser/sha.Sum).sums -/
def f_sha_Sum_sums : Fn := ⟨11, [.tmp 2],
  .seq (.ops [⟨(some 2), .mov (.c (.bool false)), none⟩])
  (.seq (.ops [⟨(some 3), .mov (.t 0), none⟩,
     ⟨(some 4), .bin .neq (.ref .p) (.t 3) (.c (.ptr none)), none⟩,
     ⟨(some 5), .mov (.t 4), none⟩,
     ⟨(some 6), .mov (.t 0), (some (5, true))⟩,
     ⟨(some 7), .nilchk (.t 6), (some (5, true))⟩,
     ⟨(some 8), .fieldAddr 73 (.t 7), (some (5, true))⟩,
     ⟨(some 9), .load none (.t 8), (some (5, true))⟩,
     ⟨(some 10), .pick (.t 5) (.t 9) (.c (.bool false)), none⟩,
     ⟨(some 2), .mov (.t 10), none⟩])
  (.ret))⟩
/-- (*purser/sha.Sum).fill -/
def f_sha_Sum_fill : Fn := ⟨6, [.tmp 4],
  .seq (.ops [⟨(some 2), .box (.t 0), none⟩,
     ⟨(some 3), .box (.t 1), none⟩,
     ⟨(some 4), .mov (.c .nilFn), none⟩])
  (.seq (.ops [⟨(some 5), .mkfn k_sha_Sum_fill_1 [] [(.t 3), (.t 2)], none⟩,
     ⟨(some 4), .mov (.t 5), none⟩])
  (.ret))⟩
def L_sha_Sum_mix_0 : C := .seq (.ops [⟨(some 63), .bin .lss .no (.t 62) (.c (.int .i64 64)), none⟩])
     (.seq (.cond (.t 63)
       (.skip)
       (.exit 0))
     (.seq (.block 1 (.seq (.ops [⟨(some 64), .mov (.t 62), none⟩,
          ⟨(some 12), .mov (.t 64), none⟩])
       (.seq (.ops [⟨(some 65), .mov (.t 8), none⟩,
          ⟨(some 66), .mov (.t 9), none⟩,
          ⟨(some 67), .bin .and .no (.t 65) (.t 66), none⟩,
          ⟨(some 68), .mov (.t 8), none⟩,
          ⟨(some 69), .un .xor (.t 68), none⟩,
          ⟨(some 70), .mov (.t 10), none⟩,
          ⟨(some 71), .bin .and .no (.t 69) (.t 70), none⟩,
          ⟨(some 72), .bin .xor .no (.t 67) (.t 71), none⟩,
          ⟨(some 13), .mov (.t 72), none⟩])
       (.seq (.ops [⟨(some 73), .mov (.t 4), none⟩,
          ⟨(some 74), .mov (.t 5), none⟩,
          ⟨(some 75), .bin .and .no (.t 73) (.t 74), none⟩,
          ⟨(some 76), .mov (.t 4), none⟩,
          ⟨(some 77), .mov (.t 6), none⟩,
          ⟨(some 78), .bin .and .no (.t 76) (.t 77), none⟩,
          ⟨(some 79), .bin .xor .no (.t 75) (.t 78), none⟩,
          ⟨(some 80), .mov (.t 5), none⟩,
          ⟨(some 81), .mov (.t 6), none⟩,
          ⟨(some 82), .bin .and .no (.t 80) (.t 81), none⟩,
          ⟨(some 83), .bin .xor .no (.t 79) (.t 82), none⟩,
          ⟨(some 14), .mov (.t 83), none⟩])
       (.seq (.dops 0 [] [(⟨(some 84), .mov (.t 11), none⟩, .L),
          (⟨(some 85), .mov (.t 8), none⟩, .L),
          (⟨(some 86), .call k_sha_turned [(.t 85), (.c (.int .i64 6)), (.c (.int .i64 11)), (.c (.int .i64 25))], none⟩, .B []),
          (⟨(some 87), .bin .add .no (.t 84) (.t 86), none⟩, .L),
          (⟨(some 88), .mov (.t 13), none⟩, .L),
          (⟨(some 89), .bin .add .no (.t 87) (.t 88), none⟩, .L),
          (⟨(some 90), .mov (.t 12), none⟩, .L),
          (⟨(some 91), .idxAddrA 64 1 (.t 2) (.t 90), none⟩, .L),
          (⟨(some 92), .load none (.t 91), none⟩, .R [] [(1, [])]),
          (⟨(some 93), .bin .add .no (.t 89) (.t 92), none⟩, .L),
          (⟨(some 94), .mov (.t 12), none⟩, .L),
          (⟨(some 95), .idxAddrA 64 1 (.t 3) (.t 94), none⟩, .L),
          (⟨(some 96), .load none (.t 95), none⟩, .R [] [(1, [])]),
          (⟨(some 97), .bin .add .no (.t 93) (.t 96), none⟩, .L),
          (⟨(some 15), .mov (.t 97), none⟩, .L)])
       (.seq (.ops [⟨(some 98), .mov (.t 4), none⟩,
          ⟨(some 99), .call k_sha_turned [(.t 98), (.c (.int .i64 2)), (.c (.int .i64 13)), (.c (.int .i64 22))], none⟩,
          ⟨(some 100), .mov (.t 14), none⟩,
          ⟨(some 101), .bin .add .no (.t 99) (.t 100), none⟩,
          ⟨(some 16), .mov (.t 101), none⟩])
       (.ops [⟨(some 102), .mov (.t 15), none⟩,
         ⟨(some 103), .mov (.t 16), none⟩,
         ⟨(some 104), .bin .add .no (.t 102) (.t 103), none⟩,
         ⟨(some 105), .mov (.t 4), none⟩,
         ⟨(some 106), .mov (.t 5), none⟩,
         ⟨(some 107), .mov (.t 6), none⟩,
         ⟨(some 108), .mov (.t 7), none⟩,
         ⟨(some 109), .mov (.t 15), none⟩,
         ⟨(some 110), .bin .add .no (.t 108) (.t 109), none⟩,
         ⟨(some 111), .mov (.t 8), none⟩,
         ⟨(some 112), .mov (.t 9), none⟩,
         ⟨(some 113), .mov (.t 10), none⟩,
         ⟨(some 4), .mov (.t 104), none⟩,
         ⟨(some 5), .mov (.t 105), none⟩,
         ⟨(some 6), .mov (.t 106), none⟩,
         ⟨(some 7), .mov (.t 107), none⟩,
         ⟨(some 8), .mov (.t 110), none⟩,
         ⟨(some 9), .mov (.t 111), none⟩,
         ⟨(some 10), .mov (.t 112), none⟩,
         ⟨(some 11), .mov (.t 113), none⟩])))))))
     (.ops [⟨(some 114), .bin .add .no (.t 62) (.c (.int .i64 1)), none⟩,
       ⟨(some 62), .mov (.t 114), none⟩])))
def L_sha_Sum_mix_1 : C := .seq (.ops [⟨(some 125), .bin .lss .no (.t 124) (.c (.int .i64 8)), none⟩])
    (.seq (.cond (.t 125)
      (.skip)
      (.exit 2))
    (.seq (.block 3 (.seq (.ops [⟨(some 126), .mov (.t 124), none⟩,
         ⟨(some 127), .idxArr 8 1 false (.t 123) (.t 124), none⟩,
         ⟨(some 17), .mov (.t 126), none⟩,
         ⟨(some 18), .mov (.t 127), none⟩])
      (.dops 0 [] [(⟨(some 128), .mov (.t 0), none⟩, .L),
        (⟨(some 129), .mov (.t 17), none⟩, .L),
        (⟨(some 130), .nilchk (.t 128), none⟩, .L),
        (⟨(some 131), .fieldAddr 0 (.t 130), none⟩, .L),
        (⟨(some 132), .idxAddrA 8 1 (.t 131) (.t 129), none⟩, .L),
        (⟨(some 133), .load none (.t 132), none⟩, .R [] []),
        (⟨(some 134), .mov (.t 18), none⟩, .L),
        (⟨(some 135), .bin .add .no (.t 133) (.t 134), none⟩, .L),
        (⟨(some 136), .nilchk (.t 128), none⟩, .L),
        (⟨(some 137), .fieldAddr 0 (.t 136), none⟩, .L),
        (⟨(some 138), .idxAddrA 8 1 (.t 137) (.t 129), none⟩, .L),
        (⟨none, .store 1 (.t 138) (.t 135), none⟩, .B [])])))
    (.ops [⟨(some 139), .bin .add .no (.t 124) (.c (.int .i64 1)), none⟩,
      ⟨(some 124), .mov (.t 139), none⟩])))
def R_sha_Sum_mix_0 : C := .seq (.ops [⟨(some 115), .mov (.t 4), none⟩,
     ⟨(some 116), .mov (.t 5), none⟩,
     ⟨(some 117), .mov (.t 6), none⟩,
     ⟨(some 118), .mov (.t 7), none⟩,
     ⟨(some 119), .mov (.t 8), none⟩,
     ⟨(some 120), .mov (.t 9), none⟩,
     ⟨(some 121), .mov (.t 10), none⟩,
     ⟨(some 122), .mov (.t 11), none⟩,
     ⟨(some 123), .build [(.int .u32 0), (.int .u32 0), (.int .u32 0), (.int .u32 0), (.int .u32 0), (.int .u32 0), (.int .u32 0), (.int .u32 0)] [(0, 1, (.t 115)), (1, 1, (.t 116)), (2, 1, (.t 117)), (3, 1, (.t 118)), (4, 1, (.t 119)), (5, 1, (.t 120)), (6, 1, (.t 121)), (7, 1, (.t 122))], none⟩,
     ⟨(some 124), .mov (.c (.int .i64 0)), none⟩])
  (.block 2 (.loop (L_sha_Sum_mix_1)))
/-- (*purser/sha.Sum).mix -/
def f_sha_Sum_mix : Fn := ⟨140, [],
  .seq (.ops [⟨(some 19), .call k_sha_cubeTable [], none⟩,
     ⟨(some 20), .mov (.t 0), none⟩,
     ⟨(some 21), .call k_sha_Sum_schedule [(.t 20)], none⟩,
     ⟨(some 2), .alloc [(.int .u32 0), (.int .u32 0), (.int .u32 0), (.int .u32 0), (.int .u32 0), (.int .u32 0), (.int .u32 0), (.int .u32 0), (.int .u32 0), (.int .u32 0), (.int .u32 0), (.int .u32 0), (.int .u32 0), (.int .u32 0), (.int .u32 0), (.int .u32 0), (.int .u32 0), (.int .u32 0), (.int .u32 0), (.int .u32 0), (.int .u32 0), (.int .u32 0), (.int .u32 0), (.int .u32 0), (.int .u32 0), (.int .u32 0), (.int .u32 0), (.int .u32 0), (.int .u32 0), (.int .u32 0), (.int .u32 0), (.int .u32 0), (.int .u32 0), (.int .u32 0), (.int .u32 0), (.int .u32 0), (.int .u32 0), (.int .u32 0), (.int .u32 0), (.int .u32 0), (.int .u32 0), (.int .u32 0), (.int .u32 0), (.int .u32 0), (.int .u32 0), (.int .u32 0), (.int .u32 0), (.int .u32 0), (.int .u32 0), (.int .u32 0), (.int .u32 0), (.int .u32 0), (.int .u32 0), (.int .u32 0), (.int .u32 0), (.int .u32 0), (.int .u32 0), (.int .u32 0), (.int .u32 0), (.int .u32 0), (.int .u32 0), (.int .u32 0), (.int .u32 0), (.int .u32 0)], none⟩,
     ⟨(some 3), .alloc [(.int .u32 0), (.int .u32 0), (.int .u32 0), (.int .u32 0), (.int .u32 0), (.int .u32 0), (.int .u32 0), (.int .u32 0), (.int .u32 0), (.int .u32 0), (.int .u32 0), (.int .u32 0), (.int .u32 0), (.int .u32 0), (.int .u32 0), (.int .u32 0), (.int .u32 0), (.int .u32 0), (.int .u32 0), (.int .u32 0), (.int .u32 0), (.int .u32 0), (.int .u32 0), (.int .u32 0), (.int .u32 0), (.int .u32 0), (.int .u32 0), (.int .u32 0), (.int .u32 0), (.int .u32 0), (.int .u32 0), (.int .u32 0), (.int .u32 0), (.int .u32 0), (.int .u32 0), (.int .u32 0), (.int .u32 0), (.int .u32 0), (.int .u32 0), (.int .u32 0), (.int .u32 0), (.int .u32 0), (.int .u32 0), (.int .u32 0), (.int .u32 0), (.int .u32 0), (.int .u32 0), (.int .u32 0), (.int .u32 0), (.int .u32 0), (.int .u32 0), (.int .u32 0), (.int .u32 0), (.int .u32 0), (.int .u32 0), (.int .u32 0), (.int .u32 0), (.int .u32 0), (.int .u32 0), (.int .u32 0), (.int .u32 0), (.int .u32 0), (.int .u32 0), (.int .u32 0)], none⟩,
     ⟨none, .store 64 (.t 2) (.t 19), none⟩,
     ⟨none, .store 64 (.t 3) (.t 21), none⟩])
  (.seq (.dops 0 [] [(⟨(some 22), .mov (.t 0), none⟩, .L),
     (⟨(some 23), .nilchk (.t 22), none⟩, .L),
     (⟨(some 24), .fieldAddr 0 (.t 23), none⟩, .L),
     (⟨(some 25), .idxAddrA 8 1 (.t 24) (.c (.int .i64 0)), none⟩, .L),
     (⟨(some 26), .load none (.t 25), none⟩, .R [] []),
     (⟨(some 27), .mov (.t 0), none⟩, .L),
     (⟨(some 28), .nilchk (.t 27), none⟩, .L),
     (⟨(some 29), .fieldAddr 0 (.t 28), none⟩, .L),
     (⟨(some 30), .idxAddrA 8 1 (.t 29) (.c (.int .i64 1)), none⟩, .L),
     (⟨(some 31), .load none (.t 30), none⟩, .R [] []),
     (⟨(some 32), .mov (.t 0), none⟩, .L),
     (⟨(some 33), .nilchk (.t 32), none⟩, .L),
     (⟨(some 34), .fieldAddr 0 (.t 33), none⟩, .L),
     (⟨(some 35), .idxAddrA 8 1 (.t 34) (.c (.int .i64 2)), none⟩, .L),
     (⟨(some 36), .load none (.t 35), none⟩, .R [] []),
     (⟨(some 37), .mov (.t 0), none⟩, .L),
     (⟨(some 38), .nilchk (.t 37), none⟩, .L),
     (⟨(some 39), .fieldAddr 0 (.t 38), none⟩, .L),
     (⟨(some 40), .idxAddrA 8 1 (.t 39) (.c (.int .i64 3)), none⟩, .L),
     (⟨(some 41), .load none (.t 40), none⟩, .R [] []),
     (⟨(some 42), .mov (.t 0), none⟩, .L),
     (⟨(some 43), .nilchk (.t 42), none⟩, .L),
     (⟨(some 44), .fieldAddr 0 (.t 43), none⟩, .L),
     (⟨(some 45), .idxAddrA 8 1 (.t 44) (.c (.int .i64 4)), none⟩, .L),
     (⟨(some 46), .load none (.t 45), none⟩, .R [] []),
     (⟨(some 47), .mov (.t 0), none⟩, .L),
     (⟨(some 48), .nilchk (.t 47), none⟩, .L),
     (⟨(some 49), .fieldAddr 0 (.t 48), none⟩, .L),
     (⟨(some 50), .idxAddrA 8 1 (.t 49) (.c (.int .i64 5)), none⟩, .L),
     (⟨(some 51), .load none (.t 50), none⟩, .R [] []),
     (⟨(some 52), .mov (.t 0), none⟩, .L),
     (⟨(some 53), .nilchk (.t 52), none⟩, .L),
     (⟨(some 54), .fieldAddr 0 (.t 53), none⟩, .L),
     (⟨(some 55), .idxAddrA 8 1 (.t 54) (.c (.int .i64 6)), none⟩, .L),
     (⟨(some 56), .load none (.t 55), none⟩, .R [] []),
     (⟨(some 57), .mov (.t 0), none⟩, .L),
     (⟨(some 58), .nilchk (.t 57), none⟩, .L),
     (⟨(some 59), .fieldAddr 0 (.t 58), none⟩, .L),
     (⟨(some 60), .idxAddrA 8 1 (.t 59) (.c (.int .i64 7)), none⟩, .L),
     (⟨(some 61), .load none (.t 60), none⟩, .R [] []),
     (⟨(some 4), .mov (.t 26), none⟩, .L),
     (⟨(some 5), .mov (.t 31), none⟩, .L),
     (⟨(some 6), .mov (.t 36), none⟩, .L),
     (⟨(some 7), .mov (.t 41), none⟩, .L),
     (⟨(some 8), .mov (.t 46), none⟩, .L),
     (⟨(some 9), .mov (.t 51), none⟩, .L),
     (⟨(some 10), .mov (.t 56), none⟩, .L),
     (⟨(some 11), .mov (.t 61), none⟩, .L)])
  (.seq (.seq (.ops [⟨(some 62), .mov (.c (.int .i64 0)), none⟩])
   (.block 0 (.loop (L_sha_Sum_mix_0))))
  (R_sha_Sum_mix_0)))⟩
def L_sha_padding_0 : C := .seq (.ops [⟨(some 21), .bin .lss .no (.t 20) (.c (.int .i64 8)), none⟩])
     (.seq (.cond (.t 21)
       (.skip)
       (.exit 0))
     (.seq (.block 1 (.seq (.ops [⟨(some 22), .mov (.t 20), none⟩,
          ⟨(some 6), .mov (.t 22), none⟩])
       (.ops [⟨(some 23), .mov (.t 5), none⟩,
         ⟨(some 24), .mov (.t 4), none⟩,
         ⟨(some 25), .bin .sub .no (.t 24) (.c (.int .i64 1)), none⟩,
         ⟨(some 26), .mov (.t 6), none⟩,
         ⟨(some 27), .bin .sub .no (.t 25) (.t 26), none⟩,
         ⟨(some 28), .mov (.t 0), none⟩,
         ⟨(some 29), .bin .mul .no (.t 28) (.c (.int .u64 8)), none⟩,
         ⟨(some 30), .mov (.t 6), none⟩,
         ⟨(some 31), .bin .mul .no (.c (.int .i64 8)) (.t 30), none⟩,
         ⟨(some 32), .bin .shr .no (.t 29) (.t 31), none⟩,
         ⟨(some 33), .conv .u8 (.t 32), none⟩,
         ⟨(some 34), .idxAddrS 1 (.t 23) (.t 27), none⟩,
         ⟨none, .store 1 (.t 34) (.t 33), none⟩])))
     (.ops [⟨(some 35), .bin .add .no (.t 20) (.c (.int .i64 1)), none⟩,
       ⟨(some 20), .mov (.t 35), none⟩])))
def R_sha_padding_0 : C := .seq (.ops [⟨(some 36), .mov (.t 5), none⟩,
     ⟨(some 2), .mov (.t 36), none⟩])
  (.ret)
/-- purser/sha.padding -/
def f_sha_padding : Fn := ⟨37, [.tmp 2],
  .seq (.ops [⟨(some 2), .mov (.c (.slice none 0 (some 0) 0)), none⟩])
  (.seq (.ops [⟨(some 7), .mov (.t 0), none⟩,
     ⟨(some 8), .bin .rem .no (.t 7) (.c (.int .u64 64)), none⟩,
     ⟨(some 9), .conv .i64 (.t 8), none⟩,
     ⟨(some 3), .mov (.t 9), none⟩])
  (.seq (.ops [⟨(some 10), .mov (.t 3), none⟩,
     ⟨(some 11), .bin .sub .no (.c (.int .i64 64)) (.t 10), none⟩,
     ⟨(some 4), .mov (.t 11), none⟩])
  (.seq (.seq (.ops [⟨(some 12), .mov (.t 4), none⟩,
      ⟨(some 13), .bin .lss .no (.t 12) (.c (.int .i64 9)), none⟩])
   (.cond (.t 13)
    (.ops [⟨(some 14), .mov (.t 4), none⟩,
       ⟨(some 15), .bin .add .no (.t 14) (.c (.int .i64 64)), none⟩,
       ⟨(some 4), .mov (.t 15), none⟩])
    (.skip)))
  (.seq (.ops [⟨(some 16), .mov (.t 4), none⟩,
     ⟨(some 17), .mkslice [(.int .u8 0)] 1 (.t 16) (.t 16), none⟩,
     ⟨(some 5), .mov (.t 17), none⟩])
  (.seq (.ops [⟨(some 18), .mov (.t 5), none⟩,
     ⟨(some 19), .idxAddrS 1 (.t 18) (.c (.int .i64 0)), none⟩,
     ⟨none, .store 1 (.t 19) (.c (.int .u8 128)), none⟩])
  (.seq (.seq (.ops [⟨(some 20), .mov (.c (.int .i64 0)), none⟩])
   (.block 0 (.loop (L_sha_padding_0))))
  (R_sha_padding_0)))))))⟩
def L_purserlaw04_hex_0 : C := .seq (.ops [⟨(some 8), .bin .lss .no (.t 7) (.c (.int .i64 32)), none⟩])
     (.seq (.cond (.t 8)
       (.skip)
       (.exit 0))
     (.seq (.block 1 (.seq (.ops [⟨(some 9), .idxArr 32 1 false (.t 6) (.t 7), none⟩,
          ⟨(some 5), .mov (.t 9), none⟩])
       (.dops 0 [] [(⟨(some 10), .mov (.t 3), none⟩, .L),
         (⟨(some 11), .mov (.t 5), none⟩, .L),
         (⟨(some 12), .bin .shr .no (.t 11) (.c (.int .u64 4)), none⟩, .L),
         (⟨(some 13), .mov (.t 5), none⟩, .L),
         (⟨(some 14), .bin .shr .no (.t 13) (.c (.int .u64 4)), none⟩, .L),
         (⟨(some 15), .bin .add .no (.t 14) (.c (.int .u8 1)), none⟩, .L),
         (⟨(some 16), .slcStr (.c (.str [48, 49, 50, 51, 52, 53, 54, 55, 56, 57, 97, 98, 99, 100, 101, 102])) (some (.t 12)) (some (.t 15)), none⟩, .L),
         (⟨(some 17), .bin .add .no (.t 10) (.t 16), none⟩, .L),
         (⟨(some 18), .mov (.t 5), none⟩, .L),
         (⟨(some 19), .bin .and .no (.t 18) (.c (.int .u8 15)), none⟩, .L),
         (⟨(some 20), .mov (.t 5), none⟩, .L),
         (⟨(some 21), .bin .and .no (.t 20) (.c (.int .u8 15)), none⟩, .L),
         (⟨(some 22), .bin .add .no (.t 21) (.c (.int .u8 1)), none⟩, .L),
         (⟨(some 23), .slcStr (.c (.str [48, 49, 50, 51, 52, 53, 54, 55, 56, 57, 97, 98, 99, 100, 101, 102])) (some (.t 19)) (some (.t 22)), none⟩, .L),
         (⟨(some 24), .bin .add .no (.t 17) (.t 23), none⟩, .L),
         (⟨(some 3), .mov (.t 24), none⟩, .L)])))
     (.ops [⟨(some 25), .bin .add .no (.t 7) (.c (.int .i64 1)), none⟩,
       ⟨(some 7), .mov (.t 25), none⟩])))
def R_purserlaw04_hex_0 : C := .seq (.ops [⟨(some 26), .mov (.t 3), none⟩,
     ⟨(some 2), .mov (.t 26), none⟩])
  (.ret)
/-- purser/purserlaw04.hex -/
def f_purserlaw04_hex : Fn := ⟨27, [.tmp 2],
  .seq (.ops [⟨(some 1), .box (.t 0), none⟩,
     ⟨(some 2), .mov (.c (.str [])), none⟩])
  (.seq (.ops [⟨(some 3), .mov (.c (.str [])), none⟩])
  (.seq (.seq (.ops [⟨(some 6), .load (some 32) (.t 1), none⟩,
      ⟨(some 7), .mov (.c (.int .i64 0)), none⟩])
   (.block 0 (.loop (L_purserlaw04_hex_0))))
  (R_purserlaw04_hex_0)))⟩
def L_sha_Sum_fill_1_0 : C := .seq (.seq (.ops [⟨(some 5), .load none (.t 1), none⟩,
        ⟨(some 6), .len false (.t 5), none⟩,
        ⟨(some 7), .bin .gtr .no (.t 6) (.c (.int .i64 0)), none⟩])
     (.cond (.t 7)
      (.skip)
      (.exit 0)))
    (.block 1 (.seq (.dops 0 [] [(⟨(some 8), .load none (.t 2), none⟩, .R [] []),
        (⟨(some 9), .nilchk (.t 8), none⟩, .L),
        (⟨(some 10), .fieldAddr 8 (.t 9), none⟩, .L),
        (⟨(some 11), .load none (.t 2), none⟩, .R [] []),
        (⟨(some 12), .nilchk (.t 11), none⟩, .L),
        (⟨(some 13), .fieldAddr 72 (.t 12), none⟩, .L),
        (⟨(some 14), .load none (.t 13), none⟩, .R [] []),
        (⟨(some 15), .bin .rem .no (.t 14) (.c (.int .u64 64)), none⟩, .L),
        (⟨(some 16), .slcA 64 1 (.t 10) (some (.t 15)) none none, none⟩, .R [] []),
        (⟨(some 17), .load none (.t 1), none⟩, .R [] []),
        (⟨(some 18), .copy 1 (.t 16) (.t 17), none⟩, .B []),
        (⟨(some 4), .mov (.t 18), none⟩, .L)])
     (.seq (.ops [⟨(some 19), .load none (.t 2), none⟩,
        ⟨(some 20), .nilchk (.t 19), none⟩,
        ⟨(some 21), .fieldAddr 72 (.t 20), none⟩,
        ⟨(some 22), .load none (.t 21), none⟩,
        ⟨(some 23), .mov (.t 4), none⟩,
        ⟨(some 24), .conv .u64 (.t 23), none⟩,
        ⟨(some 25), .bin .add .no (.t 22) (.t 24), none⟩,
        ⟨(some 26), .nilchk (.t 19), none⟩,
        ⟨(some 27), .fieldAddr 72 (.t 26), none⟩,
        ⟨none, .store 1 (.t 27) (.t 25), none⟩])
     (.seq (.ops [⟨(some 28), .load none (.t 1), none⟩,
        ⟨(some 29), .mov (.t 4), none⟩,
        ⟨(some 30), .slcS 1 (.t 28) (some (.t 29)) none none, none⟩,
        ⟨none, .store 1 (.t 1) (.t 30), none⟩])
     (.seq (.ops [⟨(some 31), .mov (.t 0), none⟩,
        ⟨(some 32), .load none (.t 2), none⟩,
        ⟨(some 33), .nilchk (.t 32), none⟩,
        ⟨(some 34), .fieldAddr 72 (.t 33), none⟩,
        ⟨(some 35), .load none (.t 34), none⟩,
        ⟨(some 36), .bin .rem .no (.t 35) (.c (.int .u64 64)), none⟩,
        ⟨(some 37), .bin .eql .no (.t 36) (.c (.int .u64 0)), none⟩,
        ⟨(some 38), .callv (.t 31) [(.t 37)], none⟩,
        ⟨(some 39), .un .not (.t 38), none⟩])
     (.cond (.t 39)
      (.ret)
      (.skip)))))))
/-- (*purser/sha.Sum).fill$1 -/
def f_sha_Sum_fill_1 : Fn := ⟨40, [],
  .block 0 (.loop (L_sha_Sum_fill_1_0))⟩
/-- purser/sha.cubeTable -/
def f_sha_cubeTable : Fn := ⟨2, [.cell 0 (some 64)],
  .seq (.ops [⟨(some 0), .alloc [(.int .u32 0), (.int .u32 0), (.int .u32 0), (.int .u32 0), (.int .u32 0), (.int .u32 0), (.int .u32 0), (.int .u32 0), (.int .u32 0), (.int .u32 0), (.int .u32 0), (.int .u32 0), (.int .u32 0), (.int .u32 0), (.int .u32 0), (.int .u32 0), (.int .u32 0), (.int .u32 0), (.int .u32 0), (.int .u32 0), (.int .u32 0), (.int .u32 0), (.int .u32 0), (.int .u32 0), (.int .u32 0), (.int .u32 0), (.int .u32 0), (.int .u32 0), (.int .u32 0), (.int .u32 0), (.int .u32 0), (.int .u32 0), (.int .u32 0), (.int .u32 0), (.int .u32 0), (.int .u32 0), (.int .u32 0), (.int .u32 0), (.int .u32 0), (.int .u32 0), (.int .u32 0), (.int .u32 0), (.int .u32 0), (.int .u32 0), (.int .u32 0), (.int .u32 0), (.int .u32 0), (.int .u32 0), (.int .u32 0), (.int .u32 0), (.int .u32 0), (.int .u32 0), (.int .u32 0), (.int .u32 0), (.int .u32 0), (.int .u32 0), (.int .u32 0), (.int .u32 0), (.int .u32 0), (.int .u32 0), (.int .u32 0), (.int .u32 0), (.int .u32 0), (.int .u32 0)], none⟩])
  (.seq (.ops [⟨(some 1), .build [(.int .u32 0), (.int .u32 0), (.int .u32 0), (.int .u32 0), (.int .u32 0), (.int .u32 0), (.int .u32 0), (.int .u32 0), (.int .u32 0), (.int .u32 0), (.int .u32 0), (.int .u32 0), (.int .u32 0), (.int .u32 0), (.int .u32 0), (.int .u32 0), (.int .u32 0), (.int .u32 0), (.int .u32 0), (.int .u32 0), (.int .u32 0), (.int .u32 0), (.int .u32 0), (.int .u32 0), (.int .u32 0), (.int .u32 0), (.int .u32 0), (.int .u32 0), (.int .u32 0), (.int .u32 0), (.int .u32 0), (.int .u32 0), (.int .u32 0), (.int .u32 0), (.int .u32 0), (.int .u32 0), (.int .u32 0), (.int .u32 0), (.int .u32 0), (.int .u32 0), (.int .u32 0), (.int .u32 0), (.int .u32 0), (.int .u32 0), (.int .u32 0), (.int .u32 0), (.int .u32 0), (.int .u32 0), (.int .u32 0), (.int .u32 0), (.int .u32 0), (.int .u32 0), (.int .u32 0), (.int .u32 0), (.int .u32 0), (.int .u32 0), (.int .u32 0), (.int .u32 0), (.int .u32 0), (.int .u32 0), (.int .u32 0), (.int .u32 0), (.int .u32 0), (.int .u32 0)] [(0, 1, (.c (.int .u32 1116352408))), (1, 1, (.c (.int .u32 1899447441))), (2, 1, (.c (.int .u32 3049323471))), (3, 1, (.c (.int .u32 3921009573))), (4, 1, (.c (.int .u32 961987163))), (5, 1, (.c (.int .u32 1508970993))), (6, 1, (.c (.int .u32 2453635748))), (7, 1, (.c (.int .u32 2870763221))), (8, 1, (.c (.int .u32 3624381080))), (9, 1, (.c (.int .u32 310598401))), (10, 1, (.c (.int .u32 607225278))), (11, 1, (.c (.int .u32 1426881987))), (12, 1, (.c (.int .u32 1925078388))), (13, 1, (.c (.int .u32 2162078206))), (14, 1, (.c (.int .u32 2614888103))), (15, 1, (.c (.int .u32 3248222580))), (16, 1, (.c (.int .u32 3835390401))), (17, 1, (.c (.int .u32 4022224774))), (18, 1, (.c (.int .u32 264347078))), (19, 1, (.c (.int .u32 604807628))), (20, 1, (.c (.int .u32 770255983))), (21, 1, (.c (.int .u32 1249150122))), (22, 1, (.c (.int .u32 1555081692))), (23, 1, (.c (.int .u32 1996064986))), (24, 1, (.c (.int .u32 2554220882))), (25, 1, (.c (.int .u32 2821834349))), (26, 1, (.c (.int .u32 2952996808))), (27, 1, (.c (.int .u32 3210313671))), (28, 1, (.c (.int .u32 3336571891))), (29, 1, (.c (.int .u32 3584528711))), (30, 1, (.c (.int .u32 113926993))), (31, 1, (.c (.int .u32 338241895))), (32, 1, (.c (.int .u32 666307205))), (33, 1, (.c (.int .u32 773529912))), (34, 1, (.c (.int .u32 1294757372))), (35, 1, (.c (.int .u32 1396182291))), (36, 1, (.c (.int .u32 1695183700))), (37, 1, (.c (.int .u32 1986661051))), (38, 1, (.c (.int .u32 2177026350))), (39, 1, (.c (.int .u32 2456956037))), (40, 1, (.c (.int .u32 2730485921))), (41, 1, (.c (.int .u32 2820302411))), (42, 1, (.c (.int .u32 3259730800))), (43, 1, (.c (.int .u32 3345764771))), (44, 1, (.c (.int .u32 3516065817))), (45, 1, (.c (.int .u32 3600352804))), (46, 1, (.c (.int .u32 4094571909))), (47, 1, (.c (.int .u32 275423344))), (48, 1, (.c (.int .u32 430227734))), (49, 1, (.c (.int .u32 506948616))), (50, 1, (.c (.int .u32 659060556))), (51, 1, (.c (.int .u32 883997877))), (52, 1, (.c (.int .u32 958139571))), (53, 1, (.c (.int .u32 1322822218))), (54, 1, (.c (.int .u32 1537002063))), (55, 1, (.c (.int .u32 1747873779))), (56, 1, (.c (.int .u32 1955562222))), (57, 1, (.c (.int .u32 2024104815))), (58, 1, (.c (.int .u32 2227730452))), (59, 1, (.c (.int .u32 2361852424))), (60, 1, (.c (.int .u32 2428436474))), (61, 1, (.c (.int .u32 2756734187))), (62, 1, (.c (.int .u32 3204031479))), (63, 1, (.c (.int .u32 3329325298)))], none⟩,
     ⟨none, .store 64 (.t 0) (.t 1), none⟩])
  (.ret))⟩
def L_sha_Sum_schedule_0 : C := .seq (.ops [⟨(some 11), .bin .lss .no (.t 10) (.c (.int .i64 64)), none⟩])
     (.seq (.cond (.t 11)
       (.skip)
       (.exit 0))
     (.seq (.block 1 (.seq (.ops [⟨(some 12), .mov (.t 10), none⟩,
          ⟨(some 4), .mov (.t 12), none⟩])
       (.seq (.seq (.ops [⟨(some 13), .mov (.t 4), none⟩,
           ⟨(some 14), .bin .lss .no (.t 13) (.c (.int .i64 16)), none⟩])
        (.cond (.t 14)
         (.seq (.ops [⟨(some 15), .mov (.t 0), none⟩,
             ⟨(some 16), .nilchk (.t 15), none⟩,
             ⟨(some 17), .fieldAddr 8 (.t 16), none⟩,
             ⟨(some 18), .mov (.t 4), none⟩,
             ⟨(some 19), .bin .mul .no (.c (.int .i64 4)) (.t 18), none⟩,
             ⟨(some 20), .mov (.t 4), none⟩,
             ⟨(some 21), .bin .mul .no (.c (.int .i64 4)) (.t 20), none⟩,
             ⟨(some 22), .bin .add .no (.t 21) (.c (.int .i64 4)), none⟩,
             ⟨(some 23), .slcA 64 1 (.t 17) (some (.t 19)) (some (.t 22)) none, none⟩,
             ⟨(some 5), .mov (.t 23), none⟩])
          (.seq (.dops 0 [] [(⟨(some 24), .mov (.t 4), none⟩, .L),
             (⟨(some 25), .mov (.t 5), none⟩, .L),
             (⟨(some 26), .idxAddrS 1 (.t 25) (.c (.int .i64 0)), none⟩, .L),
             (⟨(some 27), .load none (.t 26), none⟩, .R [] []),
             (⟨(some 28), .conv .u32 (.t 27), none⟩, .L),
             (⟨(some 29), .bin .shl .no (.t 28) (.c (.int .u64 24)), none⟩, .L),
             (⟨(some 30), .mov (.t 5), none⟩, .L),
             (⟨(some 31), .idxAddrS 1 (.t 30) (.c (.int .i64 1)), none⟩, .L),
             (⟨(some 32), .load none (.t 31), none⟩, .R [] []),
             (⟨(some 33), .conv .u32 (.t 32), none⟩, .L),
             (⟨(some 34), .bin .shl .no (.t 33) (.c (.int .u64 16)), none⟩, .L),
             (⟨(some 35), .bin .or .no (.t 29) (.t 34), none⟩, .L),
             (⟨(some 36), .mov (.t 5), none⟩, .L),
             (⟨(some 37), .idxAddrS 1 (.t 36) (.c (.int .i64 2)), none⟩, .L),
             (⟨(some 38), .load none (.t 37), none⟩, .R [] []),
             (⟨(some 39), .conv .u32 (.t 38), none⟩, .L),
             (⟨(some 40), .bin .shl .no (.t 39) (.c (.int .u64 8)), none⟩, .L),
             (⟨(some 41), .bin .or .no (.t 35) (.t 40), none⟩, .L),
             (⟨(some 42), .mov (.t 5), none⟩, .L),
             (⟨(some 43), .idxAddrS 1 (.t 42) (.c (.int .i64 3)), none⟩, .L),
             (⟨(some 44), .load none (.t 43), none⟩, .R [] []),
             (⟨(some 45), .conv .u32 (.t 44), none⟩, .L),
             (⟨(some 46), .bin .or .no (.t 41) (.t 45), none⟩, .L),
             (⟨(some 47), .idxAddrA 64 1 (.t 3) (.t 24), none⟩, .L),
             (⟨none, .store 1 (.t 47) (.t 46), none⟩, .B [])])
          (.exit 1)))
         (.skip)))
       (.seq (.dops 0 [] [(⟨(some 48), .mov (.t 4), none⟩, .L),
          (⟨(some 49), .bin .sub .no (.t 48) (.c (.int .i64 15)), none⟩, .L),
          (⟨(some 50), .idxAddrA 64 1 (.t 3) (.t 49), none⟩, .L),
          (⟨(some 51), .load none (.t 50), none⟩, .R [] []),
          (⟨(some 52), .mov (.t 4), none⟩, .L),
          (⟨(some 53), .bin .sub .no (.t 52) (.c (.int .i64 2)), none⟩, .L),
          (⟨(some 54), .idxAddrA 64 1 (.t 3) (.t 53), none⟩, .L),
          (⟨(some 55), .load none (.t 54), none⟩, .R [] []),
          (⟨(some 6), .mov (.t 51), none⟩, .L),
          (⟨(some 7), .mov (.t 55), none⟩, .L)])
       (.seq (.ops [⟨(some 56), .mov (.t 6), none⟩,
          ⟨(some 57), .call k_math_bits_RotateLeft32 [(.t 56), (.c (.int .i64 (-7)))], none⟩,
          ⟨(some 58), .mov (.t 6), none⟩,
          ⟨(some 59), .call k_math_bits_RotateLeft32 [(.t 58), (.c (.int .i64 (-18)))], none⟩,
          ⟨(some 60), .bin .xor .no (.t 57) (.t 59), none⟩,
          ⟨(some 61), .mov (.t 6), none⟩,
          ⟨(some 62), .bin .shr .no (.t 61) (.c (.int .u64 3)), none⟩,
          ⟨(some 63), .bin .xor .no (.t 60) (.t 62), none⟩,
          ⟨(some 8), .mov (.t 63), none⟩])
       (.seq (.ops [⟨(some 64), .mov (.t 7), none⟩,
          ⟨(some 65), .call k_math_bits_RotateLeft32 [(.t 64), (.c (.int .i64 (-17)))], none⟩,
          ⟨(some 66), .mov (.t 7), none⟩,
          ⟨(some 67), .call k_math_bits_RotateLeft32 [(.t 66), (.c (.int .i64 (-19)))], none⟩,
          ⟨(some 68), .bin .xor .no (.t 65) (.t 67), none⟩,
          ⟨(some 69), .mov (.t 7), none⟩,
          ⟨(some 70), .bin .shr .no (.t 69) (.c (.int .u64 10)), none⟩,
          ⟨(some 71), .bin .xor .no (.t 68) (.t 70), none⟩,
          ⟨(some 9), .mov (.t 71), none⟩])
       (.dops 0 [] [(⟨(some 72), .mov (.t 4), none⟩, .L),
         (⟨(some 73), .mov (.t 4), none⟩, .L),
         (⟨(some 74), .bin .sub .no (.t 73) (.c (.int .i64 16)), none⟩, .L),
         (⟨(some 75), .idxAddrA 64 1 (.t 3) (.t 74), none⟩, .L),
         (⟨(some 76), .load none (.t 75), none⟩, .R [] []),
         (⟨(some 77), .mov (.t 8), none⟩, .L),
         (⟨(some 78), .bin .add .no (.t 76) (.t 77), none⟩, .L),
         (⟨(some 79), .mov (.t 4), none⟩, .L),
         (⟨(some 80), .bin .sub .no (.t 79) (.c (.int .i64 7)), none⟩, .L),
         (⟨(some 81), .idxAddrA 64 1 (.t 3) (.t 80), none⟩, .L),
         (⟨(some 82), .load none (.t 81), none⟩, .R [] []),
         (⟨(some 83), .bin .add .no (.t 78) (.t 82), none⟩, .L),
         (⟨(some 84), .mov (.t 9), none⟩, .L),
         (⟨(some 85), .bin .add .no (.t 83) (.t 84), none⟩, .L),
         (⟨(some 86), .idxAddrA 64 1 (.t 3) (.t 72), none⟩, .L),
         (⟨none, .store 1 (.t 86) (.t 85), none⟩, .B [])])))))))
     (.ops [⟨(some 87), .bin .add .no (.t 10) (.c (.int .i64 1)), none⟩,
       ⟨(some 10), .mov (.t 87), none⟩])))
def R_sha_Sum_schedule_0 : C := .seq (.ops [⟨(some 88), .load (some 64) (.t 3), none⟩,
     ⟨none, .store 64 (.t 2) (.t 88), none⟩])
  (.ret)
/-- (*purser/sha.Sum).schedule -/
def f_sha_Sum_schedule : Fn := ⟨89, [.cell 2 (some 64)],
  .seq (.ops [⟨(some 2), .alloc [(.int .u32 0), (.int .u32 0), (.int .u32 0), (.int .u32 0), (.int .u32 0), (.int .u32 0), (.int .u32 0), (.int .u32 0), (.int .u32 0), (.int .u32 0), (.int .u32 0), (.int .u32 0), (.int .u32 0), (.int .u32 0), (.int .u32 0), (.int .u32 0), (.int .u32 0), (.int .u32 0), (.int .u32 0), (.int .u32 0), (.int .u32 0), (.int .u32 0), (.int .u32 0), (.int .u32 0), (.int .u32 0), (.int .u32 0), (.int .u32 0), (.int .u32 0), (.int .u32 0), (.int .u32 0), (.int .u32 0), (.int .u32 0), (.int .u32 0), (.int .u32 0), (.int .u32 0), (.int .u32 0), (.int .u32 0), (.int .u32 0), (.int .u32 0), (.int .u32 0), (.int .u32 0), (.int .u32 0), (.int .u32 0), (.int .u32 0), (.int .u32 0), (.int .u32 0), (.int .u32 0), (.int .u32 0), (.int .u32 0), (.int .u32 0), (.int .u32 0), (.int .u32 0), (.int .u32 0), (.int .u32 0), (.int .u32 0), (.int .u32 0), (.int .u32 0), (.int .u32 0), (.int .u32 0), (.int .u32 0), (.int .u32 0), (.int .u32 0), (.int .u32 0), (.int .u32 0)], none⟩])
  (.seq (.ops [⟨(some 3), .alloc [(.int .u32 0), (.int .u32 0), (.int .u32 0), (.int .u32 0), (.int .u32 0), (.int .u32 0), (.int .u32 0), (.int .u32 0), (.int .u32 0), (.int .u32 0), (.int .u32 0), (.int .u32 0), (.int .u32 0), (.int .u32 0), (.int .u32 0), (.int .u32 0), (.int .u32 0), (.int .u32 0), (.int .u32 0), (.int .u32 0), (.int .u32 0), (.int .u32 0), (.int .u32 0), (.int .u32 0), (.int .u32 0), (.int .u32 0), (.int .u32 0), (.int .u32 0), (.int .u32 0), (.int .u32 0), (.int .u32 0), (.int .u32 0), (.int .u32 0), (.int .u32 0), (.int .u32 0), (.int .u32 0), (.int .u32 0), (.int .u32 0), (.int .u32 0), (.int .u32 0), (.int .u32 0), (.int .u32 0), (.int .u32 0), (.int .u32 0), (.int .u32 0), (.int .u32 0), (.int .u32 0), (.int .u32 0), (.int .u32 0), (.int .u32 0), (.int .u32 0), (.int .u32 0), (.int .u32 0), (.int .u32 0), (.int .u32 0), (.int .u32 0), (.int .u32 0), (.int .u32 0), (.int .u32 0), (.int .u32 0), (.int .u32 0), (.int .u32 0), (.int .u32 0), (.int .u32 0)], none⟩])
  (.seq (.seq (.ops [⟨(some 10), .mov (.c (.int .i64 0)), none⟩])
   (.block 0 (.loop (L_sha_Sum_schedule_0))))
  (R_sha_Sum_schedule_0)))⟩
/-- purser/sha.turned -/
def f_sha_turned : Fn := ⟨23, [.tmp 8],
  .seq (.ops [⟨(some 8), .mov (.c (.int .u32 0)), none⟩])
  (.seq (.ops [⟨(some 9), .mov (.t 0), none⟩,
     ⟨(some 10), .mov (.t 1), none⟩,
     ⟨(some 11), .un .neg (.t 10), none⟩,
     ⟨(some 12), .call k_math_bits_RotateLeft32 [(.t 9), (.t 11)], none⟩,
     ⟨(some 13), .mov (.t 0), none⟩,
     ⟨(some 14), .mov (.t 2), none⟩,
     ⟨(some 15), .un .neg (.t 14), none⟩,
     ⟨(some 16), .call k_math_bits_RotateLeft32 [(.t 13), (.t 15)], none⟩,
     ⟨(some 17), .bin .xor .no (.t 12) (.t 16), none⟩,
     ⟨(some 18), .mov (.t 0), none⟩,
     ⟨(some 19), .mov (.t 3), none⟩,
     ⟨(some 20), .un .neg (.t 19), none⟩,
     ⟨(some 21), .call k_math_bits_RotateLeft32 [(.t 18), (.t 20)], none⟩,
     ⟨(some 22), .bin .xor .no (.t 17) (.t 21), none⟩,
     ⟨(some 8), .mov (.t 22), none⟩])
  (.ret))⟩
/-- math/bits.RotateLeft32 -/
def f_math_bits_RotateLeft32 : Fn := ⟨17, [.tmp 4],
  .seq (.ops [⟨(some 4), .mov (.c (.int .u32 0)), none⟩])
  (.seq (.ops [⟨(some 6), .mov (.t 1), none⟩,
     ⟨(some 7), .conv .u64 (.t 6), none⟩,
     ⟨(some 8), .bin .and .no (.t 7) (.c (.int .u64 31)), none⟩,
     ⟨(some 5), .mov (.t 8), none⟩])
  (.seq (.ops [⟨(some 9), .mov (.t 0), none⟩,
     ⟨(some 10), .mov (.t 5), none⟩,
     ⟨(some 11), .bin .shl .no (.t 9) (.t 10), none⟩,
     ⟨(some 12), .mov (.t 0), none⟩,
     ⟨(some 13), .mov (.t 5), none⟩,
     ⟨(some 14), .bin .sub .no (.c (.int .u64 32)) (.t 13), none⟩,
     ⟨(some 15), .bin .shr .no (.t 12) (.t 14), none⟩,
     ⟨(some 16), .bin .or .no (.t 11) (.t 15), none⟩,
     ⟨(some 4), .mov (.t 16), none⟩])
  (.ret)))⟩


end Go.Eng
