/- Functions of the program, as the evaluator takes them: printed by program. -/
import Derived.Test.YtgjoaeefnknpfaaEngI
namespace Go.Eng
open Go
/-- purser/purserlaw01.OctetParts -/
abbrev k_purserlaw01_OctetParts : Nat := 7
/-- purser/purserlaw02.CrcRuns -/
abbrev k_purserlaw02_CrcRuns : Nat := 10
/-- purser/purserlaw02.CrcParts -/
abbrev k_purserlaw02_CrcParts : Nat := 11
/-- (*purser/octet.Pen).All -/
abbrev k_octet_Pen_All : Nat := 16
/-- purser/purserlaw01.alive -/
abbrev k_purserlaw01_alive : Nat := 31
/-- (*purser/octet.Pen).Raw -/
abbrev k_octet_Pen_Raw : Nat := 36
/-- purser/crc.Mark -/
abbrev k_crc_Mark : Nat := 41
/-- purser/crc.Bare -/
abbrev k_crc_Bare : Nat := 42
/-- purser/purserlaw02.alive -/
abbrev k_purserlaw02_alive : Nat := 45
/-- purser/crc.Sum -/
abbrev k_crc_Sum : Nat := 37
/-- purser/crc.On -/
abbrev k_crc_On : Nat := 39
/-- (*purser/octet.Pen).Size -/
abbrev k_octet_Pen_Size : Nat := 34
/-- (*purser/octet.Pen).Bytes -/
abbrev k_octet_Pen_Bytes : Nat := 35
/-- (*purser/octet.Pen).Fixed -/
abbrev k_octet_Pen_Fixed : Nat := 49
/-- purser/octet.Look -/
abbrev k_octet_Look : Nat := 20
/-- (*purser/octet.Eye).Fixed -/
abbrev k_octet_Eye_Fixed : Nat := 21
/-- purser/crc.steps -/
abbrev k_crc_steps : Nat := 61
/-- purser/crc.halves -/
abbrev k_crc_halves : Nat := 62
/-- purser/octet.Compact -/
abbrev k_octet_Compact : Nat := 17
/-- (*purser/octet.Pen).put -/
abbrev k_octet_Pen_put : Nat := 59
/-- purser/octet.mark -/
abbrev k_octet_mark : Nat := 60
/-- purser/octet.width -/
abbrev k_octet_width : Nat := 52
/-- purser/octet.sized -/
abbrev k_octet_sized : Nat := 54
/-- (*purser/octet.Eye).Left -/
abbrev k_octet_Eye_Left : Nat := 29
/-- (*purser/octet.Eye).looks -/
abbrev k_octet_Eye_looks : Nat := 53
/-- purser/octet.number -/
abbrev k_octet_number : Nat := 55
/-- purser/crc.halves$1 -/
abbrev k_crc_halves_1 : Nat := 71
/-- purser/octet.highFirst -/
abbrev k_octet_highFirst : Nat := 69
/-- purser/octet.highFirst$1 -/
abbrev k_octet_highFirst_1 : Nat := 74
def L_purserlaw01_OctetParts_0 : C := .seq (.ops [⟨(some 35), .bin .lss .no (.t 34) (.t 33), none⟩])
     (.seq (.cond (.t 35)
       (.skip)
       (.exit 0))
     (.seq (.block 1 (.seq (.ops [⟨(some 36), .mov (.t 34), none⟩,
          ⟨(some 11), .mov (.t 36), none⟩])
       (.seq (.ops [⟨(some 37), .mov (.t 1), none⟩,
          ⟨(some 38), .mov (.t 11), none⟩,
          ⟨(some 39), .idxAddrS 1 (.t 37) (.t 38), none⟩,
          ⟨(some 40), .load none (.t 39), none⟩,
          ⟨(some 41), .conv .i64 (.t 40), none⟩,
          ⟨(some 42), .mov (.t 9), none⟩,
          ⟨(some 43), .len false (.t 42), none⟩,
          ⟨(some 44), .minmax true [(.t 41), (.t 43)], none⟩,
          ⟨(some 12), .mov (.t 44), none⟩])
       (.seq (.ops [⟨(some 45), .mov (.t 10), none⟩,
          ⟨(some 46), .mov (.t 9), none⟩,
          ⟨(some 47), .mov (.t 12), none⟩,
          ⟨(some 48), .slcS 1 (.t 46) none (some (.t 47)) none, none⟩,
          ⟨(some 49), .buildS [(.slice none 0 (some 0) 0)] 1 1 [(0, 1, (.t 48))], none⟩,
          ⟨(some 50), .append 1 24 (.t 45) (.t 49), none⟩,
          ⟨(some 10), .mov (.t 50), none⟩])
       (.ops [⟨(some 51), .mov (.t 9), none⟩,
         ⟨(some 52), .mov (.t 12), none⟩,
         ⟨(some 53), .slcS 1 (.t 51) (some (.t 52)) none none, none⟩,
         ⟨(some 9), .mov (.t 53), none⟩])))))
     (.ops [⟨(some 54), .bin .add .no (.t 34) (.c (.int .i64 1)), none⟩,
       ⟨(some 34), .mov (.t 54), none⟩])))
def R_purserlaw01_OctetParts_0 : C := .seq (.ops [⟨(some 55), .mov (.t 10), none⟩,
     ⟨(some 56), .mov (.t 9), none⟩,
     ⟨(some 57), .buildS [(.slice none 0 (some 0) 0)] 1 1 [(0, 1, (.t 56))], none⟩,
     ⟨(some 58), .append 1 24 (.t 55) (.t 57), none⟩,
     ⟨(some 59), .call k_octet_Pen_Raw [(.t 7), (.t 58)], none⟩,
     ⟨(some 13), .mov (.t 59), none⟩])
  (.seq (.dops 0 [] [(⟨(some 60), .mov (.t 5), none⟩, .L),
     (⟨(some 61), .mov (.t 60), none⟩, .L),
     (⟨(some 62), .mov (.t 8), (some (61, true))⟩, .L),
     (⟨(some 63), .bin .eql .no (.t 62) (.c (.int .i64 0)), (some (61, true))⟩, .L),
     (⟨(some 64), .pick (.t 61) (.t 63) (.c (.bool false)), none⟩, .L),
     (⟨(some 65), .mov (.t 64), none⟩, .L),
     (⟨(some 66), .mov (.t 13), (some (65, true))⟩, .L),
     (⟨(some 67), .bin .eql .no (.t 66) (.c (.int .i64 0)), (some (65, true))⟩, .L),
     (⟨(some 68), .pick (.t 65) (.t 67) (.c (.bool false)), none⟩, .L),
     (⟨(some 69), .mov (.t 68), none⟩, .L),
     (⟨(some 70), .call k_octet_Pen_All [(.t 6)], (some (69, true))⟩, .B []),
     (⟨(some 71), .b2s (.t 70), (some (69, true))⟩, .R [] []),
     (⟨(some 72), .mov (.t 0), (some (69, true))⟩, .L),
     (⟨(some 73), .b2s (.t 72), (some (69, true))⟩, .R [] [(2, [])]),
     (⟨(some 74), .bin .eql .no (.t 71) (.t 73), (some (69, true))⟩, .L),
     (⟨(some 75), .pick (.t 69) (.t 74) (.c (.bool false)), none⟩, .L),
     (⟨(some 76), .mov (.t 75), none⟩, .L),
     (⟨(some 77), .call k_octet_Pen_All [(.t 7)], (some (76, true))⟩, .B []),
     (⟨(some 78), .b2s (.t 77), (some (76, true))⟩, .R [] []),
     (⟨(some 79), .mov (.t 0), (some (76, true))⟩, .L),
     (⟨(some 80), .b2s (.t 79), (some (76, true))⟩, .R [] [(1, [])]),
     (⟨(some 81), .bin .eql .no (.t 78) (.t 80), (some (76, true))⟩, .L),
     (⟨(some 82), .pick (.t 76) (.t 81) (.c (.bool false)), none⟩, .L),
     (⟨(some 4), .mov (.t 82), none⟩, .L)])
  (.ret))
/-- purser/purserlaw01.OctetParts -/
def f_purserlaw01_OctetParts : Fn := ⟨83, [.tmp 4],
  .seq (.ops [⟨(some 4), .mov (.c (.bool false)), none⟩])
  (.seq (.ops [⟨(some 14), .call k_purserlaw01_alive [], none⟩,
     ⟨(some 5), .mov (.t 14), none⟩])
  (.seq (.seq (.ops [⟨(some 15), .mov (.t 0), none⟩,
      ⟨(some 16), .len false (.t 15), none⟩,
      ⟨(some 17), .bin .gtr .no (.t 16) (.c (.int .i64 20000)), none⟩,
      ⟨(some 18), .mov (.t 17), none⟩,
      ⟨(some 19), .mov (.t 1), (some (18, false))⟩,
      ⟨(some 20), .len false (.t 19), (some (18, false))⟩,
      ⟨(some 21), .bin .gtr .no (.t 20) (.c (.int .i64 50)), (some (18, false))⟩,
      ⟨(some 22), .pick (.t 18) (.c (.bool true)) (.t 21), none⟩,
      ⟨(some 23), .mov (.t 22), none⟩,
      ⟨(some 24), .mov (.t 5), (some (23, false))⟩,
      ⟨(some 25), .un .not (.t 24), (some (23, false))⟩,
      ⟨(some 26), .pick (.t 23) (.c (.bool true)) (.t 25), none⟩])
   (.cond (.t 26)
    (.seq (.ops [⟨(some 27), .mov (.t 5), none⟩,
        ⟨(some 4), .mov (.t 27), none⟩])
     (.ret))
    (.skip)))
  (.seq (.ops [⟨(some 6), .alloc [(.slice none 0 (some 0) 0)], none⟩,
     ⟨(some 7), .alloc [(.slice none 0 (some 0) 0)], none⟩])
  (.seq (.ops [⟨(some 28), .mov (.t 0), none⟩,
     ⟨(some 29), .buildS [(.slice none 0 (some 0) 0)] 1 1 [(0, 1, (.t 28))], none⟩,
     ⟨(some 30), .call k_octet_Pen_Raw [(.t 6), (.t 29)], none⟩,
     ⟨(some 8), .mov (.t 30), none⟩])
  (.seq (.ops [⟨(some 31), .mov (.t 0), none⟩,
     ⟨(some 9), .mov (.t 31), none⟩])
  (.seq (.ops [⟨(some 10), .mov (.c (.slice none 0 (some 0) 0)), none⟩])
  (.seq (.seq (.ops [⟨(some 32), .mov (.t 1), none⟩,
      ⟨(some 33), .len false (.t 32), none⟩,
      ⟨(some 34), .mov (.c (.int .i64 0)), none⟩])
   (.block 0 (.loop (L_purserlaw01_OctetParts_0))))
  (R_purserlaw01_OctetParts_0))))))))⟩
def L_purserlaw02_CrcRuns_0 : C := .seq (.seq (.ops [⟨(some 55), .mov (.t 12), none⟩,
         ⟨(some 56), .bin .lss .no (.t 55) (.c (.int .i64 32)), none⟩])
      (.cond (.t 56)
       (.skip)
       (.exit 0)))
     (.seq (.block 1 (.seq (.ops [⟨(some 59), .mov (.t 2), none⟩,
          ⟨(some 60), .mov (.t 12), none⟩,
          ⟨(some 61), .conv .u64 (.t 60), none⟩,
          ⟨(some 62), .bin .shr .no (.t 59) (.t 61), none⟩,
          ⟨(some 63), .bin .and .no (.t 62) (.c (.int .u32 1)), none⟩,
          ⟨(some 64), .bin .eql .no (.t 63) (.c (.int .u32 1)), none⟩])
       (.cond (.t 64)
        (.ops [⟨(some 65), .mov (.t 8), none⟩,
           ⟨(some 66), .mov (.t 11), none⟩,
           ⟨(some 67), .mov (.t 12), none⟩,
           ⟨(some 68), .bin .add .no (.t 66) (.t 67), none⟩,
           ⟨(some 69), .bin .quo .no (.t 68) (.c (.int .i64 8)), none⟩,
           ⟨(some 70), .mov (.t 8), none⟩,
           ⟨(some 71), .mov (.t 11), none⟩,
           ⟨(some 72), .mov (.t 12), none⟩,
           ⟨(some 73), .bin .add .no (.t 71) (.t 72), none⟩,
           ⟨(some 74), .bin .quo .no (.t 73) (.c (.int .i64 8)), none⟩,
           ⟨(some 75), .idxAddrS 1 (.t 70) (.t 74), none⟩,
           ⟨(some 76), .load none (.t 75), none⟩,
           ⟨(some 77), .mov (.t 11), none⟩,
           ⟨(some 78), .mov (.t 12), none⟩,
           ⟨(some 79), .bin .add .no (.t 77) (.t 78), none⟩,
           ⟨(some 80), .bin .rem .no (.t 79) (.c (.int .i64 8)), none⟩,
           ⟨(some 81), .conv .u64 (.t 80), none⟩,
           ⟨(some 82), .bin .shl .no (.c (.int .u8 1)) (.t 81), none⟩,
           ⟨(some 83), .bin .xor .no (.t 76) (.t 82), none⟩,
           ⟨(some 84), .idxAddrS 1 (.t 65) (.t 69), none⟩,
           ⟨none, .store 1 (.t 84) (.t 83), none⟩])
        (.skip))))
     (.ops [⟨(some 57), .mov (.t 12), none⟩,
       ⟨(some 58), .bin .add .no (.t 57) (.c (.int .i64 1)), none⟩,
       ⟨(some 12), .mov (.t 58), none⟩]))
def R_purserlaw02_CrcRuns_0 : C := .seq (.ops [⟨(some 86), .mov (.t 8), none⟩,
     ⟨(some 87), .call k_crc_Bare [(.t 86)], none⟩,
     ⟨(some 85), .mov (.t 87), none⟩,
     ⟨(some 88), .ext (.t 85) 0, none⟩,
     ⟨(some 89), .ext (.t 85) 1, none⟩,
     ⟨(some 13), .mov (.t 88), none⟩,
     ⟨(some 14), .mov (.t 89), none⟩])
  (.seq (.ops [⟨(some 90), .mov (.t 7), none⟩,
     ⟨(some 91), .mov (.t 90), none⟩,
     ⟨(some 92), .mov (.t 14), (some (91, true))⟩,
     ⟨(some 93), .bin .eql .no (.t 92) (.c (.int .i64 0)), (some (91, true))⟩,
     ⟨(some 94), .mov (.t 2), (some (91, true))⟩,
     ⟨(some 95), .bin .eql .no (.t 94) (.c (.int .u32 0)), (some (91, true))⟩,
     ⟨(some 96), .bin .eql .bool (.t 93) (.t 95), (some (91, true))⟩,
     ⟨(some 97), .pick (.t 91) (.t 96) (.c (.bool false)), none⟩,
     ⟨(some 6), .mov (.t 97), none⟩])
  (.ret))
/-- purser/purserlaw02.CrcRuns -/
def f_purserlaw02_CrcRuns : Fn := ⟨98, [.tmp 6],
  .seq (.ops [⟨(some 6), .mov (.c (.bool false)), none⟩])
  (.seq (.ops [⟨(some 15), .call k_purserlaw02_alive [], none⟩,
     ⟨(some 7), .mov (.t 15), none⟩])
  (.seq (.seq (.ops [⟨(some 16), .mov (.t 0), none⟩,
      ⟨(some 17), .len false (.t 16), none⟩,
      ⟨(some 18), .bin .gtr .no (.t 17) (.c (.int .i64 3000)), none⟩,
      ⟨(some 19), .mov (.t 18), none⟩,
      ⟨(some 20), .mov (.t 7), (some (19, false))⟩,
      ⟨(some 21), .un .not (.t 20), (some (19, false))⟩,
      ⟨(some 22), .pick (.t 19) (.c (.bool true)) (.t 21), none⟩])
   (.cond (.t 22)
    (.seq (.ops [⟨(some 23), .mov (.t 7), none⟩,
        ⟨(some 6), .mov (.t 23), none⟩])
     (.ret))
    (.skip)))
  (.seq (.ops [⟨(some 24), .mov (.t 0), none⟩,
     ⟨(some 25), .call k_crc_Mark [(.t 24)], none⟩,
     ⟨(some 8), .mov (.t 25), none⟩])
  (.seq (.ops [⟨(some 27), .mov (.t 8), none⟩,
     ⟨(some 28), .call k_crc_Bare [(.t 27)], none⟩,
     ⟨(some 26), .mov (.t 28), none⟩,
     ⟨(some 29), .ext (.t 26) 0, none⟩,
     ⟨(some 30), .ext (.t 26) 1, none⟩,
     ⟨(some 9), .mov (.t 29), none⟩,
     ⟨(some 10), .mov (.t 30), none⟩])
  (.seq (.seq (.ops [⟨(some 31), .mov (.t 10), none⟩,
      ⟨(some 32), .bin .neq .no (.t 31) (.c (.int .i64 0)), none⟩,
      ⟨(some 33), .mov (.t 32), none⟩,
      ⟨(some 34), .mov (.t 9), (some (33, false))⟩,
      ⟨(some 35), .b2s (.t 34), (some (33, false))⟩,
      ⟨(some 36), .mov (.t 0), (some (33, false))⟩,
      ⟨(some 37), .b2s (.t 36), (some (33, false))⟩,
      ⟨(some 38), .bin .neq .no (.t 35) (.t 37), (some (33, false))⟩,
      ⟨(some 39), .pick (.t 33) (.c (.bool true)) (.t 38), none⟩,
      ⟨(some 40), .mov (.t 39), none⟩,
      ⟨(some 41), .mov (.t 8), (some (40, false))⟩,
      ⟨(some 42), .len false (.t 41), (some (40, false))⟩,
      ⟨(some 43), .mov (.t 0), (some (40, false))⟩,
      ⟨(some 44), .len false (.t 43), (some (40, false))⟩,
      ⟨(some 45), .bin .add .no (.t 44) (.c (.int .i64 4)), (some (40, false))⟩,
      ⟨(some 46), .bin .neq .no (.t 42) (.t 45), (some (40, false))⟩,
      ⟨(some 47), .pick (.t 40) (.c (.bool true)) (.t 46), none⟩])
   (.cond (.t 47)
    (.seq (.ops [⟨(some 6), .mov (.c (.bool false)), none⟩])
     (.ret))
    (.skip)))
  (.seq (.ops [⟨(some 48), .mov (.t 1), none⟩,
     ⟨(some 49), .conv .i64 (.t 48), none⟩,
     ⟨(some 50), .mov (.t 8), none⟩,
     ⟨(some 51), .len false (.t 50), none⟩,
     ⟨(some 52), .bin .mul .no (.c (.int .i64 8)) (.t 51), none⟩,
     ⟨(some 53), .bin .sub .no (.t 52) (.c (.int .i64 31)), none⟩,
     ⟨(some 54), .bin .rem .no (.t 49) (.t 53), none⟩,
     ⟨(some 11), .mov (.t 54), none⟩])
  (.seq (.seq (.ops [⟨(some 12), .mov (.c (.int .i64 0)), none⟩])
   (.block 0 (.loop (L_purserlaw02_CrcRuns_0))))
  (R_purserlaw02_CrcRuns_0))))))))⟩
def L_purserlaw02_CrcParts_0 : C := .seq (.seq (.ops [⟨(some 95), .mov (.t 17), none⟩,
         ⟨(some 96), .mov (.t 15), none⟩,
         ⟨(some 97), .bin .lss .no (.t 95) (.t 96), none⟩])
      (.cond (.t 97)
       (.skip)
       (.exit 0)))
     (.seq (.block 1 (.dops 1 [] [(⟨(some 100), .mov (.t 16), none⟩, .L),
         (⟨(some 101), .mov (.t 0), none⟩, .L),
         (⟨(some 102), .mov (.t 17), none⟩, .L),
         (⟨(some 103), .idxAddrS 1 (.t 101) (.t 102), none⟩, .L),
         (⟨(some 104), .load none (.t 103), none⟩, .R [] []),
         (⟨(some 105), .mov (.t 1), none⟩, .L),
         (⟨(some 106), .mov (.t 17), none⟩, .L),
         (⟨(some 107), .idxAddrS 1 (.t 105) (.t 106), none⟩, .L),
         (⟨(some 108), .load none (.t 107), none⟩, .R [] []),
         (⟨(some 109), .bin .xor .no (.t 104) (.t 108), none⟩, .L),
         (⟨(some 110), .mov (.t 2), none⟩, .L),
         (⟨(some 111), .mov (.t 17), none⟩, .L),
         (⟨(some 112), .idxAddrS 1 (.t 110) (.t 111), none⟩, .L),
         (⟨(some 113), .load none (.t 112), none⟩, .R [] []),
         (⟨(some 114), .bin .xor .no (.t 109) (.t 113), none⟩, .L),
         (⟨(some 115), .buildS [(.int .u8 0)] 1 1 [(0, 1, (.t 114))], none⟩, .Al 0),
         (⟨(some 116), .append 1 1 (.t 100) (.t 115), none⟩, .B [0]),
         (⟨(some 16), .mov (.t 116), none⟩, .L)]))
     (.ops [⟨(some 98), .mov (.t 17), none⟩,
       ⟨(some 99), .bin .add .no (.t 98) (.c (.int .i64 1)), none⟩,
       ⟨(some 17), .mov (.t 99), none⟩]))
def R_purserlaw02_CrcParts_0 : C := .seq (.dops 4 [] [(⟨(some 117), .mov (.t 11), none⟩, .L),
     (⟨(some 118), .mov (.t 117), none⟩, .L),
     (⟨(some 119), .mov (.t 16), (some (118, true))⟩, .L),
     (⟨(some 120), .buildS [(.slice none 0 (some 0) 0)] 1 1 [(0, 1, (.t 119))], (some (118, true))⟩, .Al 0),
     (⟨(some 121), .call k_crc_Sum [(.t 120)], (some (118, true))⟩, .B [0]),
     (⟨(some 122), .mov (.t 0), (some (118, true))⟩, .L),
     (⟨(some 123), .mov (.t 15), (some (118, true))⟩, .L),
     (⟨(some 124), .slcS 1 (.t 122) none (some (.t 123)) none, (some (118, true))⟩, .L),
     (⟨(some 125), .buildS [(.slice none 0 (some 0) 0)] 1 1 [(0, 1, (.t 124))], (some (118, true))⟩, .Al 1),
     (⟨(some 126), .call k_crc_Sum [(.t 125)], (some (118, true))⟩, .B [1]),
     (⟨(some 127), .mov (.t 1), (some (118, true))⟩, .L),
     (⟨(some 128), .mov (.t 15), (some (118, true))⟩, .L),
     (⟨(some 129), .slcS 1 (.t 127) none (some (.t 128)) none, (some (118, true))⟩, .L),
     (⟨(some 130), .buildS [(.slice none 0 (some 0) 0)] 1 1 [(0, 1, (.t 129))], (some (118, true))⟩, .Al 2),
     (⟨(some 131), .call k_crc_Sum [(.t 130)], (some (118, true))⟩, .B [2]),
     (⟨(some 132), .bin .xor .no (.t 126) (.t 131), (some (118, true))⟩, .L),
     (⟨(some 133), .mov (.t 2), (some (118, true))⟩, .L),
     (⟨(some 134), .mov (.t 15), (some (118, true))⟩, .L),
     (⟨(some 135), .slcS 1 (.t 133) none (some (.t 134)) none, (some (118, true))⟩, .L),
     (⟨(some 136), .buildS [(.slice none 0 (some 0) 0)] 1 1 [(0, 1, (.t 135))], (some (118, true))⟩, .Al 3),
     (⟨(some 137), .call k_crc_Sum [(.t 136)], (some (118, true))⟩, .B [3]),
     (⟨(some 138), .bin .xor .no (.t 132) (.t 137), (some (118, true))⟩, .L),
     (⟨(some 139), .bin .eql .no (.t 121) (.t 138), (some (118, true))⟩, .L),
     (⟨(some 140), .pick (.t 118) (.t 139) (.c (.bool false)), none⟩, .L),
     (⟨(some 10), .mov (.t 140), none⟩, .L)])
  (.ret)
/-- purser/purserlaw02.CrcParts -/
def f_purserlaw02_CrcParts : Fn := ⟨141, [.tmp 10],
  .seq (.ops [⟨(some 10), .mov (.c (.bool false)), none⟩])
  (.seq (.ops [⟨(some 18), .call k_purserlaw02_alive [], none⟩,
     ⟨(some 11), .mov (.t 18), none⟩])
  (.seq (.seq (.ops [⟨(some 19), .mov (.t 0), none⟩,
      ⟨(some 20), .len false (.t 19), none⟩,
      ⟨(some 21), .bin .gtr .no (.t 20) (.c (.int .i64 3000)), none⟩,
      ⟨(some 22), .mov (.t 21), none⟩,
      ⟨(some 23), .mov (.t 1), (some (22, false))⟩,
      ⟨(some 24), .len false (.t 23), (some (22, false))⟩,
      ⟨(some 25), .bin .gtr .no (.t 24) (.c (.int .i64 3000)), (some (22, false))⟩,
      ⟨(some 26), .pick (.t 22) (.c (.bool true)) (.t 25), none⟩,
      ⟨(some 27), .mov (.t 26), none⟩,
      ⟨(some 28), .mov (.t 2), (some (27, false))⟩,
      ⟨(some 29), .len false (.t 28), (some (27, false))⟩,
      ⟨(some 30), .bin .gtr .no (.t 29) (.c (.int .i64 3000)), (some (27, false))⟩,
      ⟨(some 31), .pick (.t 27) (.c (.bool true)) (.t 30), none⟩,
      ⟨(some 32), .mov (.t 31), none⟩,
      ⟨(some 33), .mov (.t 11), (some (32, false))⟩,
      ⟨(some 34), .un .not (.t 33), (some (32, false))⟩,
      ⟨(some 35), .pick (.t 32) (.c (.bool true)) (.t 34), none⟩])
   (.cond (.t 35)
    (.seq (.ops [⟨(some 36), .mov (.t 11), none⟩,
        ⟨(some 10), .mov (.t 36), none⟩])
     (.ret))
    (.skip)))
  (.seq (.ops [⟨(some 37), .mov (.t 3), none⟩,
     ⟨(some 38), .conv .i64 (.t 37), none⟩,
     ⟨(some 39), .mov (.t 0), none⟩,
     ⟨(some 40), .len false (.t 39), none⟩,
     ⟨(some 41), .bin .add .no (.t 40) (.c (.int .i64 1)), none⟩,
     ⟨(some 42), .bin .rem .no (.t 38) (.t 41), none⟩,
     ⟨(some 12), .mov (.t 42), none⟩])
  (.seq (.ops [⟨(some 43), .mov (.t 12), none⟩,
     ⟨(some 44), .mov (.t 4), none⟩,
     ⟨(some 45), .conv .i64 (.t 44), none⟩,
     ⟨(some 46), .mov (.t 0), none⟩,
     ⟨(some 47), .len false (.t 46), none⟩,
     ⟨(some 48), .mov (.t 12), none⟩,
     ⟨(some 49), .bin .sub .no (.t 47) (.t 48), none⟩,
     ⟨(some 50), .bin .add .no (.t 49) (.c (.int .i64 1)), none⟩,
     ⟨(some 51), .bin .rem .no (.t 45) (.t 50), none⟩,
     ⟨(some 52), .bin .add .no (.t 43) (.t 51), none⟩,
     ⟨(some 13), .mov (.t 52), none⟩])
  (.seq (.ops [⟨(some 53), .mov (.t 0), none⟩,
     ⟨(some 54), .buildS [(.slice none 0 (some 0) 0)] 1 1 [(0, 1, (.t 53))], none⟩,
     ⟨(some 55), .call k_crc_Sum [(.t 54)], none⟩,
     ⟨(some 14), .mov (.t 55), none⟩])
  (.seq (.seq (.dops 2 [] [(⟨(some 56), .mov (.t 0), none⟩, .L),
      (⟨(some 57), .mov (.t 12), none⟩, .L),
      (⟨(some 58), .slcS 1 (.t 56) none (some (.t 57)) none, none⟩, .L),
      (⟨(some 59), .mov (.t 0), none⟩, .L),
      (⟨(some 60), .mov (.t 12), none⟩, .L),
      (⟨(some 61), .mov (.t 13), none⟩, .L),
      (⟨(some 62), .slcS 1 (.t 59) (some (.t 60)) (some (.t 61)) none, none⟩, .L),
      (⟨(some 63), .mov (.t 0), none⟩, .L),
      (⟨(some 64), .mov (.t 13), none⟩, .L),
      (⟨(some 65), .slcS 1 (.t 63) (some (.t 64)) none none, none⟩, .L),
      (⟨(some 66), .buildS [(.slice none 0 (some 0) 0), (.slice none 0 (some 0) 0), (.slice none 0 (some 0) 0)] 3 1 [(0, 1, (.t 58)), (1, 1, (.t 62)), (2, 1, (.t 65))], none⟩, .Al 0),
      (⟨(some 67), .call k_crc_Sum [(.t 66)], none⟩, .B [0]),
      (⟨(some 68), .mov (.t 14), none⟩, .L),
      (⟨(some 69), .bin .neq .no (.t 67) (.t 68), none⟩, .L),
      (⟨(some 70), .mov (.t 69), none⟩, .L),
      (⟨(some 71), .mov (.t 0), (some (70, false))⟩, .L),
      (⟨(some 72), .mov (.t 12), (some (70, false))⟩, .L),
      (⟨(some 73), .slcS 1 (.t 71) none (some (.t 72)) none, (some (70, false))⟩, .L),
      (⟨(some 74), .buildS [(.slice none 0 (some 0) 0)] 1 1 [(0, 1, (.t 73))], (some (70, false))⟩, .Al 1),
      (⟨(some 75), .call k_crc_Sum [(.t 74)], (some (70, false))⟩, .B [1]),
      (⟨(some 76), .mov (.t 0), (some (70, false))⟩, .L),
      (⟨(some 77), .mov (.t 12), (some (70, false))⟩, .L),
      (⟨(some 78), .mov (.t 13), (some (70, false))⟩, .L),
      (⟨(some 79), .slcS 1 (.t 76) (some (.t 77)) (some (.t 78)) none, (some (70, false))⟩, .L),
      (⟨(some 80), .call k_crc_On [(.t 75), (.t 79)], (some (70, false))⟩, .B []),
      (⟨(some 81), .mov (.t 0), (some (70, false))⟩, .L),
      (⟨(some 82), .mov (.t 13), (some (70, false))⟩, .L),
      (⟨(some 83), .slcS 1 (.t 81) (some (.t 82)) none none, (some (70, false))⟩, .L),
      (⟨(some 84), .call k_crc_On [(.t 80), (.t 83)], (some (70, false))⟩, .B []),
      (⟨(some 85), .mov (.t 14), (some (70, false))⟩, .L),
      (⟨(some 86), .bin .neq .no (.t 84) (.t 85), (some (70, false))⟩, .L),
      (⟨(some 87), .pick (.t 70) (.c (.bool true)) (.t 86), none⟩, .L)])
   (.cond (.t 87)
    (.seq (.ops [⟨(some 10), .mov (.c (.bool false)), none⟩])
     (.ret))
    (.skip)))
  (.seq (.ops [⟨(some 88), .mov (.t 0), none⟩,
     ⟨(some 89), .len false (.t 88), none⟩,
     ⟨(some 90), .mov (.t 1), none⟩,
     ⟨(some 91), .len false (.t 90), none⟩,
     ⟨(some 92), .mov (.t 2), none⟩,
     ⟨(some 93), .len false (.t 92), none⟩,
     ⟨(some 94), .minmax true [(.t 89), (.t 91), (.t 93)], none⟩,
     ⟨(some 15), .mov (.t 94), none⟩])
  (.seq (.ops [⟨(some 16), .mov (.c (.slice none 0 (some 0) 0)), none⟩])
  (.seq (.seq (.ops [⟨(some 17), .mov (.c (.int .i64 0)), none⟩])
   (.block 0 (.loop (L_purserlaw02_CrcParts_0))))
  (R_purserlaw02_CrcParts_0))))))))))⟩
/-- (*purser/octet.Pen).All -/
def f_octet_Pen_All : Fn := ⟨10, [.tmp 2],
  .seq (.ops [⟨(some 2), .mov (.c (.slice none 0 (some 0) 0)), none⟩])
  (.seq (.seq (.ops [⟨(some 3), .mov (.t 0), none⟩,
      ⟨(some 4), .bin .eql (.ref .p) (.t 3) (.c (.ptr none)), none⟩])
   (.cond (.t 4)
    (.seq (.ops [⟨(some 2), .mov (.c (.slice none 0 (some 0) 0)), none⟩])
     (.ret))
    (.skip)))
  (.seq (.ops [⟨(some 5), .mov (.t 0), none⟩,
     ⟨(some 6), .nilchk (.t 5), none⟩,
     ⟨(some 7), .fieldAddr 0 (.t 6), none⟩,
     ⟨(some 8), .load none (.t 7), none⟩,
     ⟨(some 9), .append 1 1 (.c (.slice none 0 (some 0) 0)) (.t 8), none⟩,
     ⟨(some 2), .mov (.t 9), none⟩])
  (.ret)))⟩
/-- purser/purserlaw01.alive -/
def f_purserlaw01_alive : Fn := ⟨31, [.tmp 0],
  .seq (.ops [⟨(some 0), .mov (.c (.bool false)), none⟩])
  (.seq (.ops [⟨(some 1), .alloc [(.slice none 0 (some 0) 0)], none⟩])
  (.seq (.ops [⟨(some 6), .call k_octet_Pen_Fixed [(.t 1), (.c (.int .i64 4)), (.c (.int .u64 258))], none⟩,
     ⟨(some 7), .call k_octet_Pen_Size [(.t 1), (.c (.int .u64 252))], none⟩,
     ⟨(some 8), .call k_octet_Pen_Size [(.t 1), (.c (.int .u64 253))], none⟩,
     ⟨(some 2), .mov (.t 6), none⟩,
     ⟨(some 3), .mov (.t 7), none⟩,
     ⟨(some 4), .mov (.t 8), none⟩])
  (.seq (.ops [⟨(some 9), .buildS [(.int .u8 0), (.int .u8 0)] 2 1 [(0, 1, (.c (.int .u8 97))), (1, 1, (.c (.int .u8 98)))], none⟩,
     ⟨(some 10), .mark (.t 9), none⟩,
     ⟨(some 11), .call k_octet_Pen_Bytes [(.t 1), (.t 10)], none⟩,
     ⟨(some 5), .mov (.t 11), none⟩])
  (.seq (.ops [⟨(some 12), .mov (.t 2), none⟩,
     ⟨(some 13), .bin .eql .no (.t 12) (.c (.int .i64 0)), none⟩,
     ⟨(some 14), .mov (.t 13), none⟩,
     ⟨(some 15), .mov (.t 3), (some (14, true))⟩,
     ⟨(some 16), .bin .eql .no (.t 15) (.c (.int .i64 0)), (some (14, true))⟩,
     ⟨(some 17), .pick (.t 14) (.t 16) (.c (.bool false)), none⟩,
     ⟨(some 18), .mov (.t 17), none⟩,
     ⟨(some 19), .mov (.t 4), (some (18, true))⟩,
     ⟨(some 20), .bin .eql .no (.t 19) (.c (.int .i64 0)), (some (18, true))⟩,
     ⟨(some 21), .pick (.t 18) (.t 20) (.c (.bool false)), none⟩,
     ⟨(some 22), .mov (.t 21), none⟩,
     ⟨(some 23), .mov (.t 5), (some (22, true))⟩,
     ⟨(some 24), .bin .eql .no (.t 23) (.c (.int .i64 0)), (some (22, true))⟩,
     ⟨(some 25), .pick (.t 22) (.t 24) (.c (.bool false)), none⟩,
     ⟨(some 26), .mov (.t 25), none⟩,
     ⟨(some 27), .call k_octet_Pen_All [(.t 1)], (some (26, true))⟩,
     ⟨(some 28), .b2s (.t 27), (some (26, true))⟩,
     ⟨(some 29), .bin .eql .no (.t 28) (.c (.str [2, 1, 0, 0, 252, 253, 253, 0, 2, 97, 98])), (some (26, true))⟩,
     ⟨(some 30), .pick (.t 26) (.t 29) (.c (.bool false)), none⟩,
     ⟨(some 0), .mov (.t 30), none⟩])
  (.ret)))))⟩
def L_octet_Pen_Raw_0 : C := .seq (.ops [⟨(some 12), .bin .lss .no (.t 11) (.t 10), none⟩])
     (.seq (.cond (.t 12)
       (.skip)
       (.exit 0))
     (.seq (.block 1 (.seq (.ops [⟨(some 13), .idxAddrS 1 (.t 9) (.t 11), none⟩,
          ⟨(some 14), .load none (.t 13), none⟩,
          ⟨(some 6), .mov (.t 14), none⟩])
       (.ops [⟨(some 15), .mov (.t 0), none⟩,
         ⟨(some 16), .mov (.t 0), none⟩,
         ⟨(some 17), .nilchk (.t 16), none⟩,
         ⟨(some 18), .fieldAddr 0 (.t 17), none⟩,
         ⟨(some 19), .load none (.t 18), none⟩,
         ⟨(some 20), .mov (.t 6), none⟩,
         ⟨(some 21), .append 1 1 (.t 19) (.t 20), none⟩,
         ⟨(some 22), .nilchk (.t 15), none⟩,
         ⟨(some 23), .fieldAddr 0 (.t 22), none⟩,
         ⟨none, .store 1 (.t 23) (.t 21), none⟩])))
     (.ops [⟨(some 24), .bin .add .no (.t 11) (.c (.int .i64 1)), none⟩,
       ⟨(some 11), .mov (.t 24), none⟩])))
def R_octet_Pen_Raw_0 : C := .seq (.ops [⟨(some 4), .mov (.c (.int .i64 0)), none⟩])
  (.ret)
/-- (*purser/octet.Pen).Raw -/
def f_octet_Pen_Raw : Fn := ⟨25, [.tmp 4],
  .seq (.ops [⟨(some 4), .mov (.c (.int .i64 0)), none⟩])
  (.seq (.seq (.ops [⟨(some 7), .mov (.t 0), none⟩,
      ⟨(some 8), .bin .eql (.ref .p) (.t 7) (.c (.ptr none)), none⟩])
   (.cond (.t 8)
    (.seq (.ops [⟨(some 4), .mov (.c (.int .i64 1)), none⟩])
     (.ret))
    (.skip)))
  (.seq (.seq (.ops [⟨(some 9), .mov (.t 1), none⟩,
      ⟨(some 10), .len false (.t 9), none⟩,
      ⟨(some 11), .mov (.c (.int .i64 0)), none⟩])
   (.block 0 (.loop (L_octet_Pen_Raw_0))))
  (R_octet_Pen_Raw_0)))⟩
/-- purser/crc.Mark -/
def f_crc_Mark : Fn := ⟨13, [.tmp 2],
  .seq (.ops [⟨(some 2), .mov (.c (.slice none 0 (some 0) 0)), none⟩])
  (.seq (.ops [⟨(some 3), .alloc [(.slice none 0 (some 0) 0)], none⟩])
  (.seq (.ops [⟨(some 4), .mov (.t 0), none⟩,
     ⟨(some 5), .buildS [(.slice none 0 (some 0) 0)] 1 1 [(0, 1, (.t 4))], none⟩,
     ⟨(some 6), .call k_octet_Pen_Raw [(.t 3), (.t 5)], none⟩])
  (.seq (.ops [⟨(some 7), .mov (.t 0), none⟩,
     ⟨(some 8), .buildS [(.slice none 0 (some 0) 0)] 1 1 [(0, 1, (.t 7))], none⟩,
     ⟨(some 9), .call k_crc_Sum [(.t 8)], none⟩,
     ⟨(some 10), .conv .u64 (.t 9), none⟩,
     ⟨(some 11), .call k_octet_Pen_Fixed [(.t 3), (.c (.int .i64 4)), (.t 10)], none⟩])
  (.seq (.ops [⟨(some 12), .call k_octet_Pen_All [(.t 3)], none⟩,
     ⟨(some 2), .mov (.t 12), none⟩])
  (.ret)))))⟩
/-- purser/crc.Bare -/
def f_crc_Bare : Fn := ⟨39, [.tmp 2, .tmp 3],
  .seq (.ops [⟨(some 2), .mov (.c (.slice none 0 (some 0) 0)), none⟩,
     ⟨(some 3), .mov (.c (.int .i64 0)), none⟩])
  (.seq (.seq (.ops [⟨(some 8), .mov (.t 0), none⟩,
      ⟨(some 9), .len false (.t 8), none⟩,
      ⟨(some 10), .bin .lss .no (.t 9) (.c (.int .i64 4)), none⟩])
   (.cond (.t 10)
    (.seq (.ops [⟨(some 2), .mov (.c (.slice none 0 (some 0) 0)), none⟩,
        ⟨(some 3), .mov (.c (.int .i64 20)), none⟩])
     (.ret))
    (.skip)))
  (.seq (.dops 0 [] [(⟨(some 11), .mov (.t 0), none⟩, .L),
     (⟨(some 12), .mov (.t 0), none⟩, .L),
     (⟨(some 13), .len false (.t 12), none⟩, .L),
     (⟨(some 14), .bin .sub .no (.t 13) (.c (.int .i64 4)), none⟩, .L),
     (⟨(some 15), .slcS 1 (.t 11) none (some (.t 14)) none, none⟩, .L),
     (⟨(some 16), .mov (.t 0), none⟩, .L),
     (⟨(some 17), .mov (.t 0), none⟩, .L),
     (⟨(some 18), .len false (.t 17), none⟩, .L),
     (⟨(some 19), .bin .sub .no (.t 18) (.c (.int .i64 4)), none⟩, .L),
     (⟨(some 20), .slcS 1 (.t 16) (some (.t 19)) none none, none⟩, .L),
     (⟨(some 4), .mov (.t 15), none⟩, .L),
     (⟨(some 5), .mov (.t 20), none⟩, .L)])
  (.seq (.ops [⟨(some 22), .mov (.t 5), none⟩,
     ⟨(some 23), .call k_octet_Look [(.t 22)], none⟩,
     ⟨(some 24), .call k_octet_Eye_Fixed [(.t 23), (.c (.int .i64 4))], none⟩,
     ⟨(some 21), .mov (.t 24), none⟩,
     ⟨(some 25), .ext (.t 21) 0, none⟩,
     ⟨(some 26), .ext (.t 21) 1, none⟩,
     ⟨(some 6), .mov (.t 25), none⟩,
     ⟨(some 7), .mov (.t 26), none⟩])
  (.seq (.seq (.ops [⟨(some 27), .mov (.t 7), none⟩,
      ⟨(some 28), .bin .neq .no (.t 27) (.c (.int .i64 0)), none⟩,
      ⟨(some 29), .mov (.t 28), none⟩,
      ⟨(some 30), .mov (.t 4), (some (29, false))⟩,
      ⟨(some 31), .buildS [(.slice none 0 (some 0) 0)] 1 1 [(0, 1, (.t 30))], (some (29, false))⟩,
      ⟨(some 32), .call k_crc_Sum [(.t 31)], (some (29, false))⟩,
      ⟨(some 33), .conv .u64 (.t 32), (some (29, false))⟩,
      ⟨(some 34), .mov (.t 6), (some (29, false))⟩,
      ⟨(some 35), .bin .neq .no (.t 33) (.t 34), (some (29, false))⟩,
      ⟨(some 36), .pick (.t 29) (.c (.bool true)) (.t 35), none⟩])
   (.cond (.t 36)
    (.seq (.ops [⟨(some 2), .mov (.c (.slice none 0 (some 0) 0)), none⟩,
        ⟨(some 3), .mov (.c (.int .i64 20)), none⟩])
     (.ret))
    (.skip)))
  (.seq (.ops [⟨(some 37), .mov (.t 4), none⟩,
     ⟨(some 38), .append 1 1 (.c (.slice none 0 (some 0) 0)) (.t 37), none⟩,
     ⟨(some 2), .mov (.t 38), none⟩,
     ⟨(some 3), .mov (.c (.int .i64 0)), none⟩])
  (.ret))))))⟩
/-- purser/purserlaw02.alive -/
def f_purserlaw02_alive : Fn := ⟨10, [.tmp 0],
  .seq (.ops [⟨(some 0), .mov (.c (.bool false)), none⟩])
  (.seq (.ops [⟨(some 1), .buildS [(.int .u8 0), (.int .u8 0), (.int .u8 0), (.int .u8 0), (.int .u8 0), (.int .u8 0), (.int .u8 0), (.int .u8 0), (.int .u8 0)] 9 1 [(0, 1, (.c (.int .u8 49))), (1, 1, (.c (.int .u8 50))), (2, 1, (.c (.int .u8 51))), (3, 1, (.c (.int .u8 52))), (4, 1, (.c (.int .u8 53))), (5, 1, (.c (.int .u8 54))), (6, 1, (.c (.int .u8 55))), (7, 1, (.c (.int .u8 56))), (8, 1, (.c (.int .u8 57)))], none⟩,
     ⟨(some 2), .mark (.t 1), none⟩,
     ⟨(some 3), .buildS [(.slice none 0 (some 0) 0)] 1 1 [(0, 1, (.t 2))], none⟩,
     ⟨(some 4), .call k_crc_Sum [(.t 3)], none⟩,
     ⟨(some 5), .bin .eql .no (.t 4) (.c (.int .u32 3808858755)), none⟩,
     ⟨(some 6), .mov (.t 5), none⟩,
     ⟨(some 7), .call k_crc_Sum [(.c (.slice none 0 (some 0) 0))], (some (6, true))⟩,
     ⟨(some 8), .bin .eql .no (.t 7) (.c (.int .u32 0)), (some (6, true))⟩,
     ⟨(some 9), .pick (.t 6) (.t 8) (.c (.bool false)), none⟩,
     ⟨(some 0), .mov (.t 9), none⟩])
  (.ret))⟩
def L_crc_Sum_0 : C := .seq (.ops [⟨(some 9), .bin .lss .no (.t 8) (.t 7), none⟩])
     (.seq (.cond (.t 9)
       (.skip)
       (.exit 0))
     (.seq (.block 1 (.seq (.ops [⟨(some 10), .idxAddrS 1 (.t 6) (.t 8), none⟩,
          ⟨(some 11), .load none (.t 10), none⟩,
          ⟨(some 5), .mov (.t 11), none⟩])
       (.ops [⟨(some 12), .mov (.t 3), none⟩,
         ⟨(some 13), .mov (.t 5), none⟩,
         ⟨(some 14), .call k_crc_On [(.t 12), (.t 13)], none⟩,
         ⟨(some 3), .mov (.t 14), none⟩])))
     (.ops [⟨(some 15), .bin .add .no (.t 8) (.c (.int .i64 1)), none⟩,
       ⟨(some 8), .mov (.t 15), none⟩])))
def R_crc_Sum_0 : C := .seq (.ops [⟨(some 16), .mov (.t 3), none⟩,
     ⟨(some 2), .mov (.t 16), none⟩])
  (.ret)
/-- purser/crc.Sum -/
def f_crc_Sum : Fn := ⟨17, [.tmp 2],
  .seq (.ops [⟨(some 2), .mov (.c (.int .u32 0)), none⟩])
  (.seq (.ops [⟨(some 3), .mov (.c (.int .u32 0)), none⟩])
  (.seq (.seq (.ops [⟨(some 6), .mov (.t 0), none⟩,
      ⟨(some 7), .len false (.t 6), none⟩,
      ⟨(some 8), .mov (.c (.int .i64 0)), none⟩])
   (.block 0 (.loop (L_crc_Sum_0))))
  (R_crc_Sum_0)))⟩
def A_crc_On_0 : C := .ops [⟨(some 7), .mov (.t 14), none⟩]
theorem u_A_crc_On_0 (Q : Orc) (N n : Nat) (r : Option Nat) (st : St) : evC Q N n r A_crc_On_0 st = evC Q N n r (.ops [⟨(some 7), .mov (.t 14), none⟩]) st := _root_.id rfl
def B_crc_On_0 : C := .block 1 (.seq (.ops [⟨(some 15), .load none (.t 6), none⟩,
          ⟨(some 16), .conv .u8 (.t 15), none⟩,
          ⟨(some 17), .bin .and .no (.t 16) (.c (.int .u8 15)), none⟩,
          ⟨(some 18), .mov (.t 7), none⟩,
          ⟨(some 19), .bin .xor .no (.t 17) (.t 18), none⟩,
          ⟨(some 8), .mov (.t 19), none⟩])
       (.seq (.ops [⟨(some 20), .load none (.t 6), none⟩,
          ⟨(some 21), .bin .shr .no (.t 20) (.c (.int .u64 4)), none⟩,
          ⟨none, .store 1 (.t 6) (.t 21), none⟩])
       (.seq (.seq (.ops [⟨(some 22), .mov (.t 8), none⟩,
           ⟨(some 23), .bin .eql .no (.t 22) (.c (.int .u8 0)), none⟩])
        (.cond (.t 23)
         (.exit 1)
         (.skip)))
       (.dops 0 [] [(⟨(some 24), .load none (.t 6), none⟩, .R [] []),
         (⟨(some 25), .mov (.t 8), none⟩, .L),
         (⟨(some 26), .idxAddrA 16 1 (.t 5) (.t 25), none⟩, .L),
         (⟨(some 27), .load none (.t 26), none⟩, .R [] []),
         (⟨(some 28), .bin .xor .no (.t 24) (.t 27), none⟩, .L),
         (⟨none, .store 1 (.t 6) (.t 28), none⟩, .B [])]))))
theorem u_B_crc_On_0 (Q : Orc) (N n : Nat) (r : Option Nat) (st : St) : evC Q N n r B_crc_On_0 st = evC Q N n r (.block 1 (.seq (.ops [⟨(some 15), .load none (.t 6), none⟩,
          ⟨(some 16), .conv .u8 (.t 15), none⟩,
          ⟨(some 17), .bin .and .no (.t 16) (.c (.int .u8 15)), none⟩,
          ⟨(some 18), .mov (.t 7), none⟩,
          ⟨(some 19), .bin .xor .no (.t 17) (.t 18), none⟩,
          ⟨(some 8), .mov (.t 19), none⟩])
       (.seq (.ops [⟨(some 20), .load none (.t 6), none⟩,
          ⟨(some 21), .bin .shr .no (.t 20) (.c (.int .u64 4)), none⟩,
          ⟨none, .store 1 (.t 6) (.t 21), none⟩])
       (.seq (.seq (.ops [⟨(some 22), .mov (.t 8), none⟩,
           ⟨(some 23), .bin .eql .no (.t 22) (.c (.int .u8 0)), none⟩])
        (.cond (.t 23)
         (.exit 1)
         (.skip)))
       (.dops 0 [] [(⟨(some 24), .load none (.t 6), none⟩, .R [] []),
         (⟨(some 25), .mov (.t 8), none⟩, .L),
         (⟨(some 26), .idxAddrA 16 1 (.t 5) (.t 25), none⟩, .L),
         (⟨(some 27), .load none (.t 26), none⟩, .R [] []),
         (⟨(some 28), .bin .xor .no (.t 24) (.t 27), none⟩, .L),
         (⟨none, .store 1 (.t 6) (.t 28), none⟩, .B [])]))))) st := _root_.id rfl
def R_crc_On_0 : C := .seq (.ops [⟨(some 29), .load none (.t 6), none⟩,
      ⟨(some 30), .un .xor (.t 29), none⟩,
      ⟨(some 4), .mov (.t 30), none⟩])
   (.ret)
/-- purser/crc.On -/
def f_crc_On : Fn := ⟨31, [.tmp 4],
  .seq (.ops [⟨(some 4), .mov (.c (.int .u32 0)), none⟩])
  (.scope (.seq (.ops [⟨(some 9), .call k_crc_steps [], none⟩,
      ⟨(some 5), .alloc [(.int .u32 0), (.int .u32 0), (.int .u32 0), (.int .u32 0), (.int .u32 0), (.int .u32 0), (.int .u32 0), (.int .u32 0), (.int .u32 0), (.int .u32 0), (.int .u32 0), (.int .u32 0), (.int .u32 0), (.int .u32 0), (.int .u32 0), (.int .u32 0)], none⟩,
      ⟨none, .store 16 (.t 5) (.t 9), none⟩])
   (.seq (.ops [⟨(some 10), .mov (.t 0), none⟩,
      ⟨(some 11), .un .xor (.t 10), none⟩,
      ⟨(some 6), .alloc [(.int .u32 0)], none⟩,
      ⟨none, .store 1 (.t 6) (.t 11), none⟩])
   (.seq (.skip)
   (.seq (.seq (.ops [⟨(some 12), .mov (.t 1), none⟩,
       ⟨(some 13), .call k_crc_halves [(.t 12)], none⟩])
    (.block 0 (.rangeF (.t 13) [14] (A_crc_On_0)
     (B_crc_On_0))))
   (R_crc_On_0))))))⟩
/-- (*purser/octet.Pen).Size -/
def f_octet_Pen_Size : Fn := ⟨25, [.tmp 4],
  .seq (.ops [⟨(some 4), .mov (.c (.int .i64 0)), none⟩])
  (.seq (.seq (.ops [⟨(some 6), .mov (.t 0), none⟩,
      ⟨(some 7), .bin .eql (.ref .p) (.t 6) (.c (.ptr none)), none⟩])
   (.cond (.t 7)
    (.seq (.ops [⟨(some 4), .mov (.c (.int .i64 1)), none⟩])
     (.ret))
    (.skip)))
  (.seq (.ops [⟨(some 8), .mov (.t 1), none⟩,
     ⟨(some 9), .call k_octet_Compact [(.t 8)], none⟩,
     ⟨(some 10), .bin .sub .no (.t 9) (.c (.int .i64 1)), none⟩,
     ⟨(some 5), .mov (.t 10), none⟩])
  (.seq (.seq (.ops [⟨(some 11), .mov (.t 5), none⟩,
      ⟨(some 12), .bin .eql .no (.t 11) (.c (.int .i64 0)), none⟩])
   (.cond (.t 12)
    (.seq (.ops [⟨(some 13), .mov (.t 0), none⟩,
        ⟨(some 14), .mov (.t 1), none⟩,
        ⟨(some 15), .call k_octet_Pen_put [(.t 13), (.c (.int .i64 1)), (.t 14)], none⟩])
     (.seq (.ops [⟨(some 4), .mov (.c (.int .i64 0)), none⟩])
     (.ret)))
    (.skip)))
  (.seq (.ops [⟨(some 16), .mov (.t 0), none⟩,
     ⟨(some 17), .mov (.t 5), none⟩,
     ⟨(some 18), .call k_octet_mark [(.t 17)], none⟩,
     ⟨(some 19), .conv .u64 (.t 18), none⟩,
     ⟨(some 20), .call k_octet_Pen_put [(.t 16), (.c (.int .i64 1)), (.t 19)], none⟩])
  (.seq (.ops [⟨(some 21), .mov (.t 0), none⟩,
     ⟨(some 22), .mov (.t 5), none⟩,
     ⟨(some 23), .mov (.t 1), none⟩,
     ⟨(some 24), .call k_octet_Pen_put [(.t 21), (.t 22), (.t 23)], none⟩])
  (.seq (.ops [⟨(some 4), .mov (.c (.int .i64 0)), none⟩])
  (.ret)))))))⟩
/-- (*purser/octet.Pen).Bytes -/
def f_octet_Pen_Bytes : Fn := ⟨18, [.tmp 4],
  .seq (.ops [⟨(some 4), .mov (.c (.int .i64 0)), none⟩])
  (.seq (.seq (.ops [⟨(some 6), .mov (.t 0), none⟩,
      ⟨(some 7), .mov (.t 1), none⟩,
      ⟨(some 8), .len false (.t 7), none⟩,
      ⟨(some 9), .conv .u64 (.t 8), none⟩,
      ⟨(some 10), .call k_octet_Pen_Size [(.t 6), (.t 9)], none⟩,
      ⟨(some 5), .mov (.t 10), none⟩])
   (.seq (.ops [⟨(some 11), .mov (.t 5), none⟩,
      ⟨(some 12), .bin .neq .no (.t 11) (.c (.int .i64 0)), none⟩])
   (.cond (.t 12)
    (.seq (.ops [⟨(some 13), .mov (.t 5), none⟩,
        ⟨(some 4), .mov (.t 13), none⟩])
     (.ret))
    (.skip))))
  (.seq (.ops [⟨(some 14), .mov (.t 0), none⟩,
     ⟨(some 15), .mov (.t 1), none⟩,
     ⟨(some 16), .buildS [(.slice none 0 (some 0) 0)] 1 1 [(0, 1, (.t 15))], none⟩,
     ⟨(some 17), .call k_octet_Pen_Raw [(.t 14), (.t 16)], none⟩,
     ⟨(some 4), .mov (.t 17), none⟩])
  (.ret)))⟩
/-- (*purser/octet.Pen).Fixed -/
def f_octet_Pen_Fixed : Fn := ⟨20, [.tmp 6],
  .seq (.ops [⟨(some 6), .mov (.c (.int .i64 0)), none⟩])
  (.seq (.seq (.ops [⟨(some 7), .mov (.t 0), none⟩,
      ⟨(some 8), .bin .eql (.ref .p) (.t 7) (.c (.ptr none)), none⟩])
   (.cond (.t 8)
    (.seq (.ops [⟨(some 6), .mov (.c (.int .i64 1)), none⟩])
     (.ret))
    (.skip)))
  (.seq (.seq (.ops [⟨(some 9), .mov (.t 1), none⟩,
      ⟨(some 10), .call k_octet_sized [(.t 9)], none⟩,
      ⟨(some 11), .un .not (.t 10), none⟩])
   (.cond (.t 11)
    (.seq (.ops [⟨(some 6), .mov (.c (.int .i64 2)), none⟩])
     (.ret))
    (.skip)))
  (.seq (.seq (.ops [⟨(some 12), .mov (.t 2), none⟩,
      ⟨(some 13), .call k_octet_width [(.t 12)], none⟩,
      ⟨(some 14), .mov (.t 1), none⟩,
      ⟨(some 15), .bin .gtr .no (.t 13) (.t 14), none⟩])
   (.cond (.t 15)
    (.seq (.ops [⟨(some 6), .mov (.c (.int .i64 10)), none⟩])
     (.ret))
    (.skip)))
  (.seq (.ops [⟨(some 16), .mov (.t 0), none⟩,
     ⟨(some 17), .mov (.t 1), none⟩,
     ⟨(some 18), .mov (.t 2), none⟩,
     ⟨(some 19), .call k_octet_Pen_put [(.t 16), (.t 17), (.t 18)], none⟩])
  (.seq (.ops [⟨(some 6), .mov (.c (.int .i64 0)), none⟩])
  (.ret))))))⟩
/-- purser/octet.Look -/
def f_octet_Look : Fn := ⟨7, [.tmp 2],
  .seq (.ops [⟨(some 2), .mov (.c (.ptr none)), none⟩])
  (.seq (.ops [⟨(some 3), .mov (.t 0), none⟩,
     ⟨(some 4), .append 1 1 (.c (.slice none 0 (some 0) 0)) (.t 3), none⟩,
     ⟨(some 5), .build [(.slice none 0 (some 0) 0), (.int .i64 0), (.bool false)] [(0, 1, (.t 4)), (2, 1, (.c (.bool true)))], none⟩,
     ⟨(some 6), .box (.t 5), none⟩,
     ⟨(some 2), .mov (.t 6), none⟩])
  (.ret))⟩
/-- (*purser/octet.Eye).Fixed -/
def f_octet_Eye_Fixed : Fn := ⟨42, [.tmp 4, .tmp 5],
  .seq (.ops [⟨(some 4), .mov (.c (.int .u64 0)), none⟩,
     ⟨(some 5), .mov (.c (.int .i64 0)), none⟩])
  (.seq (.seq (.ops [⟨(some 7), .mov (.t 0), none⟩,
      ⟨(some 8), .call k_octet_Eye_looks [(.t 7)], none⟩,
      ⟨(some 9), .un .not (.t 8), none⟩])
   (.cond (.t 9)
    (.seq (.ops [⟨(some 4), .mov (.c (.int .u64 0)), none⟩,
        ⟨(some 5), .mov (.c (.int .i64 1)), none⟩])
     (.ret))
    (.skip)))
  (.seq (.seq (.ops [⟨(some 10), .mov (.t 1), none⟩,
      ⟨(some 11), .call k_octet_sized [(.t 10)], none⟩,
      ⟨(some 12), .un .not (.t 11), none⟩])
   (.cond (.t 12)
    (.seq (.ops [⟨(some 4), .mov (.c (.int .u64 0)), none⟩,
        ⟨(some 5), .mov (.c (.int .i64 2)), none⟩])
     (.ret))
    (.skip)))
  (.seq (.seq (.ops [⟨(some 13), .mov (.t 1), none⟩,
      ⟨(some 14), .mov (.t 0), none⟩,
      ⟨(some 15), .call k_octet_Eye_Left [(.t 14)], none⟩,
      ⟨(some 16), .bin .gtr .no (.t 13) (.t 15), none⟩])
   (.cond (.t 16)
    (.seq (.ops [⟨(some 4), .mov (.c (.int .u64 0)), none⟩,
        ⟨(some 5), .mov (.c (.int .i64 10)), none⟩])
     (.ret))
    (.skip)))
  (.seq (.dops 0 [] [(⟨(some 17), .mov (.t 0), none⟩, .L),
     (⟨(some 18), .nilchk (.t 17), none⟩, .L),
     (⟨(some 19), .fieldAddr 0 (.t 18), none⟩, .L),
     (⟨(some 20), .load none (.t 19), none⟩, .R [] []),
     (⟨(some 21), .mov (.t 0), none⟩, .L),
     (⟨(some 22), .nilchk (.t 21), none⟩, .L),
     (⟨(some 23), .fieldAddr 1 (.t 22), none⟩, .L),
     (⟨(some 24), .load none (.t 23), none⟩, .R [] []),
     (⟨(some 25), .mov (.t 0), none⟩, .L),
     (⟨(some 26), .nilchk (.t 25), none⟩, .L),
     (⟨(some 27), .fieldAddr 1 (.t 26), none⟩, .L),
     (⟨(some 28), .load none (.t 27), none⟩, .R [] []),
     (⟨(some 29), .mov (.t 1), none⟩, .L),
     (⟨(some 30), .bin .add .no (.t 28) (.t 29), none⟩, .L),
     (⟨(some 31), .slcS 1 (.t 20) (some (.t 24)) (some (.t 30)) none, none⟩, .L),
     (⟨(some 32), .call k_octet_number [(.t 31)], none⟩, .B []),
     (⟨(some 6), .mov (.t 32), none⟩, .L)])
  (.seq (.ops [⟨(some 33), .mov (.t 0), none⟩,
     ⟨(some 34), .nilchk (.t 33), none⟩,
     ⟨(some 35), .fieldAddr 1 (.t 34), none⟩,
     ⟨(some 36), .load none (.t 35), none⟩,
     ⟨(some 37), .mov (.t 1), none⟩,
     ⟨(some 38), .bin .add .no (.t 36) (.t 37), none⟩,
     ⟨(some 39), .nilchk (.t 33), none⟩,
     ⟨(some 40), .fieldAddr 1 (.t 39), none⟩,
     ⟨none, .store 1 (.t 40) (.t 38), none⟩])
  (.seq (.ops [⟨(some 41), .mov (.t 6), none⟩,
     ⟨(some 4), .mov (.t 41), none⟩,
     ⟨(some 5), .mov (.c (.int .i64 0)), none⟩])
  (.ret)))))))⟩
def L_crc_steps_0 : C := .seq (.ops [⟨(some 11), .bin .lss .no (.t 10) (.c (.int .i64 4)), none⟩])
          (.seq (.cond (.t 11)
            (.skip)
            (.exit 2))
          (.seq (.block 3 (.seq (.ops [⟨(some 12), .mov (.t 3), none⟩,
               ⟨(some 13), .bin .and .no (.t 12) (.c (.int .u32 1)), none⟩,
               ⟨(some 4), .mov (.t 13), none⟩])
            (.ops [⟨(some 14), .mov (.t 3), none⟩,
              ⟨(some 15), .bin .shr .no (.t 14) (.c (.int .u64 1)), none⟩,
              ⟨(some 16), .mov (.t 4), none⟩,
              ⟨(some 17), .bin .mul .no (.c (.int .u32 2197175160)) (.t 16), none⟩,
              ⟨(some 18), .bin .xor .no (.t 15) (.t 17), none⟩,
              ⟨(some 3), .mov (.t 18), none⟩])))
          (.ops [⟨(some 19), .bin .add .no (.t 10) (.c (.int .i64 1)), none⟩,
            ⟨(some 10), .mov (.t 19), none⟩])))
def R_crc_steps_0 : C := .ops [⟨(some 20), .mov (.t 2), none⟩,
         ⟨(some 21), .mov (.t 3), none⟩,
         ⟨(some 22), .idxAddrA 16 1 (.t 1) (.t 20), none⟩,
         ⟨none, .store 1 (.t 22) (.t 21), none⟩]
def R_crc_steps_1 : C := .ops [⟨(some 23), .bin .add .no (.t 5) (.c (.int .i64 1)), none⟩,
       ⟨(some 5), .mov (.t 23), none⟩]
def L_crc_steps_1 : C := .seq (.ops [⟨(some 6), .bin .lss .no (.t 5) (.c (.int .i64 16)), none⟩])
     (.seq (.cond (.t 6)
       (.skip)
       (.exit 0))
     (.seq (.block 1 (.seq (.ops [⟨(some 7), .mov (.t 5), none⟩,
          ⟨(some 2), .mov (.t 7), none⟩])
       (.seq (.ops [⟨(some 8), .mov (.t 2), none⟩,
          ⟨(some 9), .conv .u32 (.t 8), none⟩,
          ⟨(some 3), .mov (.t 9), none⟩])
       (.seq (.seq (.ops [⟨(some 10), .mov (.c (.int .i64 0)), none⟩])
        (.block 2 (.loop (L_crc_steps_0))))
       (R_crc_steps_0)))))
     (R_crc_steps_1)))
def R_crc_steps_2 : C := .seq (.ops [⟨(some 24), .load (some 16) (.t 1), none⟩,
     ⟨none, .store 16 (.t 0) (.t 24), none⟩])
  (.ret)
/-- purser/crc.steps -/
def f_crc_steps : Fn := ⟨25, [.cell 0 (some 16)],
  .seq (.ops [⟨(some 0), .alloc [(.int .u32 0), (.int .u32 0), (.int .u32 0), (.int .u32 0), (.int .u32 0), (.int .u32 0), (.int .u32 0), (.int .u32 0), (.int .u32 0), (.int .u32 0), (.int .u32 0), (.int .u32 0), (.int .u32 0), (.int .u32 0), (.int .u32 0), (.int .u32 0)], none⟩])
  (.seq (.ops [⟨(some 1), .alloc [(.int .u32 0), (.int .u32 0), (.int .u32 0), (.int .u32 0), (.int .u32 0), (.int .u32 0), (.int .u32 0), (.int .u32 0), (.int .u32 0), (.int .u32 0), (.int .u32 0), (.int .u32 0), (.int .u32 0), (.int .u32 0), (.int .u32 0), (.int .u32 0)], none⟩])
  (.seq (.seq (.ops [⟨(some 5), .mov (.c (.int .i64 0)), none⟩])
   (.block 0 (.loop (L_crc_steps_1))))
  (R_crc_steps_2)))⟩
/-- purser/crc.halves -/
def f_crc_halves : Fn := ⟨4, [.tmp 2],
  .seq (.ops [⟨(some 1), .box (.t 0), none⟩,
     ⟨(some 2), .mov (.c .nilFn), none⟩])
  (.seq (.ops [⟨(some 3), .mkfn k_crc_halves_1 [] [(.t 1)], none⟩,
     ⟨(some 2), .mov (.t 3), none⟩])
  (.ret))⟩
/-- purser/octet.Compact -/
def f_octet_Compact : Fn := ⟨14, [.tmp 2],
  .seq (.ops [⟨(some 2), .mov (.c (.int .i64 0)), none⟩])
  (.seq (.seq (.ops [⟨(some 4), .mov (.t 0), none⟩,
      ⟨(some 5), .bin .lss .no (.t 4) (.c (.int .u64 253)), none⟩])
   (.cond (.t 5)
    (.seq (.ops [⟨(some 2), .mov (.c (.int .i64 1)), none⟩])
     (.ret))
    (.skip)))
  (.seq (.seq (.ops [⟨(some 6), .mov (.t 0), none⟩,
      ⟨(some 7), .call k_octet_width [(.t 6)], none⟩,
      ⟨(some 3), .mov (.t 7), none⟩])
   (.block 0 (.seq (.ops [⟨(some 9), .mov (.t 3), none⟩,
       ⟨(some 10), .bin .leq .no (.t 9) (.c (.int .i64 2)), none⟩,
       ⟨(some 8), .mov (.t 10), none⟩])
    (.cond (.t 8)
     (.seq (.ops [⟨(some 2), .mov (.c (.int .i64 3)), none⟩])
      (.ret))
     (.seq (.ops [⟨(some 12), .mov (.t 3), none⟩,
         ⟨(some 13), .bin .leq .no (.t 12) (.c (.int .i64 4)), none⟩,
         ⟨(some 11), .mov (.t 13), none⟩])
      (.cond (.t 11)
       (.seq (.ops [⟨(some 2), .mov (.c (.int .i64 5)), none⟩])
        (.ret))
       (.skip)))))))
  (.seq (.ops [⟨(some 2), .mov (.c (.int .i64 9)), none⟩])
  (.ret))))⟩
def A_octet_Pen_put_0 : C := .seq (.ops [⟨(some 7), .mov (.t 26), none⟩])
    (.ops [⟨(some 8), .mov (.t 27), none⟩])
theorem u_A_octet_Pen_put_0 (Q : Orc) (N n : Nat) (r : Option Nat) (st : St) : evC Q N n r A_octet_Pen_put_0 st = evC Q N n r (.seq (.ops [⟨(some 7), .mov (.t 26), none⟩])
    (.ops [⟨(some 8), .mov (.t 27), none⟩])) st := _root_.id rfl
def B_octet_Pen_put_0 : C := .block 1 (.dops 0 [] [(⟨(some 28), .load none (.t 3), none⟩, .R [] []),
       (⟨(some 29), .nilchk (.t 28), none⟩, .L),
       (⟨(some 30), .fieldAddr 0 (.t 29), none⟩, .L),
       (⟨(some 31), .load none (.t 30), none⟩, .R [] []),
       (⟨(some 32), .load none (.t 6), none⟩, .R [] []),
       (⟨(some 33), .mov (.t 7), none⟩, .L),
       (⟨(some 34), .bin .add .no (.t 32) (.t 33), none⟩, .L),
       (⟨(some 35), .mov (.t 8), none⟩, .L),
       (⟨(some 36), .idxAddrS 1 (.t 31) (.t 34), none⟩, .L),
       (⟨none, .store 1 (.t 36) (.t 35), none⟩, .B [])])
theorem u_B_octet_Pen_put_0 (Q : Orc) (N n : Nat) (r : Option Nat) (st : St) : evC Q N n r B_octet_Pen_put_0 st = evC Q N n r (.block 1 (.dops 0 [] [(⟨(some 28), .load none (.t 3), none⟩, .R [] []),
       (⟨(some 29), .nilchk (.t 28), none⟩, .L),
       (⟨(some 30), .fieldAddr 0 (.t 29), none⟩, .L),
       (⟨(some 31), .load none (.t 30), none⟩, .R [] []),
       (⟨(some 32), .load none (.t 6), none⟩, .R [] []),
       (⟨(some 33), .mov (.t 7), none⟩, .L),
       (⟨(some 34), .bin .add .no (.t 32) (.t 33), none⟩, .L),
       (⟨(some 35), .mov (.t 8), none⟩, .L),
       (⟨(some 36), .idxAddrS 1 (.t 31) (.t 34), none⟩, .L),
       (⟨none, .store 1 (.t 36) (.t 35), none⟩, .B [])])) st := _root_.id rfl
/-- (*purser/octet.Pen).put -/
def f_octet_Pen_put : Fn := ⟨37, [],
  .seq (.ops [⟨(some 3), .box (.t 0), none⟩])
  (.seq (.ops [⟨(some 9), .load none (.t 3), none⟩,
     ⟨(some 10), .nilchk (.t 9), none⟩,
     ⟨(some 11), .fieldAddr 0 (.t 10), none⟩,
     ⟨(some 12), .load none (.t 11), none⟩,
     ⟨(some 13), .len false (.t 12), none⟩,
     ⟨(some 6), .alloc [(.int .i64 0)], none⟩,
     ⟨none, .store 1 (.t 6) (.t 13), none⟩])
  (.seq (.dops 0 [] [(⟨(some 14), .load none (.t 3), none⟩, .R [] [(1, [])]),
     (⟨(some 15), .load none (.t 3), none⟩, .R [] []),
     (⟨(some 16), .nilchk (.t 15), none⟩, .L),
     (⟨(some 17), .fieldAddr 0 (.t 16), none⟩, .L),
     (⟨(some 18), .load none (.t 17), none⟩, .R [] []),
     (⟨(some 19), .mov (.t 1), none⟩, .L),
     (⟨(some 20), .appendZ [(.int .u8 0)] 1 (.t 18) (.t 19), none⟩, .B []),
     (⟨(some 21), .nilchk (.t 14), none⟩, .L),
     (⟨(some 22), .fieldAddr 0 (.t 21), none⟩, .L),
     (⟨none, .store 1 (.t 22) (.t 20), none⟩, .B [])])
  (.seq (.ops [⟨(some 23), .mov (.t 2), none⟩,
     ⟨(some 24), .mov (.t 1), none⟩,
     ⟨(some 25), .call k_octet_highFirst [(.t 23), (.t 24)], none⟩])
  (.block 0 (.rangeF (.t 25) [26, 27] (A_octet_Pen_put_0)
   (B_octet_Pen_put_0))))))⟩
/-- purser/octet.mark -/
def f_octet_mark : Fn := ⟨8, [.tmp 2],
  .seq (.ops [⟨(some 2), .mov (.c (.int .u8 0)), none⟩])
  (.seq (.seq (.ops [⟨(some 3), .mov (.t 0), none⟩])
   (.block 0 (.seq (.ops [⟨(some 5), .bin .eql .no (.t 3) (.c (.int .i64 2)), none⟩,
       ⟨(some 4), .mov (.t 5), none⟩])
    (.cond (.t 4)
     (.seq (.ops [⟨(some 2), .mov (.c (.int .u8 253)), none⟩])
      (.ret))
     (.seq (.ops [⟨(some 7), .bin .eql .no (.t 3) (.c (.int .i64 4)), none⟩,
         ⟨(some 6), .mov (.t 7), none⟩])
      (.cond (.t 6)
       (.seq (.ops [⟨(some 2), .mov (.c (.int .u8 254)), none⟩])
        (.ret))
       (.skip)))))))
  (.seq (.ops [⟨(some 2), .mov (.c (.int .u8 255)), none⟩])
  (.ret)))⟩
def A_octet_width_0 : C := .seq (.ops [⟨(some 4), .mov (.t 8), none⟩])
      (.ops [⟨(some 5), .mov (.t 9), none⟩])
theorem u_A_octet_width_0 (Q : Orc) (N n : Nat) (r : Option Nat) (st : St) : evC Q N n r A_octet_width_0 st = evC Q N n r (.seq (.ops [⟨(some 4), .mov (.t 8), none⟩])
      (.ops [⟨(some 5), .mov (.t 9), none⟩])) st := _root_.id rfl
def B_octet_width_0 : C := .block 1 (.seq (.ops [⟨(some 10), .mov (.t 5), none⟩,
          ⟨(some 11), .bin .neq .no (.t 10) (.c (.int .u8 0)), none⟩])
       (.cond (.t 11)
        (.seq (.ops [⟨(some 12), .mov (.t 4), none⟩,
            ⟨(some 13), .bin .add .no (.t 12) (.c (.int .i64 1)), none⟩,
            ⟨none, .store 1 (.t 3) (.t 13), none⟩])
         (.exit 0))
        (.skip)))
theorem u_B_octet_width_0 (Q : Orc) (N n : Nat) (r : Option Nat) (st : St) : evC Q N n r B_octet_width_0 st = evC Q N n r (.block 1 (.seq (.ops [⟨(some 10), .mov (.t 5), none⟩,
          ⟨(some 11), .bin .neq .no (.t 10) (.c (.int .u8 0)), none⟩])
       (.cond (.t 11)
        (.seq (.ops [⟨(some 12), .mov (.t 4), none⟩,
            ⟨(some 13), .bin .add .no (.t 12) (.c (.int .i64 1)), none⟩,
            ⟨none, .store 1 (.t 3) (.t 13), none⟩])
         (.exit 0))
        (.skip)))) st := _root_.id rfl
def R_octet_width_0 : C := .seq (.ops [⟨(some 14), .load none (.t 3), none⟩,
      ⟨(some 2), .mov (.t 14), none⟩])
   (.ret)
/-- purser/octet.width -/
def f_octet_width : Fn := ⟨15, [.tmp 2],
  .seq (.ops [⟨(some 2), .mov (.c (.int .i64 0)), none⟩])
  (.scope (.seq (.ops [⟨(some 3), .alloc [(.int .i64 0)], none⟩,
      ⟨none, .store 1 (.t 3) (.c (.int .i64 1)), none⟩])
   (.seq (.skip)
   (.seq (.seq (.ops [⟨(some 6), .mov (.t 0), none⟩,
       ⟨(some 7), .call k_octet_highFirst [(.t 6), (.c (.int .i64 8))], none⟩])
    (.block 0 (.rangeF (.t 7) [8, 9] (A_octet_width_0)
     (B_octet_width_0))))
   (R_octet_width_0)))))⟩
/-- purser/octet.sized -/
def f_octet_sized : Fn := ⟨17, [.tmp 2],
  .seq (.ops [⟨(some 2), .mov (.c (.bool false)), none⟩])
  (.seq (.ops [⟨(some 3), .mov (.t 0), none⟩,
     ⟨(some 4), .bin .eql .no (.t 3) (.c (.int .i64 1)), none⟩,
     ⟨(some 5), .mov (.t 4), none⟩,
     ⟨(some 6), .mov (.t 0), (some (5, false))⟩,
     ⟨(some 7), .bin .eql .no (.t 6) (.c (.int .i64 2)), (some (5, false))⟩,
     ⟨(some 8), .pick (.t 5) (.c (.bool true)) (.t 7), none⟩,
     ⟨(some 9), .mov (.t 8), none⟩,
     ⟨(some 10), .mov (.t 0), (some (9, false))⟩,
     ⟨(some 11), .bin .eql .no (.t 10) (.c (.int .i64 4)), (some (9, false))⟩,
     ⟨(some 12), .pick (.t 9) (.c (.bool true)) (.t 11), none⟩,
     ⟨(some 13), .mov (.t 12), none⟩,
     ⟨(some 14), .mov (.t 0), (some (13, false))⟩,
     ⟨(some 15), .bin .eql .no (.t 14) (.c (.int .i64 8)), (some (13, false))⟩,
     ⟨(some 16), .pick (.t 13) (.c (.bool true)) (.t 15), none⟩,
     ⟨(some 2), .mov (.t 16), none⟩])
  (.ret))⟩
/-- (*purser/octet.Eye).Left -/
def f_octet_Eye_Left : Fn := ⟨16, [.tmp 2],
  .seq (.ops [⟨(some 2), .mov (.c (.int .i64 0)), none⟩])
  (.seq (.seq (.ops [⟨(some 3), .mov (.t 0), none⟩,
      ⟨(some 4), .call k_octet_Eye_looks [(.t 3)], none⟩,
      ⟨(some 5), .un .not (.t 4), none⟩])
   (.cond (.t 5)
    (.seq (.ops [⟨(some 2), .mov (.c (.int .i64 0)), none⟩])
     (.ret))
    (.skip)))
  (.seq (.dops 0 [] [(⟨(some 6), .mov (.t 0), none⟩, .L),
     (⟨(some 7), .nilchk (.t 6), none⟩, .L),
     (⟨(some 8), .fieldAddr 0 (.t 7), none⟩, .L),
     (⟨(some 9), .load none (.t 8), none⟩, .R [] []),
     (⟨(some 10), .len false (.t 9), none⟩, .L),
     (⟨(some 11), .mov (.t 0), none⟩, .L),
     (⟨(some 12), .nilchk (.t 11), none⟩, .L),
     (⟨(some 13), .fieldAddr 1 (.t 12), none⟩, .L),
     (⟨(some 14), .load none (.t 13), none⟩, .R [] []),
     (⟨(some 15), .bin .sub .no (.t 10) (.t 14), none⟩, .L),
     (⟨(some 2), .mov (.t 15), none⟩, .L)])
  (.ret)))⟩
/-- (*purser/octet.Eye).looks -/
def f_octet_Eye_looks : Fn := ⟨11, [.tmp 2],
  .seq (.ops [⟨(some 2), .mov (.c (.bool false)), none⟩])
  (.seq (.ops [⟨(some 3), .mov (.t 0), none⟩,
     ⟨(some 4), .bin .neq (.ref .p) (.t 3) (.c (.ptr none)), none⟩,
     ⟨(some 5), .mov (.t 4), none⟩,
     ⟨(some 6), .mov (.t 0), (some (5, true))⟩,
     ⟨(some 7), .nilchk (.t 6), (some (5, true))⟩,
     ⟨(some 8), .fieldAddr 2 (.t 7), (some (5, true))⟩,
     ⟨(some 9), .load none (.t 8), (some (5, true))⟩,
     ⟨(some 10), .pick (.t 5) (.t 9) (.c (.bool false)), none⟩,
     ⟨(some 2), .mov (.t 10), none⟩])
  (.ret))⟩
def L_octet_number_0 : C := .seq (.seq (.ops [⟨(some 8), .mov (.t 4), none⟩,
         ⟨(some 9), .bin .geq .no (.t 8) (.c (.int .i64 0)), none⟩])
      (.cond (.t 9)
       (.skip)
       (.exit 0)))
     (.seq (.block 1 (.ops [⟨(some 12), .mov (.t 3), none⟩,
         ⟨(some 13), .bin .shl .no (.t 12) (.c (.int .u64 8)), none⟩,
         ⟨(some 14), .mov (.t 0), none⟩,
         ⟨(some 15), .mov (.t 4), none⟩,
         ⟨(some 16), .idxAddrS 1 (.t 14) (.t 15), none⟩,
         ⟨(some 17), .load none (.t 16), none⟩,
         ⟨(some 18), .conv .u64 (.t 17), none⟩,
         ⟨(some 19), .bin .or .no (.t 13) (.t 18), none⟩,
         ⟨(some 3), .mov (.t 19), none⟩]))
     (.ops [⟨(some 10), .mov (.t 4), none⟩,
       ⟨(some 11), .bin .sub .no (.t 10) (.c (.int .i64 1)), none⟩,
       ⟨(some 4), .mov (.t 11), none⟩]))
def R_octet_number_0 : C := .seq (.ops [⟨(some 20), .mov (.t 3), none⟩,
     ⟨(some 2), .mov (.t 20), none⟩])
  (.ret)
/-- purser/octet.number -/
def f_octet_number : Fn := ⟨21, [.tmp 2],
  .seq (.ops [⟨(some 2), .mov (.c (.int .u64 0)), none⟩])
  (.seq (.ops [⟨(some 3), .mov (.c (.int .u64 0)), none⟩])
  (.seq (.seq (.ops [⟨(some 5), .mov (.t 0), none⟩,
      ⟨(some 6), .len false (.t 5), none⟩,
      ⟨(some 7), .bin .sub .no (.t 6) (.c (.int .i64 1)), none⟩,
      ⟨(some 4), .mov (.t 7), none⟩])
   (.block 0 (.loop (L_octet_number_0))))
  (R_octet_number_0)))⟩
def L_crc_halves_1_0 : C := .seq (.ops [⟨(some 8), .bin .lss .no (.t 7) (.t 6), none⟩])
    (.seq (.cond (.t 8)
      (.skip)
      (.exit 0))
    (.seq (.block 1 (.seq (.ops [⟨(some 9), .idxAddrS 1 (.t 5) (.t 7), none⟩,
         ⟨(some 10), .load none (.t 9), none⟩,
         ⟨(some 4), .mov (.t 10), none⟩])
      (.seq (.ops [⟨(some 11), .mov (.t 0), none⟩,
         ⟨(some 12), .mov (.t 4), none⟩,
         ⟨(some 13), .bin .and .no (.t 12) (.c (.int .u8 15)), none⟩,
         ⟨(some 14), .callv (.t 11) [(.t 13)], none⟩,
         ⟨(some 15), .un .not (.t 14), none⟩,
         ⟨(some 16), .mov (.t 15), none⟩,
         ⟨(some 17), .mov (.t 0), (some (16, false))⟩,
         ⟨(some 18), .mov (.t 4), (some (16, false))⟩,
         ⟨(some 19), .bin .shr .no (.t 18) (.c (.int .u64 4)), (some (16, false))⟩,
         ⟨(some 20), .callv (.t 17) [(.t 19)], (some (16, false))⟩,
         ⟨(some 21), .un .not (.t 20), (some (16, false))⟩,
         ⟨(some 22), .pick (.t 16) (.c (.bool true)) (.t 21), none⟩])
      (.cond (.t 22)
       (.ret)
       (.skip)))))
    (.ops [⟨(some 23), .bin .add .no (.t 7) (.c (.int .i64 1)), none⟩,
      ⟨(some 7), .mov (.t 23), none⟩])))
/-- purser/crc.halves$1 -/
def f_crc_halves_1 : Fn := ⟨24, [],
  .seq (.ops [⟨(some 5), .load none (.t 1), none⟩,
     ⟨(some 6), .len false (.t 5), none⟩,
     ⟨(some 7), .mov (.c (.int .i64 0)), none⟩])
  (.block 0 (.loop (L_crc_halves_1_0)))⟩
/-- purser/octet.highFirst -/
def f_octet_highFirst : Fn := ⟨6, [.tmp 4],
  .seq (.ops [⟨(some 2), .box (.t 0), none⟩,
     ⟨(some 3), .box (.t 1), none⟩,
     ⟨(some 4), .mov (.c .nilFn), none⟩])
  (.seq (.ops [⟨(some 5), .mkfn k_octet_highFirst_1 [] [(.t 3), (.t 2)], none⟩,
     ⟨(some 4), .mov (.t 5), none⟩])
  (.ret))⟩
def L_octet_highFirst_1_0 : C := .seq (.seq (.ops [⟨(some 7), .mov (.t 4), none⟩,
        ⟨(some 8), .bin .geq .no (.t 7) (.c (.int .i64 0)), none⟩])
     (.cond (.t 8)
      (.skip)
      (.exit 0)))
    (.seq (.block 1 (.seq (.ops [⟨(some 11), .mov (.t 0), none⟩,
         ⟨(some 12), .mov (.t 4), none⟩,
         ⟨(some 13), .load none (.t 2), none⟩,
         ⟨(some 14), .mov (.t 4), none⟩,
         ⟨(some 15), .bin .mul .no (.c (.int .i64 8)) (.t 14), none⟩,
         ⟨(some 16), .bin .shr .no (.t 13) (.t 15), none⟩,
         ⟨(some 17), .conv .u8 (.t 16), none⟩,
         ⟨(some 18), .callv (.t 11) [(.t 12), (.t 17)], none⟩,
         ⟨(some 19), .un .not (.t 18), none⟩])
      (.cond (.t 19)
       (.ret)
       (.skip))))
    (.ops [⟨(some 9), .mov (.t 4), none⟩,
      ⟨(some 10), .bin .sub .no (.t 9) (.c (.int .i64 1)), none⟩,
      ⟨(some 4), .mov (.t 10), none⟩]))
/-- purser/octet.highFirst$1 -/
def f_octet_highFirst_1 : Fn := ⟨20, [],
  .seq (.ops [⟨(some 5), .load none (.t 1), none⟩,
     ⟨(some 6), .bin .sub .no (.t 5) (.c (.int .i64 1)), none⟩,
     ⟨(some 4), .mov (.t 6), none⟩])
  (.block 0 (.loop (L_octet_highFirst_1_0)))⟩

end Go.Eng
