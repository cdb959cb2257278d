/- Functions of the program, as the evaluator takes them: printed by program. -/
import Derived.Test.YtgjoaeefnknpfaaEngI
namespace Go.Eng
open Go
/-- purser/purserlaw02.CrcParts -/
abbrev k_purserlaw02_CrcParts : Nat := 11
/-- purser/crc.Sum -/
abbrev k_crc_Sum : Nat := 37
/-- purser/crc.On -/
abbrev k_crc_On : Nat := 39
/-- purser/purserlaw02.alive -/
abbrev k_purserlaw02_alive : Nat := 45
/-- purser/crc.steps -/
abbrev k_crc_steps : Nat := 61
/-- purser/crc.halves -/
abbrev k_crc_halves : Nat := 62
/-- purser/crc.halves$1 -/
abbrev k_crc_halves_1 : Nat := 71
def L_purserlaw02_CrcParts_0 : C := .seq (.seq (.ops [⟨(some 95), .mov (.t 17), none⟩,
         ⟨(some 96), .mov (.t 15), none⟩,
         ⟨(some 97), .bin .lss .no (.t 95) (.t 96), none⟩])
      (.cond (.t 97)
       (.skip)
       (.exit 0)))
     (.seq (.block 1 (.dops 1 [] [(⟨(some 100), .mov (.t 16), none⟩, .L),
         (⟨(some 101), .mov (.t 0), none⟩, .L),
         (⟨(some 102), .mov (.t 17), none⟩, .L),
         (⟨(some 103), .idxAddrS 1 (.t 101) (.t 102), none⟩, .L),
         (⟨(some 104), .load none (.t 103), none⟩, .R [] []),
         (⟨(some 105), .mov (.t 1), none⟩, .L),
         (⟨(some 106), .mov (.t 17), none⟩, .L),
         (⟨(some 107), .idxAddrS 1 (.t 105) (.t 106), none⟩, .L),
         (⟨(some 108), .load none (.t 107), none⟩, .R [] []),
         (⟨(some 109), .bin .xor .no (.t 104) (.t 108), none⟩, .L),
         (⟨(some 110), .mov (.t 2), none⟩, .L),
         (⟨(some 111), .mov (.t 17), none⟩, .L),
         (⟨(some 112), .idxAddrS 1 (.t 110) (.t 111), none⟩, .L),
         (⟨(some 113), .load none (.t 112), none⟩, .R [] []),
         (⟨(some 114), .bin .xor .no (.t 109) (.t 113), none⟩, .L),
         (⟨(some 115), .buildS [(.int .u8 0)] 1 1 [(0, 1, (.t 114))], none⟩, .Al 0),
         (⟨(some 116), .append 1 1 (.t 100) (.t 115), none⟩, .B [0]),
         (⟨(some 16), .mov (.t 116), none⟩, .L)]))
     (.ops [⟨(some 98), .mov (.t 17), none⟩,
       ⟨(some 99), .bin .add .no (.t 98) (.c (.int .i64 1)), none⟩,
       ⟨(some 17), .mov (.t 99), none⟩]))
def R_purserlaw02_CrcParts_0 : C := .seq (.dops 4 [] [(⟨(some 117), .mov (.t 11), none⟩, .L),
     (⟨(some 118), .mov (.t 117), none⟩, .L),
     (⟨(some 119), .mov (.t 16), (some (118, true))⟩, .L),
     (⟨(some 120), .buildS [(.slice none 0 (some 0) 0)] 1 1 [(0, 1, (.t 119))], (some (118, true))⟩, .Al 0),
     (⟨(some 121), .call k_crc_Sum [(.t 120)], (some (118, true))⟩, .B [0]),
     (⟨(some 122), .mov (.t 0), (some (118, true))⟩, .L),
     (⟨(some 123), .mov (.t 15), (some (118, true))⟩, .L),
     (⟨(some 124), .slcS 1 (.t 122) none (some (.t 123)) none, (some (118, true))⟩, .L),
     (⟨(some 125), .buildS [(.slice none 0 (some 0) 0)] 1 1 [(0, 1, (.t 124))], (some (118, true))⟩, .Al 1),
     (⟨(some 126), .call k_crc_Sum [(.t 125)], (some (118, true))⟩, .B [1]),
     (⟨(some 127), .mov (.t 1), (some (118, true))⟩, .L),
     (⟨(some 128), .mov (.t 15), (some (118, true))⟩, .L),
     (⟨(some 129), .slcS 1 (.t 127) none (some (.t 128)) none, (some (118, true))⟩, .L),
     (⟨(some 130), .buildS [(.slice none 0 (some 0) 0)] 1 1 [(0, 1, (.t 129))], (some (118, true))⟩, .Al 2),
     (⟨(some 131), .call k_crc_Sum [(.t 130)], (some (118, true))⟩, .B [2]),
     (⟨(some 132), .bin .xor .no (.t 126) (.t 131), (some (118, true))⟩, .L),
     (⟨(some 133), .mov (.t 2), (some (118, true))⟩, .L),
     (⟨(some 134), .mov (.t 15), (some (118, true))⟩, .L),
     (⟨(some 135), .slcS 1 (.t 133) none (some (.t 134)) none, (some (118, true))⟩, .L),
     (⟨(some 136), .buildS [(.slice none 0 (some 0) 0)] 1 1 [(0, 1, (.t 135))], (some (118, true))⟩, .Al 3),
     (⟨(some 137), .call k_crc_Sum [(.t 136)], (some (118, true))⟩, .B [3]),
     (⟨(some 138), .bin .xor .no (.t 132) (.t 137), (some (118, true))⟩, .L),
     (⟨(some 139), .bin .eql .no (.t 121) (.t 138), (some (118, true))⟩, .L),
     (⟨(some 140), .pick (.t 118) (.t 139) (.c (.bool false)), none⟩, .L),
     (⟨(some 10), .mov (.t 140), none⟩, .L)])
  (.ret)
/-- purser/purserlaw02.CrcParts -/
def f_purserlaw02_CrcParts : Fn := ⟨141, [.tmp 10],
  .seq (.ops [⟨(some 10), .mov (.c (.bool false)), none⟩])
  (.seq (.ops [⟨(some 18), .call k_purserlaw02_alive [], none⟩,
     ⟨(some 11), .mov (.t 18), none⟩])
  (.seq (.seq (.ops [⟨(some 19), .mov (.t 0), none⟩,
      ⟨(some 20), .len false (.t 19), none⟩,
      ⟨(some 21), .bin .gtr .no (.t 20) (.c (.int .i64 3000)), none⟩,
      ⟨(some 22), .mov (.t 21), none⟩,
      ⟨(some 23), .mov (.t 1), (some (22, false))⟩,
      ⟨(some 24), .len false (.t 23), (some (22, false))⟩,
      ⟨(some 25), .bin .gtr .no (.t 24) (.c (.int .i64 3000)), (some (22, false))⟩,
      ⟨(some 26), .pick (.t 22) (.c (.bool true)) (.t 25), none⟩,
      ⟨(some 27), .mov (.t 26), none⟩,
      ⟨(some 28), .mov (.t 2), (some (27, false))⟩,
      ⟨(some 29), .len false (.t 28), (some (27, false))⟩,
      ⟨(some 30), .bin .gtr .no (.t 29) (.c (.int .i64 3000)), (some (27, false))⟩,
      ⟨(some 31), .pick (.t 27) (.c (.bool true)) (.t 30), none⟩,
      ⟨(some 32), .mov (.t 31), none⟩,
      ⟨(some 33), .mov (.t 11), (some (32, false))⟩,
      ⟨(some 34), .un .not (.t 33), (some (32, false))⟩,
      ⟨(some 35), .pick (.t 32) (.c (.bool true)) (.t 34), none⟩])
   (.cond (.t 35)
    (.seq (.ops [⟨(some 36), .mov (.t 11), none⟩,
        ⟨(some 10), .mov (.t 36), none⟩])
     (.ret))
    (.skip)))
  (.seq (.ops [⟨(some 37), .mov (.t 3), none⟩,
     ⟨(some 38), .conv .i64 (.t 37), none⟩,
     ⟨(some 39), .mov (.t 0), none⟩,
     ⟨(some 40), .len false (.t 39), none⟩,
     ⟨(some 41), .bin .add .no (.t 40) (.c (.int .i64 1)), none⟩,
     ⟨(some 42), .bin .rem .no (.t 38) (.t 41), none⟩,
     ⟨(some 12), .mov (.t 42), none⟩])
  (.seq (.ops [⟨(some 43), .mov (.t 12), none⟩,
     ⟨(some 44), .mov (.t 4), none⟩,
     ⟨(some 45), .conv .i64 (.t 44), none⟩,
     ⟨(some 46), .mov (.t 0), none⟩,
     ⟨(some 47), .len false (.t 46), none⟩,
     ⟨(some 48), .mov (.t 12), none⟩,
     ⟨(some 49), .bin .sub .no (.t 47) (.t 48), none⟩,
     ⟨(some 50), .bin .add .no (.t 49) (.c (.int .i64 1)), none⟩,
     ⟨(some 51), .bin .rem .no (.t 45) (.t 50), none⟩,
     ⟨(some 52), .bin .add .no (.t 43) (.t 51), none⟩,
     ⟨(some 13), .mov (.t 52), none⟩])
  (.seq (.ops [⟨(some 53), .mov (.t 0), none⟩,
     ⟨(some 54), .buildS [(.slice none 0 (some 0) 0)] 1 1 [(0, 1, (.t 53))], none⟩,
     ⟨(some 55), .call k_crc_Sum [(.t 54)], none⟩,
     ⟨(some 14), .mov (.t 55), none⟩])
  (.seq (.seq (.dops 2 [] [(⟨(some 56), .mov (.t 0), none⟩, .L),
      (⟨(some 57), .mov (.t 12), none⟩, .L),
      (⟨(some 58), .slcS 1 (.t 56) none (some (.t 57)) none, none⟩, .L),
      (⟨(some 59), .mov (.t 0), none⟩, .L),
      (⟨(some 60), .mov (.t 12), none⟩, .L),
      (⟨(some 61), .mov (.t 13), none⟩, .L),
      (⟨(some 62), .slcS 1 (.t 59) (some (.t 60)) (some (.t 61)) none, none⟩, .L),
      (⟨(some 63), .mov (.t 0), none⟩, .L),
      (⟨(some 64), .mov (.t 13), none⟩, .L),
      (⟨(some 65), .slcS 1 (.t 63) (some (.t 64)) none none, none⟩, .L),
      (⟨(some 66), .buildS [(.slice none 0 (some 0) 0), (.slice none 0 (some 0) 0), (.slice none 0 (some 0) 0)] 3 1 [(0, 1, (.t 58)), (1, 1, (.t 62)), (2, 1, (.t 65))], none⟩, .Al 0),
      (⟨(some 67), .call k_crc_Sum [(.t 66)], none⟩, .B [0]),
      (⟨(some 68), .mov (.t 14), none⟩, .L),
      (⟨(some 69), .bin .neq .no (.t 67) (.t 68), none⟩, .L),
      (⟨(some 70), .mov (.t 69), none⟩, .L),
      (⟨(some 71), .mov (.t 0), (some (70, false))⟩, .L),
      (⟨(some 72), .mov (.t 12), (some (70, false))⟩, .L),
      (⟨(some 73), .slcS 1 (.t 71) none (some (.t 72)) none, (some (70, false))⟩, .L),
      (⟨(some 74), .buildS [(.slice none 0 (some 0) 0)] 1 1 [(0, 1, (.t 73))], (some (70, false))⟩, .Al 1),
      (⟨(some 75), .call k_crc_Sum [(.t 74)], (some (70, false))⟩, .B [1]),
      (⟨(some 76), .mov (.t 0), (some (70, false))⟩, .L),
      (⟨(some 77), .mov (.t 12), (some (70, false))⟩, .L),
      (⟨(some 78), .mov (.t 13), (some (70, false))⟩, .L),
      (⟨(some 79), .slcS 1 (.t 76) (some (.t 77)) (some (.t 78)) none, (some (70, false))⟩, .L),
      (⟨(some 80), .call k_crc_On [(.t 75), (.t 79)], (some (70, false))⟩, .B []),
      (⟨(some 81), .mov (.t 0), (some (70, false))⟩, .L),
      (⟨(some 82), .mov (.t 13), (some (70, false))⟩, .L),
      (⟨(some 83), .slcS 1 (.t 81) (some (.t 82)) none none, (some (70, false))⟩, .L),
      (⟨(some 84), .call k_crc_On [(.t 80), (.t 83)], (some (70, false))⟩, .B []),
      (⟨(some 85), .mov (.t 14), (some (70, false))⟩, .L),
      (⟨(some 86), .bin .neq .no (.t 84) (.t 85), (some (70, false))⟩, .L),
      (⟨(some 87), .pick (.t 70) (.c (.bool true)) (.t 86), none⟩, .L)])
   (.cond (.t 87)
    (.seq (.ops [⟨(some 10), .mov (.c (.bool false)), none⟩])
     (.ret))
    (.skip)))
  (.seq (.ops [⟨(some 88), .mov (.t 0), none⟩,
     ⟨(some 89), .len false (.t 88), none⟩,
     ⟨(some 90), .mov (.t 1), none⟩,
     ⟨(some 91), .len false (.t 90), none⟩,
     ⟨(some 92), .mov (.t 2), none⟩,
     ⟨(some 93), .len false (.t 92), none⟩,
     ⟨(some 94), .minmax true [(.t 89), (.t 91), (.t 93)], none⟩,
     ⟨(some 15), .mov (.t 94), none⟩])
  (.seq (.ops [⟨(some 16), .mov (.c (.slice none 0 (some 0) 0)), none⟩])
  (.seq (.seq (.ops [⟨(some 17), .mov (.c (.int .i64 0)), none⟩])
   (.block 0 (.loop (L_purserlaw02_CrcParts_0))))
  (R_purserlaw02_CrcParts_0))))))))))⟩
def L_crc_Sum_0 : C := .seq (.ops [⟨(some 9), .bin .lss .no (.t 8) (.t 7), none⟩])
     (.seq (.cond (.t 9)
       (.skip)
       (.exit 0))
     (.seq (.block 1 (.seq (.ops [⟨(some 10), .idxAddrS 1 (.t 6) (.t 8), none⟩,
          ⟨(some 11), .load none (.t 10), none⟩,
          ⟨(some 5), .mov (.t 11), none⟩])
       (.ops [⟨(some 12), .mov (.t 3), none⟩,
         ⟨(some 13), .mov (.t 5), none⟩,
         ⟨(some 14), .call k_crc_On [(.t 12), (.t 13)], none⟩,
         ⟨(some 3), .mov (.t 14), none⟩])))
     (.ops [⟨(some 15), .bin .add .no (.t 8) (.c (.int .i64 1)), none⟩,
       ⟨(some 8), .mov (.t 15), none⟩])))
def R_crc_Sum_0 : C := .seq (.ops [⟨(some 16), .mov (.t 3), none⟩,
     ⟨(some 2), .mov (.t 16), none⟩])
  (.ret)
/-- purser/crc.Sum -/
def f_crc_Sum : Fn := ⟨17, [.tmp 2],
  .seq (.ops [⟨(some 2), .mov (.c (.int .u32 0)), none⟩])
  (.seq (.ops [⟨(some 3), .mov (.c (.int .u32 0)), none⟩])
  (.seq (.seq (.ops [⟨(some 6), .mov (.t 0), none⟩,
      ⟨(some 7), .len false (.t 6), none⟩,
      ⟨(some 8), .mov (.c (.int .i64 0)), none⟩])
   (.block 0 (.loop (L_crc_Sum_0))))
  (R_crc_Sum_0)))⟩
def A_crc_On_0 : C := .ops [⟨(some 7), .mov (.t 14), none⟩]
theorem u_A_crc_On_0 (Q : Orc) (N n : Nat) (r : Option Nat) (st : St) : evC Q N n r A_crc_On_0 st = evC Q N n r (.ops [⟨(some 7), .mov (.t 14), none⟩]) st := _root_.id rfl
def B_crc_On_0 : C := .block 1 (.seq (.ops [⟨(some 15), .load none (.t 6), none⟩,
          ⟨(some 16), .conv .u8 (.t 15), none⟩,
          ⟨(some 17), .bin .and .no (.t 16) (.c (.int .u8 15)), none⟩,
          ⟨(some 18), .mov (.t 7), none⟩,
          ⟨(some 19), .bin .xor .no (.t 17) (.t 18), none⟩,
          ⟨(some 8), .mov (.t 19), none⟩])
       (.seq (.ops [⟨(some 20), .load none (.t 6), none⟩,
          ⟨(some 21), .bin .shr .no (.t 20) (.c (.int .u64 4)), none⟩,
          ⟨none, .store 1 (.t 6) (.t 21), none⟩])
       (.seq (.seq (.ops [⟨(some 22), .mov (.t 8), none⟩,
           ⟨(some 23), .bin .eql .no (.t 22) (.c (.int .u8 0)), none⟩])
        (.cond (.t 23)
         (.exit 1)
         (.skip)))
       (.dops 0 [] [(⟨(some 24), .load none (.t 6), none⟩, .R [] []),
         (⟨(some 25), .mov (.t 8), none⟩, .L),
         (⟨(some 26), .idxAddrA 16 1 (.t 5) (.t 25), none⟩, .L),
         (⟨(some 27), .load none (.t 26), none⟩, .R [] []),
         (⟨(some 28), .bin .xor .no (.t 24) (.t 27), none⟩, .L),
         (⟨none, .store 1 (.t 6) (.t 28), none⟩, .B [])]))))
theorem u_B_crc_On_0 (Q : Orc) (N n : Nat) (r : Option Nat) (st : St) : evC Q N n r B_crc_On_0 st = evC Q N n r (.block 1 (.seq (.ops [⟨(some 15), .load none (.t 6), none⟩,
          ⟨(some 16), .conv .u8 (.t 15), none⟩,
          ⟨(some 17), .bin .and .no (.t 16) (.c (.int .u8 15)), none⟩,
          ⟨(some 18), .mov (.t 7), none⟩,
          ⟨(some 19), .bin .xor .no (.t 17) (.t 18), none⟩,
          ⟨(some 8), .mov (.t 19), none⟩])
       (.seq (.ops [⟨(some 20), .load none (.t 6), none⟩,
          ⟨(some 21), .bin .shr .no (.t 20) (.c (.int .u64 4)), none⟩,
          ⟨none, .store 1 (.t 6) (.t 21), none⟩])
       (.seq (.seq (.ops [⟨(some 22), .mov (.t 8), none⟩,
           ⟨(some 23), .bin .eql .no (.t 22) (.c (.int .u8 0)), none⟩])
        (.cond (.t 23)
         (.exit 1)
         (.skip)))
       (.dops 0 [] [(⟨(some 24), .load none (.t 6), none⟩, .R [] []),
         (⟨(some 25), .mov (.t 8), none⟩, .L),
         (⟨(some 26), .idxAddrA 16 1 (.t 5) (.t 25), none⟩, .L),
         (⟨(some 27), .load none (.t 26), none⟩, .R [] []),
         (⟨(some 28), .bin .xor .no (.t 24) (.t 27), none⟩, .L),
         (⟨none, .store 1 (.t 6) (.t 28), none⟩, .B [])]))))) st := _root_.id rfl
def R_crc_On_0 : C := .seq (.ops [⟨(some 29), .load none (.t 6), none⟩,
      ⟨(some 30), .un .xor (.t 29), none⟩,
      ⟨(some 4), .mov (.t 30), none⟩])
   (.ret)
/-- purser/crc.On -/
def f_crc_On : Fn := ⟨31, [.tmp 4],
  .seq (.ops [⟨(some 4), .mov (.c (.int .u32 0)), none⟩])
  (.scope (.seq (.ops [⟨(some 9), .call k_crc_steps [], none⟩,
      ⟨(some 5), .alloc [(.int .u32 0), (.int .u32 0), (.int .u32 0), (.int .u32 0), (.int .u32 0), (.int .u32 0), (.int .u32 0), (.int .u32 0), (.int .u32 0), (.int .u32 0), (.int .u32 0), (.int .u32 0), (.int .u32 0), (.int .u32 0), (.int .u32 0), (.int .u32 0)], none⟩,
      ⟨none, .store 16 (.t 5) (.t 9), none⟩])
   (.seq (.ops [⟨(some 10), .mov (.t 0), none⟩,
      ⟨(some 11), .un .xor (.t 10), none⟩,
      ⟨(some 6), .alloc [(.int .u32 0)], none⟩,
      ⟨none, .store 1 (.t 6) (.t 11), none⟩])
   (.seq (.skip)
   (.seq (.seq (.ops [⟨(some 12), .mov (.t 1), none⟩,
       ⟨(some 13), .call k_crc_halves [(.t 12)], none⟩])
    (.block 0 (.rangeF (.t 13) [14] (A_crc_On_0)
     (B_crc_On_0))))
   (R_crc_On_0))))))⟩
/-- purser/purserlaw02.alive -/
def f_purserlaw02_alive : Fn := ⟨10, [.tmp 0],
  .seq (.ops [⟨(some 0), .mov (.c (.bool false)), none⟩])
  (.seq (.ops [⟨(some 1), .buildS [(.int .u8 0), (.int .u8 0), (.int .u8 0), (.int .u8 0), (.int .u8 0), (.int .u8 0), (.int .u8 0), (.int .u8 0), (.int .u8 0)] 9 1 [(0, 1, (.c (.int .u8 49))), (1, 1, (.c (.int .u8 50))), (2, 1, (.c (.int .u8 51))), (3, 1, (.c (.int .u8 52))), (4, 1, (.c (.int .u8 53))), (5, 1, (.c (.int .u8 54))), (6, 1, (.c (.int .u8 55))), (7, 1, (.c (.int .u8 56))), (8, 1, (.c (.int .u8 57)))], none⟩,
     ⟨(some 2), .mark (.t 1), none⟩,
     ⟨(some 3), .buildS [(.slice none 0 (some 0) 0)] 1 1 [(0, 1, (.t 2))], none⟩,
     ⟨(some 4), .call k_crc_Sum [(.t 3)], none⟩,
     ⟨(some 5), .bin .eql .no (.t 4) (.c (.int .u32 3808858755)), none⟩,
     ⟨(some 6), .mov (.t 5), none⟩,
     ⟨(some 7), .call k_crc_Sum [(.c (.slice none 0 (some 0) 0))], (some (6, true))⟩,
     ⟨(some 8), .bin .eql .no (.t 7) (.c (.int .u32 0)), (some (6, true))⟩,
     ⟨(some 9), .pick (.t 6) (.t 8) (.c (.bool false)), none⟩,
     ⟨(some 0), .mov (.t 9), none⟩])
  (.ret))⟩
def L_crc_steps_0 : C := .seq (.ops [⟨(some 11), .bin .lss .no (.t 10) (.c (.int .i64 4)), none⟩])
          (.seq (.cond (.t 11)
            (.skip)
            (.exit 2))
          (.seq (.block 3 (.seq (.ops [⟨(some 12), .mov (.t 3), none⟩,
               ⟨(some 13), .bin .and .no (.t 12) (.c (.int .u32 1)), none⟩,
               ⟨(some 4), .mov (.t 13), none⟩])
            (.ops [⟨(some 14), .mov (.t 3), none⟩,
              ⟨(some 15), .bin .shr .no (.t 14) (.c (.int .u64 1)), none⟩,
              ⟨(some 16), .mov (.t 4), none⟩,
              ⟨(some 17), .bin .mul .no (.c (.int .u32 2197175160)) (.t 16), none⟩,
              ⟨(some 18), .bin .xor .no (.t 15) (.t 17), none⟩,
              ⟨(some 3), .mov (.t 18), none⟩])))
          (.ops [⟨(some 19), .bin .add .no (.t 10) (.c (.int .i64 1)), none⟩,
            ⟨(some 10), .mov (.t 19), none⟩])))
def R_crc_steps_0 : C := .ops [⟨(some 20), .mov (.t 2), none⟩,
         ⟨(some 21), .mov (.t 3), none⟩,
         ⟨(some 22), .idxAddrA 16 1 (.t 1) (.t 20), none⟩,
         ⟨none, .store 1 (.t 22) (.t 21), none⟩]
def R_crc_steps_1 : C := .ops [⟨(some 23), .bin .add .no (.t 5) (.c (.int .i64 1)), none⟩,
       ⟨(some 5), .mov (.t 23), none⟩]
def L_crc_steps_1 : C := .seq (.ops [⟨(some 6), .bin .lss .no (.t 5) (.c (.int .i64 16)), none⟩])
     (.seq (.cond (.t 6)
       (.skip)
       (.exit 0))
     (.seq (.block 1 (.seq (.ops [⟨(some 7), .mov (.t 5), none⟩,
          ⟨(some 2), .mov (.t 7), none⟩])
       (.seq (.ops [⟨(some 8), .mov (.t 2), none⟩,
          ⟨(some 9), .conv .u32 (.t 8), none⟩,
          ⟨(some 3), .mov (.t 9), none⟩])
       (.seq (.seq (.ops [⟨(some 10), .mov (.c (.int .i64 0)), none⟩])
        (.block 2 (.loop (L_crc_steps_0))))
       (R_crc_steps_0)))))
     (R_crc_steps_1)))
def R_crc_steps_2 : C := .seq (.ops [⟨(some 24), .load (some 16) (.t 1), none⟩,
     ⟨none, .store 16 (.t 0) (.t 24), none⟩])
  (.ret)
/-- purser/crc.steps -/
def f_crc_steps : Fn := ⟨25, [.cell 0 (some 16)],
  .seq (.ops [⟨(some 0), .alloc [(.int .u32 0), (.int .u32 0), (.int .u32 0), (.int .u32 0), (.int .u32 0), (.int .u32 0), (.int .u32 0), (.int .u32 0), (.int .u32 0), (.int .u32 0), (.int .u32 0), (.int .u32 0), (.int .u32 0), (.int .u32 0), (.int .u32 0), (.int .u32 0)], none⟩])
  (.seq (.ops [⟨(some 1), .alloc [(.int .u32 0), (.int .u32 0), (.int .u32 0), (.int .u32 0), (.int .u32 0), (.int .u32 0), (.int .u32 0), (.int .u32 0), (.int .u32 0), (.int .u32 0), (.int .u32 0), (.int .u32 0), (.int .u32 0), (.int .u32 0), (.int .u32 0), (.int .u32 0)], none⟩])
  (.seq (.seq (.ops [⟨(some 5), .mov (.c (.int .i64 0)), none⟩])
   (.block 0 (.loop (L_crc_steps_1))))
  (R_crc_steps_2)))⟩
/-- purser/crc.halves -/
def f_crc_halves : Fn := ⟨4, [.tmp 2],
  .seq (.ops [⟨(some 1), .box (.t 0), none⟩,
     ⟨(some 2), .mov (.c .nilFn), none⟩])
  (.seq (.ops [⟨(some 3), .mkfn k_crc_halves_1 [] [(.t 1)], none⟩,
     ⟨(some 2), .mov (.t 3), none⟩])
  (.ret))⟩
def L_crc_halves_1_0 : C := .seq (.ops [⟨(some 8), .bin .lss .no (.t 7) (.t 6), none⟩])
    (.seq (.cond (.t 8)
      (.skip)
      (.exit 0))
    (.seq (.block 1 (.seq (.ops [⟨(some 9), .idxAddrS 1 (.t 5) (.t 7), none⟩,
         ⟨(some 10), .load none (.t 9), none⟩,
         ⟨(some 4), .mov (.t 10), none⟩])
      (.seq (.ops [⟨(some 11), .mov (.t 0), none⟩,
         ⟨(some 12), .mov (.t 4), none⟩,
         ⟨(some 13), .bin .and .no (.t 12) (.c (.int .u8 15)), none⟩,
         ⟨(some 14), .callv (.t 11) [(.t 13)], none⟩,
         ⟨(some 15), .un .not (.t 14), none⟩,
         ⟨(some 16), .mov (.t 15), none⟩,
         ⟨(some 17), .mov (.t 0), (some (16, false))⟩,
         ⟨(some 18), .mov (.t 4), (some (16, false))⟩,
         ⟨(some 19), .bin .shr .no (.t 18) (.c (.int .u64 4)), (some (16, false))⟩,
         ⟨(some 20), .callv (.t 17) [(.t 19)], (some (16, false))⟩,
         ⟨(some 21), .un .not (.t 20), (some (16, false))⟩,
         ⟨(some 22), .pick (.t 16) (.c (.bool true)) (.t 21), none⟩])
      (.cond (.t 22)
       (.ret)
       (.skip)))))
    (.ops [⟨(some 23), .bin .add .no (.t 7) (.c (.int .i64 1)), none⟩,
      ⟨(some 7), .mov (.t 23), none⟩])))
/-- purser/crc.halves$1 -/
def f_crc_halves_1 : Fn := ⟨24, [],
  .seq (.ops [⟨(some 5), .load none (.t 1), none⟩,
     ⟨(some 6), .len false (.t 5), none⟩,
     ⟨(some 7), .mov (.c (.int .i64 0)), none⟩])
  (.block 0 (.loop (L_crc_halves_1_0)))⟩

end Go.Eng
