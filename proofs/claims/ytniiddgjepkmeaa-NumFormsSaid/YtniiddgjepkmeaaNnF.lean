/- Functions of the program, as the evaluator takes them: printed by program. -/
import Derived.Test.YtniiddgjepkmeaaEngA
namespace Go.Eng
open Go
/-- purser/purserlaw11.NumForms -/
abbrev k_purserlaw11_NumForms : Nat := 8
/-- purser/num.Encode -/
abbrev k_num_Encode : Nat := 33
/-- purser/purserref11.Encode -/
abbrev k_purserref11_Encode : Nat := 34
/-- purser/num.Decode -/
abbrev k_num_Decode : Nat := 35
/-- purser/purserref11.Decode -/
abbrev k_purserref11_Decode : Nat := 36
/-- purser/num.True -/
abbrev k_num_True : Nat := 37
/-- purser/purserref11.True -/
abbrev k_purserref11_True : Nat := 38
/-- purser/num.Flag -/
abbrev k_num_Flag : Nat := 39
/-- purser/purserref11.Flag -/
abbrev k_purserref11_Flag : Nat := 40
/-- purser/num.lowFirst -/
abbrev k_num_lowFirst : Nat := 66
/-- (purser/num.integer).size -/
abbrev k_num_integer_size : Nat := 67
/-- purser/num.signed -/
abbrev k_num_signed : Nat := 68
/-- purser/purserref11.Bytes -/
abbrev k_purserref11_Bytes : Nat := 69
/-- purser/num.number -/
abbrev k_num_number : Nat := 70
/-- bytes.Equal -/
abbrev k_bytes_Equal : Nat := 71
/-- purser/purserref11.flag -/
abbrev k_purserref11_flag : Nat := 72
/-- purser/num.lowFirst$1 -/
abbrev k_num_lowFirst_1 : Nat := 96
/-- purser/purserlaw11.NumForms -/
def f_purserlaw11_NumForms : Fn := ⟨94, [.tmp 6],
  .seq (.ops [⟨(some 6), .mov (.c (.bool false)), none⟩])
  (.seq (.seq (.ops [⟨(some 16), .mov (.t 1), none⟩,
      ⟨(some 17), .len false (.t 16), none⟩,
      ⟨(some 18), .bin .gtr .no (.t 17) (.c (.int .i64 100)), none⟩])
   (.cond (.t 18)
    (.seq (.ops [⟨(some 6), .mov (.c (.bool true)), none⟩])
     (.ret))
    (.skip)))
  (.seq (.ops [⟨(some 19), .buildS [] 0 1 [], none⟩,
     ⟨(some 20), .mov (.t 1), none⟩,
     ⟨(some 21), .append 1 1 (.t 19) (.t 20), none⟩,
     ⟨(some 22), .buildS [(.int .u8 0)] 1 1 [(0, 1, (.c (.int .u8 7)))], none⟩,
     ⟨(some 23), .append 1 1 (.t 21) (.t 22), none⟩,
     ⟨(some 7), .mov (.t 23), none⟩])
  (.seq (.ops [⟨(some 25), .mov (.t 0), none⟩,
     ⟨(some 26), .call k_num_Encode [(.t 25)], none⟩,
     ⟨(some 24), .mov (.t 26), none⟩,
     ⟨(some 27), .ext (.t 24) 0, none⟩,
     ⟨(some 28), .ext (.t 24) 1, none⟩,
     ⟨(some 8), .mov (.t 27), none⟩,
     ⟨(some 9), .mov (.t 28), none⟩])
  (.seq (.ops [⟨(some 30), .mov (.t 0), none⟩,
     ⟨(some 31), .call k_purserref11_Encode [(.t 30)], none⟩,
     ⟨(some 29), .mov (.t 31), none⟩,
     ⟨(some 32), .ext (.t 29) 0, none⟩,
     ⟨(some 33), .ext (.t 29) 1, none⟩,
     ⟨(some 10), .mov (.t 32), none⟩,
     ⟨(some 11), .mov (.t 33), none⟩])
  (.seq (.ops [⟨(some 35), .mov (.t 7), none⟩,
     ⟨(some 36), .mov (.t 1), none⟩,
     ⟨(some 37), .len false (.t 36), none⟩,
     ⟨(some 38), .slcS 1 (.t 35) none (some (.t 37)) none, none⟩,
     ⟨(some 39), .call k_num_Decode [(.t 38)], none⟩,
     ⟨(some 34), .mov (.t 39), none⟩,
     ⟨(some 40), .ext (.t 34) 0, none⟩,
     ⟨(some 41), .ext (.t 34) 1, none⟩,
     ⟨(some 12), .mov (.t 40), none⟩,
     ⟨(some 13), .mov (.t 41), none⟩])
  (.seq (.ops [⟨(some 43), .mov (.t 1), none⟩,
     ⟨(some 44), .call k_purserref11_Decode [(.t 43)], none⟩,
     ⟨(some 42), .mov (.t 44), none⟩,
     ⟨(some 45), .ext (.t 42) 0, none⟩,
     ⟨(some 46), .ext (.t 42) 1, none⟩,
     ⟨(some 14), .mov (.t 45), none⟩,
     ⟨(some 15), .mov (.t 46), none⟩])
  (.seq (.dops 0 [] [(⟨(some 47), .mov (.t 8), none⟩, .L),
     (⟨(some 48), .b2s (.t 47), none⟩, .R [] []),
     (⟨(some 49), .mov (.t 10), none⟩, .L),
     (⟨(some 50), .b2s (.t 49), none⟩, .R [] []),
     (⟨(some 51), .bin .eql .no (.t 48) (.t 50), none⟩, .L),
     (⟨(some 52), .mov (.t 51), none⟩, .L),
     (⟨(some 53), .mov (.t 9), (some (52, true))⟩, .L),
     (⟨(some 54), .mov (.t 11), (some (52, true))⟩, .L),
     (⟨(some 55), .bin .eql .no (.t 53) (.t 54), (some (52, true))⟩, .L),
     (⟨(some 56), .pick (.t 52) (.t 55) (.c (.bool false)), none⟩, .L),
     (⟨(some 57), .mov (.t 56), none⟩, .L),
     (⟨(some 58), .mov (.t 12), (some (57, true))⟩, .L),
     (⟨(some 59), .mov (.t 14), (some (57, true))⟩, .L),
     (⟨(some 60), .bin .eql .no (.t 58) (.t 59), (some (57, true))⟩, .L),
     (⟨(some 61), .pick (.t 57) (.t 60) (.c (.bool false)), none⟩, .L),
     (⟨(some 62), .mov (.t 61), none⟩, .L),
     (⟨(some 63), .mov (.t 13), (some (62, true))⟩, .L),
     (⟨(some 64), .mov (.t 15), (some (62, true))⟩, .L),
     (⟨(some 65), .bin .eql .no (.t 63) (.t 64), (some (62, true))⟩, .L),
     (⟨(some 66), .pick (.t 62) (.t 65) (.c (.bool false)), none⟩, .L),
     (⟨(some 67), .mov (.t 66), none⟩, .L),
     (⟨(some 68), .mov (.t 7), (some (67, true))⟩, .L),
     (⟨(some 69), .mov (.t 1), (some (67, true))⟩, .L),
     (⟨(some 70), .len false (.t 69), (some (67, true))⟩, .L),
     (⟨(some 71), .slcS 1 (.t 68) none (some (.t 70)) none, (some (67, true))⟩, .L),
     (⟨(some 72), .call k_num_True [(.t 71)], (some (67, true))⟩, .B []),
     (⟨(some 73), .mov (.t 1), (some (67, true))⟩, .L),
     (⟨(some 74), .call k_purserref11_True [(.t 73)], (some (67, true))⟩, .B []),
     (⟨(some 75), .bin .eql .bool (.t 72) (.t 74), (some (67, true))⟩, .L),
     (⟨(some 76), .pick (.t 67) (.t 75) (.c (.bool false)), none⟩, .L),
     (⟨(some 77), .mov (.t 76), none⟩, .L),
     (⟨(some 78), .mov (.t 2), (some (77, true))⟩, .L),
     (⟨(some 79), .call k_num_Flag [(.t 78)], (some (77, true))⟩, .B []),
     (⟨(some 80), .b2s (.t 79), (some (77, true))⟩, .R [] [(0, [])]),
     (⟨(some 81), .mov (.t 2), (some (77, true))⟩, .L),
     (⟨(some 82), .call k_purserref11_Flag [(.t 81)], (some (77, true))⟩, .B []),
     (⟨(some 83), .b2s (.t 82), (some (77, true))⟩, .R [] []),
     (⟨(some 84), .bin .eql .no (.t 80) (.t 83), (some (77, true))⟩, .L),
     (⟨(some 85), .pick (.t 77) (.t 84) (.c (.bool false)), none⟩, .L),
     (⟨(some 86), .mov (.t 85), none⟩, .L),
     (⟨(some 87), .mov (.t 7), (some (86, true))⟩, .L),
     (⟨(some 88), .b2s (.t 87), (some (86, true))⟩, .R [] []),
     (⟨(some 89), .mov (.t 1), (some (86, true))⟩, .L),
     (⟨(some 90), .b2s (.t 89), (some (86, true))⟩, .R [] []),
     (⟨(some 91), .bin .add .no (.t 90) (.c (.str [7])), (some (86, true))⟩, .L),
     (⟨(some 92), .bin .eql .no (.t 88) (.t 91), (some (86, true))⟩, .L),
     (⟨(some 93), .pick (.t 86) (.t 92) (.c (.bool false)), none⟩, .L),
     (⟨(some 6), .mov (.t 93), none⟩, .L)])
  (.ret))))))))⟩
/-- purser/num.Encode -/
def f_num_Encode : Fn := ⟨32, [.tmp 2, .tmp 3],
  .seq (.ops [⟨(some 2), .mov (.c (.slice none 0 (some 0) 0)), none⟩,
     ⟨(some 3), .mov (.c (.int .i64 0)), none⟩])
  (.scope (.seq (.seq (.ops [⟨(some 7), .mov (.t 0), none⟩,
       ⟨(some 8), .bin .lss .no (.t 7) (.c (.int .i64 (-549755813887))), none⟩,
       ⟨(some 9), .mov (.t 8), none⟩,
       ⟨(some 10), .mov (.t 0), (some (9, false))⟩,
       ⟨(some 11), .bin .gtr .no (.t 10) (.c (.int .i64 549755813887)), (some (9, false))⟩,
       ⟨(some 12), .pick (.t 9) (.c (.bool true)) (.t 11), none⟩])
    (.cond (.t 12)
     (.seq (.ops [⟨(some 2), .mov (.c (.slice none 0 (some 0) 0)), none⟩,
         ⟨(some 3), .mov (.c (.int .i64 110)), none⟩])
      (.ret))
     (.skip)))
   (.seq (.ops [⟨(some 4), .alloc [(.slice none 0 (some 0) 0)], none⟩])
   (.seq (.skip)
   (.seq (.seq (.ops [⟨(some 13), .mov (.t 0), none⟩,
       ⟨(some 14), .call k_num_integer_size [(.t 13)], none⟩,
       ⟨(some 15), .call k_num_lowFirst [(.t 14)], none⟩])
    (.block 0 (.rangeF (.t 15) [16, 17] (.seq (.ops [⟨(some 5), .mov (.t 16), none⟩])
      (.ops [⟨(some 6), .mov (.t 17), none⟩]))
     (.block 1 (.seq (.seq (.ops [⟨(some 18), .mov (.t 5), none⟩,
           ⟨(some 19), .bin .eql .no (.t 18) (.c (.int .u8 0)), none⟩,
           ⟨(some 20), .mov (.t 19), none⟩,
           ⟨(some 21), .mov (.t 6), (some (20, true))⟩,
           ⟨(some 22), .bin .eql .no (.t 21) (.c (.int .i64 0)), (some (20, true))⟩,
           ⟨(some 23), .pick (.t 20) (.t 22) (.c (.bool false)), none⟩])
        (.cond (.t 23)
         (.exit 0)
         (.skip)))
       (.ops [⟨(some 24), .load none (.t 4), none⟩,
         ⟨(some 25), .mov (.t 5), none⟩,
         ⟨(some 26), .buildS [(.int .u8 0)] 1 1 [(0, 1, (.t 25))], none⟩,
         ⟨(some 27), .append 1 1 (.t 24) (.t 26), none⟩,
         ⟨none, .store 1 (.t 4) (.t 27), none⟩]))))))
   (.seq (.ops [⟨(some 28), .load none (.t 4), none⟩,
      ⟨(some 29), .mov (.t 0), none⟩,
      ⟨(some 30), .bin .lss .no (.t 29) (.c (.int .i64 0)), none⟩,
      ⟨(some 31), .call k_num_signed [(.t 28), (.t 30)], none⟩,
      ⟨(some 2), .mov (.t 31), none⟩,
      ⟨(some 3), .mov (.c (.int .i64 0)), none⟩])
   (.ret)))))))⟩
/-- purser/purserref11.Encode -/
def f_purserref11_Encode : Fn := ⟨12, [.tmp 2, .tmp 3],
  .seq (.ops [⟨(some 2), .mov (.c (.slice none 0 (some 0) 0)), none⟩,
     ⟨(some 3), .mov (.c (.int .i64 0)), none⟩])
  (.seq (.seq (.ops [⟨(some 4), .mov (.t 0), none⟩,
      ⟨(some 5), .bin .leq .no (.t 4) (.c (.int .i64 (-549755813888))), none⟩,
      ⟨(some 6), .mov (.t 5), none⟩,
      ⟨(some 7), .mov (.t 0), (some (6, false))⟩,
      ⟨(some 8), .bin .geq .no (.t 7) (.c (.int .i64 549755813888)), (some (6, false))⟩,
      ⟨(some 9), .pick (.t 6) (.c (.bool true)) (.t 8), none⟩])
   (.cond (.t 9)
    (.seq (.ops [⟨(some 2), .mov (.c (.slice none 0 (some 0) 0)), none⟩,
        ⟨(some 3), .mov (.c (.int .i64 110)), none⟩])
     (.ret))
    (.skip)))
  (.seq (.ops [⟨(some 10), .mov (.t 0), none⟩,
     ⟨(some 11), .call k_purserref11_Bytes [(.t 10)], none⟩,
     ⟨(some 2), .mov (.t 11), none⟩,
     ⟨(some 3), .mov (.c (.int .i64 0)), none⟩])
  (.ret)))⟩
/-- purser/num.Decode -/
def f_num_Decode : Fn := ⟨26, [.tmp 2, .tmp 3],
  .seq (.ops [⟨(some 2), .mov (.c (.int .i64 0)), none⟩,
     ⟨(some 3), .mov (.c (.int .i64 0)), none⟩])
  (.seq (.seq (.ops [⟨(some 7), .mov (.t 0), none⟩,
      ⟨(some 8), .len false (.t 7), none⟩,
      ⟨(some 9), .bin .gtr .no (.t 8) (.c (.int .i64 4)), none⟩])
   (.cond (.t 9)
    (.seq (.ops [⟨(some 2), .mov (.c (.int .i64 0)), none⟩,
        ⟨(some 3), .mov (.c (.int .i64 110)), none⟩])
     (.ret))
    (.skip)))
  (.seq (.ops [⟨(some 10), .mov (.t 0), none⟩,
     ⟨(some 11), .call k_num_number [(.t 10)], none⟩,
     ⟨(some 4), .mov (.t 11), none⟩])
  (.seq (.seq (.ops [⟨(some 13), .mov (.t 4), none⟩,
      ⟨(some 14), .call k_num_Encode [(.t 13)], none⟩,
      ⟨(some 12), .mov (.t 14), none⟩,
      ⟨(some 15), .ext (.t 12) 0, none⟩,
      ⟨(some 16), .ext (.t 12) 1, none⟩,
      ⟨(some 5), .mov (.t 15), none⟩,
      ⟨(some 6), .mov (.t 16), none⟩])
   (.seq (.ops [⟨(some 17), .mov (.t 6), none⟩,
      ⟨(some 18), .bin .neq .no (.t 17) (.c (.int .i64 0)), none⟩,
      ⟨(some 19), .mov (.t 18), none⟩,
      ⟨(some 20), .mov (.t 5), (some (19, false))⟩,
      ⟨(some 21), .mov (.t 0), (some (19, false))⟩,
      ⟨(some 22), .call k_bytes_Equal [(.t 20), (.t 21)], (some (19, false))⟩,
      ⟨(some 23), .un .not (.t 22), (some (19, false))⟩,
      ⟨(some 24), .pick (.t 19) (.c (.bool true)) (.t 23), none⟩])
   (.cond (.t 24)
    (.seq (.ops [⟨(some 2), .mov (.c (.int .i64 0)), none⟩,
        ⟨(some 3), .mov (.c (.int .i64 110)), none⟩])
     (.ret))
    (.skip))))
  (.seq (.ops [⟨(some 25), .mov (.t 4), none⟩,
     ⟨(some 2), .mov (.t 25), none⟩,
     ⟨(some 3), .mov (.c (.int .i64 0)), none⟩])
  (.ret)))))⟩
/-- purser/purserref11.Decode -/
def f_purserref11_Decode : Fn := ⟨51, [.tmp 2, .tmp 3],
  .seq (.ops [⟨(some 2), .mov (.c (.int .i64 0)), none⟩,
     ⟨(some 3), .mov (.c (.int .i64 0)), none⟩])
  (.seq (.seq (.ops [⟨(some 9), .mov (.t 0), none⟩,
      ⟨(some 10), .len false (.t 9), none⟩,
      ⟨(some 11), .bin .gtr .no (.t 10) (.c (.int .i64 4)), none⟩])
   (.cond (.t 11)
    (.seq (.ops [⟨(some 2), .mov (.c (.int .i64 0)), none⟩,
        ⟨(some 3), .mov (.c (.int .i64 110)), none⟩])
     (.ret))
    (.skip)))
  (.seq (.ops [⟨(some 4), .mov (.c (.int .i64 0)), none⟩])
  (.seq (.ops [⟨(some 5), .mov (.c (.int .i64 1)), none⟩])
  (.seq (.ops [⟨(some 6), .mov (.c (.bool false)), none⟩])
  (.seq (.seq (.ops [⟨(some 7), .mov (.c (.int .i64 0)), none⟩])
   (.block 0 (.loop (.seq (.seq (.ops [⟨(some 12), .mov (.t 7), none⟩,
         ⟨(some 13), .mov (.t 0), none⟩,
         ⟨(some 14), .len false (.t 13), none⟩,
         ⟨(some 15), .bin .lss .no (.t 12) (.t 14), none⟩])
      (.cond (.t 15)
       (.skip)
       (.exit 0)))
     (.seq (.block 1 (.seq (.ops [⟨(some 18), .mov (.t 0), none⟩,
          ⟨(some 19), .mov (.t 7), none⟩,
          ⟨(some 20), .idxAddrS 1 (.t 18) (.t 19), none⟩,
          ⟨(some 21), .load none (.t 20), none⟩,
          ⟨(some 22), .conv .i64 (.t 21), none⟩,
          ⟨(some 8), .mov (.t 22), none⟩])
       (.seq (.seq (.ops [⟨(some 23), .mov (.t 7), none⟩,
           ⟨(some 24), .mov (.t 0), none⟩,
           ⟨(some 25), .len false (.t 24), none⟩,
           ⟨(some 26), .bin .sub .no (.t 25) (.c (.int .i64 1)), none⟩,
           ⟨(some 27), .bin .eql .no (.t 23) (.t 26), none⟩,
           ⟨(some 28), .mov (.t 27), none⟩,
           ⟨(some 29), .mov (.t 8), (some (28, true))⟩,
           ⟨(some 30), .bin .geq .no (.t 29) (.c (.int .i64 128)), (some (28, true))⟩,
           ⟨(some 31), .pick (.t 28) (.t 30) (.c (.bool false)), none⟩])
        (.cond (.t 31)
         (.seq (.ops [⟨(some 32), .mov (.t 8), none⟩,
             ⟨(some 33), .bin .sub .no (.t 32) (.c (.int .i64 128)), none⟩,
             ⟨(some 8), .mov (.t 33), none⟩])
          (.ops [⟨(some 6), .mov (.c (.bool true)), none⟩]))
         (.skip)))
       (.seq (.ops [⟨(some 34), .mov (.t 4), none⟩,
          ⟨(some 35), .mov (.t 8), none⟩,
          ⟨(some 36), .mov (.t 5), none⟩,
          ⟨(some 37), .bin .mul .no (.t 35) (.t 36), none⟩,
          ⟨(some 38), .bin .add .no (.t 34) (.t 37), none⟩,
          ⟨(some 4), .mov (.t 38), none⟩])
       (.ops [⟨(some 39), .mov (.t 5), none⟩,
         ⟨(some 40), .bin .mul .no (.t 39) (.c (.int .i64 256)), none⟩,
         ⟨(some 5), .mov (.t 40), none⟩])))))
     (.ops [⟨(some 16), .mov (.t 7), none⟩,
       ⟨(some 17), .bin .add .no (.t 16) (.c (.int .i64 1)), none⟩,
       ⟨(some 7), .mov (.t 17), none⟩]))))))
  (.seq (.seq (.ops [⟨(some 41), .mov (.t 6), none⟩])
   (.cond (.t 41)
    (.ops [⟨(some 42), .mov (.t 4), none⟩,
       ⟨(some 43), .un .neg (.t 42), none⟩,
       ⟨(some 4), .mov (.t 43), none⟩])
    (.skip)))
  (.seq (.seq (.dops 0 [] [(⟨(some 44), .mov (.t 4), none⟩, .L),
      (⟨(some 45), .call k_purserref11_Bytes [(.t 44)], none⟩, .B []),
      (⟨(some 46), .b2s (.t 45), none⟩, .R [] []),
      (⟨(some 47), .mov (.t 0), none⟩, .L),
      (⟨(some 48), .b2s (.t 47), none⟩, .R [] [(1, [])]),
      (⟨(some 49), .bin .neq .no (.t 46) (.t 48), none⟩, .L)])
   (.cond (.t 49)
    (.seq (.ops [⟨(some 2), .mov (.c (.int .i64 0)), none⟩,
        ⟨(some 3), .mov (.c (.int .i64 110)), none⟩])
     (.ret))
    (.skip)))
  (.seq (.ops [⟨(some 50), .mov (.t 4), none⟩,
     ⟨(some 2), .mov (.t 50), none⟩,
     ⟨(some 3), .mov (.c (.int .i64 0)), none⟩])
  (.ret)))))))))⟩
/-- purser/num.True -/
def f_num_True : Fn := ⟨22, [.tmp 2],
  .seq (.ops [⟨(some 2), .mov (.c (.bool false)), none⟩])
  (.seq (.seq (.ops [⟨(some 5), .mov (.t 0), none⟩,
      ⟨(some 6), .len false (.t 5), none⟩,
      ⟨(some 7), .mov (.c (.int .i64 0)), none⟩])
   (.block 0 (.loop (.seq (.ops [⟨(some 8), .bin .lss .no (.t 7) (.t 6), none⟩])
     (.seq (.cond (.t 8)
       (.skip)
       (.exit 0))
     (.seq (.block 1 (.seq (.ops [⟨(some 9), .mov (.t 7), none⟩,
          ⟨(some 10), .idxAddrS 1 (.t 5) (.t 7), none⟩,
          ⟨(some 11), .load none (.t 10), none⟩,
          ⟨(some 3), .mov (.t 9), none⟩,
          ⟨(some 4), .mov (.t 11), none⟩])
       (.seq (.seq (.ops [⟨(some 12), .mov (.t 3), none⟩,
           ⟨(some 13), .mov (.t 0), none⟩,
           ⟨(some 14), .len false (.t 13), none⟩,
           ⟨(some 15), .bin .sub .no (.t 14) (.c (.int .i64 1)), none⟩,
           ⟨(some 16), .bin .eql .no (.t 12) (.t 15), none⟩])
        (.cond (.t 16)
         (.ops [⟨(some 17), .mov (.t 4), none⟩,
            ⟨(some 18), .bin .andNot .no (.t 17) (.c (.int .u8 128)), none⟩,
            ⟨(some 4), .mov (.t 18), none⟩])
         (.skip)))
       (.seq (.ops [⟨(some 19), .mov (.t 4), none⟩,
          ⟨(some 20), .bin .neq .no (.t 19) (.c (.int .u8 0)), none⟩])
       (.cond (.t 20)
        (.seq (.ops [⟨(some 2), .mov (.c (.bool true)), none⟩])
         (.ret))
        (.skip))))))
     (.ops [⟨(some 21), .bin .add .no (.t 7) (.c (.int .i64 1)), none⟩,
       ⟨(some 7), .mov (.t 21), none⟩])))))))
  (.seq (.ops [⟨(some 2), .mov (.c (.bool false)), none⟩])
  (.ret)))⟩
/-- purser/purserref11.True -/
def f_purserref11_True : Fn := ⟨27, [.tmp 2],
  .seq (.ops [⟨(some 2), .mov (.c (.bool false)), none⟩])
  (.seq (.seq (.ops [⟨(some 3), .mov (.c (.int .i64 0)), none⟩])
   (.block 0 (.loop (.seq (.seq (.ops [⟨(some 4), .mov (.t 3), none⟩,
         ⟨(some 5), .mov (.t 0), none⟩,
         ⟨(some 6), .len false (.t 5), none⟩,
         ⟨(some 7), .bin .lss .no (.t 4) (.t 6), none⟩])
      (.cond (.t 7)
       (.skip)
       (.exit 0)))
     (.seq (.block 1 (.seq (.seq (.ops [⟨(some 10), .mov (.t 0), none⟩,
           ⟨(some 11), .mov (.t 3), none⟩,
           ⟨(some 12), .idxAddrS 1 (.t 10) (.t 11), none⟩,
           ⟨(some 13), .load none (.t 12), none⟩,
           ⟨(some 14), .bin .eql .no (.t 13) (.c (.int .u8 128)), none⟩,
           ⟨(some 15), .mov (.t 14), none⟩,
           ⟨(some 16), .mov (.t 3), (some (15, true))⟩,
           ⟨(some 17), .mov (.t 0), (some (15, true))⟩,
           ⟨(some 18), .len false (.t 17), (some (15, true))⟩,
           ⟨(some 19), .bin .sub .no (.t 18) (.c (.int .i64 1)), (some (15, true))⟩,
           ⟨(some 20), .bin .eql .no (.t 16) (.t 19), (some (15, true))⟩,
           ⟨(some 21), .pick (.t 15) (.t 20) (.c (.bool false)), none⟩])
        (.cond (.t 21)
         (.seq (.ops [⟨(some 2), .mov (.c (.bool false)), none⟩])
          (.ret))
         (.skip)))
       (.seq (.ops [⟨(some 22), .mov (.t 0), none⟩,
          ⟨(some 23), .mov (.t 3), none⟩,
          ⟨(some 24), .idxAddrS 1 (.t 22) (.t 23), none⟩,
          ⟨(some 25), .load none (.t 24), none⟩,
          ⟨(some 26), .bin .neq .no (.t 25) (.c (.int .u8 0)), none⟩])
       (.cond (.t 26)
        (.seq (.ops [⟨(some 2), .mov (.c (.bool true)), none⟩])
         (.ret))
        (.skip)))))
     (.ops [⟨(some 8), .mov (.t 3), none⟩,
       ⟨(some 9), .bin .add .no (.t 8) (.c (.int .i64 1)), none⟩,
       ⟨(some 3), .mov (.t 9), none⟩]))))))
  (.seq (.ops [⟨(some 2), .mov (.c (.bool false)), none⟩])
  (.ret)))⟩
/-- purser/num.Flag -/
def f_num_Flag : Fn := ⟨6, [.tmp 2],
  .seq (.ops [⟨(some 2), .mov (.c (.slice none 0 (some 0) 0)), none⟩])
  (.seq (.seq (.ops [⟨(some 3), .mov (.t 0), none⟩])
   (.cond (.t 3)
    (.seq (.ops [⟨(some 4), .buildS [(.int .u8 0)] 1 1 [(0, 1, (.c (.int .u8 1)))], none⟩,
        ⟨(some 2), .mov (.t 4), none⟩])
     (.ret))
    (.skip)))
  (.seq (.ops [⟨(some 5), .buildS [] 0 1 [], none⟩,
     ⟨(some 2), .mov (.t 5), none⟩])
  (.ret)))⟩
/-- purser/purserref11.Flag -/
def f_purserref11_Flag : Fn := ⟨6, [.tmp 2],
  .seq (.ops [⟨(some 2), .mov (.c (.slice none 0 (some 0) 0)), none⟩])
  (.seq (.ops [⟨(some 3), .mov (.t 0), none⟩,
     ⟨(some 4), .call k_purserref11_flag [(.t 3)], none⟩,
     ⟨(some 5), .call k_purserref11_Bytes [(.t 4)], none⟩,
     ⟨(some 2), .mov (.t 5), none⟩])
  (.ret))⟩
/-- purser/num.lowFirst -/
def f_num_lowFirst : Fn := ⟨4, [.tmp 2],
  .seq (.ops [⟨(some 1), .box (.t 0), none⟩,
     ⟨(some 2), .mov (.c .nilFn), none⟩])
  (.seq (.ops [⟨(some 3), .mkfn k_num_lowFirst_1 [] [(.t 1)], none⟩,
     ⟨(some 2), .mov (.t 3), none⟩])
  (.ret))⟩
/-- (purser/num.integer).size -/
def f_num_integer_size : Fn := ⟨7, [.tmp 2],
  .seq (.ops [⟨(some 2), .mov (.c (.int .i64 0)), none⟩])
  (.seq (.ops [⟨(some 3), .mov (.t 0), none⟩,
     ⟨(some 4), .mov (.t 0), none⟩,
     ⟨(some 5), .un .neg (.t 4), none⟩,
     ⟨(some 6), .minmax false [(.t 3), (.t 5)], none⟩,
     ⟨(some 2), .mov (.t 6), none⟩])
  (.ret))⟩
/-- purser/num.signed -/
def f_num_signed : Fn := ⟨30, [.tmp 4],
  .seq (.ops [⟨(some 4), .mov (.c (.slice none 0 (some 0) 0)), none⟩])
  (.seq (.seq (.ops [⟨(some 5), .mov (.t 0), none⟩,
      ⟨(some 6), .len false (.t 5), none⟩,
      ⟨(some 7), .bin .eql .no (.t 6) (.c (.int .i64 0)), none⟩])
   (.cond (.t 7)
    (.seq (.ops [⟨(some 8), .mov (.t 0), none⟩,
        ⟨(some 4), .mov (.t 8), none⟩])
     (.ret))
    (.skip)))
  (.seq (.seq (.ops [⟨(some 9), .mov (.t 0), none⟩,
      ⟨(some 10), .mov (.t 0), none⟩,
      ⟨(some 11), .len false (.t 10), none⟩,
      ⟨(some 12), .bin .sub .no (.t 11) (.c (.int .i64 1)), none⟩,
      ⟨(some 13), .idxAddrS 1 (.t 9) (.t 12), none⟩,
      ⟨(some 14), .load none (.t 13), none⟩,
      ⟨(some 15), .bin .and .no (.t 14) (.c (.int .u8 128)), none⟩,
      ⟨(some 16), .bin .neq .no (.t 15) (.c (.int .u8 0)), none⟩])
   (.cond (.t 16)
    (.ops [⟨(some 17), .mov (.t 0), none⟩,
       ⟨(some 18), .buildS [(.int .u8 0)] 1 1 [(0, 1, (.c (.int .u8 0)))], none⟩,
       ⟨(some 19), .append 1 1 (.t 17) (.t 18), none⟩,
       ⟨(some 0), .mov (.t 19), none⟩])
    (.skip)))
  (.seq (.seq (.ops [⟨(some 20), .mov (.t 1), none⟩])
   (.cond (.t 20)
    (.ops [⟨(some 21), .mov (.t 0), none⟩,
       ⟨(some 22), .mov (.t 0), none⟩,
       ⟨(some 23), .len false (.t 22), none⟩,
       ⟨(some 24), .bin .sub .no (.t 23) (.c (.int .i64 1)), none⟩,
       ⟨(some 25), .idxAddrS 1 (.t 21) (.t 24), none⟩,
       ⟨(some 26), .load none (.t 25), none⟩,
       ⟨(some 27), .bin .or .no (.t 26) (.c (.int .u8 128)), none⟩,
       ⟨(some 28), .idxAddrS 1 (.t 21) (.t 24), none⟩,
       ⟨none, .store 1 (.t 28) (.t 27), none⟩])
    (.skip)))
  (.seq (.ops [⟨(some 29), .mov (.t 0), none⟩,
     ⟨(some 4), .mov (.t 29), none⟩])
  (.ret)))))⟩
/-- purser/purserref11.Bytes -/
def f_purserref11_Bytes : Fn := ⟨47, [.tmp 2],
  .seq (.ops [⟨(some 2), .mov (.c (.slice none 0 (some 0) 0)), none⟩])
  (.seq (.ops [⟨(some 3), .mov (.c (.slice none 0 (some 0) 0)), none⟩])
  (.seq (.ops [⟨(some 6), .mov (.t 0), none⟩,
     ⟨(some 7), .bin .lss .no (.t 6) (.c (.int .i64 0)), none⟩,
     ⟨(some 4), .mov (.t 7), none⟩])
  (.seq (.seq (.ops [⟨(some 8), .mov (.t 4), none⟩])
   (.cond (.t 8)
    (.ops [⟨(some 9), .mov (.t 0), none⟩,
       ⟨(some 10), .un .neg (.t 9), none⟩,
       ⟨(some 0), .mov (.t 10), none⟩])
    (.skip)))
  (.seq (.block 0 (.loop (.seq (.seq (.ops [⟨(some 11), .mov (.t 0), none⟩,
         ⟨(some 12), .bin .gtr .no (.t 11) (.c (.int .i64 0)), none⟩])
      (.cond (.t 12)
       (.skip)
       (.exit 0)))
     (.block 1 (.seq (.ops [⟨(some 13), .mov (.t 3), none⟩,
         ⟨(some 14), .mov (.t 0), none⟩,
         ⟨(some 15), .bin .rem .no (.t 14) (.c (.int .i64 256)), none⟩,
         ⟨(some 16), .conv .u8 (.t 15), none⟩,
         ⟨(some 17), .buildS [(.int .u8 0)] 1 1 [(0, 1, (.t 16))], none⟩,
         ⟨(some 18), .append 1 1 (.t 13) (.t 17), none⟩,
         ⟨(some 3), .mov (.t 18), none⟩])
      (.ops [⟨(some 19), .mov (.t 0), none⟩,
        ⟨(some 20), .bin .quo .no (.t 19) (.c (.int .i64 256)), none⟩,
        ⟨(some 0), .mov (.t 20), none⟩]))))))
  (.seq (.seq (.ops [⟨(some 21), .mov (.t 3), none⟩,
      ⟨(some 22), .len false (.t 21), none⟩,
      ⟨(some 23), .bin .eql .no (.t 22) (.c (.int .i64 0)), none⟩])
   (.cond (.t 23)
    (.seq (.ops [⟨(some 2), .mov (.c (.slice none 0 (some 0) 0)), none⟩])
     (.ret))
    (.skip)))
  (.seq (.ops [⟨(some 24), .mov (.t 3), none⟩,
     ⟨(some 25), .len false (.t 24), none⟩,
     ⟨(some 26), .bin .sub .no (.t 25) (.c (.int .i64 1)), none⟩,
     ⟨(some 5), .mov (.t 26), none⟩])
  (.seq (.seq (.ops [⟨(some 27), .mov (.t 3), none⟩,
      ⟨(some 28), .mov (.t 5), none⟩,
      ⟨(some 29), .idxAddrS 1 (.t 27) (.t 28), none⟩,
      ⟨(some 30), .load none (.t 29), none⟩,
      ⟨(some 31), .bin .geq .no (.t 30) (.c (.int .u8 128)), none⟩])
   (.cond (.t 31)
    (.seq (.ops [⟨(some 32), .mov (.t 3), none⟩,
        ⟨(some 33), .buildS [(.int .u8 0)] 1 1 [(0, 1, (.c (.int .u8 0)))], none⟩,
        ⟨(some 34), .append 1 1 (.t 32) (.t 33), none⟩,
        ⟨(some 3), .mov (.t 34), none⟩])
     (.ops [⟨(some 35), .mov (.t 5), none⟩,
       ⟨(some 36), .bin .add .no (.t 35) (.c (.int .i64 1)), none⟩,
       ⟨(some 5), .mov (.t 36), none⟩]))
    (.skip)))
  (.seq (.seq (.ops [⟨(some 37), .mov (.t 4), none⟩])
   (.cond (.t 37)
    (.ops [⟨(some 38), .mov (.t 3), none⟩,
       ⟨(some 39), .mov (.t 5), none⟩,
       ⟨(some 40), .mov (.t 3), none⟩,
       ⟨(some 41), .mov (.t 5), none⟩,
       ⟨(some 42), .idxAddrS 1 (.t 40) (.t 41), none⟩,
       ⟨(some 43), .load none (.t 42), none⟩,
       ⟨(some 44), .bin .add .no (.t 43) (.c (.int .u8 128)), none⟩,
       ⟨(some 45), .idxAddrS 1 (.t 38) (.t 39), none⟩,
       ⟨none, .store 1 (.t 45) (.t 44), none⟩])
    (.skip)))
  (.seq (.ops [⟨(some 46), .mov (.t 3), none⟩,
     ⟨(some 2), .mov (.t 46), none⟩])
  (.ret))))))))))⟩
/-- purser/num.number -/
def f_num_number : Fn := ⟨36, [.tmp 2],
  .seq (.ops [⟨(some 2), .mov (.c (.int .i64 0)), none⟩])
  (.seq (.ops [⟨(some 3), .mov (.c (.int .i64 0)), none⟩,
     ⟨(some 4), .mov (.c (.bool false)), none⟩])
  (.seq (.seq (.ops [⟨(some 7), .mov (.t 0), none⟩,
      ⟨(some 8), .len false (.t 7), none⟩,
      ⟨(some 9), .mov (.c (.int .i64 0)), none⟩])
   (.block 0 (.loop (.seq (.ops [⟨(some 10), .bin .lss .no (.t 9) (.t 8), none⟩])
     (.seq (.cond (.t 10)
       (.skip)
       (.exit 0))
     (.seq (.block 1 (.seq (.ops [⟨(some 11), .mov (.t 9), none⟩,
          ⟨(some 12), .idxAddrS 1 (.t 7) (.t 9), none⟩,
          ⟨(some 13), .load none (.t 12), none⟩,
          ⟨(some 5), .mov (.t 11), none⟩,
          ⟨(some 6), .mov (.t 13), none⟩])
       (.seq (.seq (.ops [⟨(some 14), .mov (.t 5), none⟩,
           ⟨(some 15), .mov (.t 0), none⟩,
           ⟨(some 16), .len false (.t 15), none⟩,
           ⟨(some 17), .bin .sub .no (.t 16) (.c (.int .i64 1)), none⟩,
           ⟨(some 18), .bin .eql .no (.t 14) (.t 17), none⟩])
        (.cond (.t 18)
         (.seq (.ops [⟨(some 19), .mov (.t 6), none⟩,
             ⟨(some 20), .bin .and .no (.t 19) (.c (.int .u8 128)), none⟩,
             ⟨(some 21), .bin .neq .no (.t 20) (.c (.int .u8 0)), none⟩,
             ⟨(some 4), .mov (.t 21), none⟩])
          (.ops [⟨(some 22), .mov (.t 6), none⟩,
            ⟨(some 23), .bin .andNot .no (.t 22) (.c (.int .u8 128)), none⟩,
            ⟨(some 6), .mov (.t 23), none⟩]))
         (.skip)))
       (.ops [⟨(some 24), .mov (.t 3), none⟩,
         ⟨(some 25), .mov (.t 6), none⟩,
         ⟨(some 26), .conv .i64 (.t 25), none⟩,
         ⟨(some 27), .mov (.t 5), none⟩,
         ⟨(some 28), .bin .mul .no (.c (.int .i64 8)) (.t 27), none⟩,
         ⟨(some 29), .bin .shl .no (.t 26) (.t 28), none⟩,
         ⟨(some 30), .bin .or .no (.t 24) (.t 29), none⟩,
         ⟨(some 3), .mov (.t 30), none⟩]))))
     (.ops [⟨(some 31), .bin .add .no (.t 9) (.c (.int .i64 1)), none⟩,
       ⟨(some 9), .mov (.t 31), none⟩])))))))
  (.seq (.seq (.ops [⟨(some 32), .mov (.t 4), none⟩])
   (.cond (.t 32)
    (.seq (.ops [⟨(some 33), .mov (.t 3), none⟩,
        ⟨(some 34), .un .neg (.t 33), none⟩,
        ⟨(some 2), .mov (.t 34), none⟩])
     (.ret))
    (.skip)))
  (.seq (.ops [⟨(some 35), .mov (.t 3), none⟩,
     ⟨(some 2), .mov (.t 35), none⟩])
  (.ret)))))⟩
/-- bytes.Equal -/
def f_bytes_Equal : Fn := ⟨10, [.tmp 4],
  .seq (.ops [⟨(some 4), .mov (.c (.bool false)), none⟩])
  (.seq (.ops [⟨(some 5), .mov (.t 0), none⟩,
     ⟨(some 6), .b2s (.t 5), none⟩,
     ⟨(some 7), .mov (.t 1), none⟩,
     ⟨(some 8), .b2s (.t 7), none⟩,
     ⟨(some 9), .bin .eql .no (.t 6) (.t 8), none⟩,
     ⟨(some 4), .mov (.t 9), none⟩])
  (.ret))⟩
/-- purser/purserref11.flag -/
def f_purserref11_flag : Fn := ⟨4, [.tmp 2],
  .seq (.ops [⟨(some 2), .mov (.c (.int .i64 0)), none⟩])
  (.seq (.seq (.ops [⟨(some 3), .mov (.t 0), none⟩])
   (.cond (.t 3)
    (.seq (.ops [⟨(some 2), .mov (.c (.int .i64 1)), none⟩])
     (.ret))
    (.skip)))
  (.seq (.ops [⟨(some 2), .mov (.c (.int .i64 0)), none⟩])
  (.ret)))⟩
/-- purser/num.lowFirst$1 -/
def f_num_lowFirst_1 : Fn := ⟨11, [],
  .block 0 (.loop (.seq (.seq (.ops [⟨(some 3), .mov (.t 0), none⟩,
        ⟨(some 4), .load none (.t 1), none⟩,
        ⟨(some 5), .conv .u8 (.t 4), none⟩,
        ⟨(some 6), .load none (.t 1), none⟩,
        ⟨(some 7), .bin .shr .no (.t 6) (.c (.int .u64 8)), none⟩,
        ⟨(some 8), .callv (.t 3) [(.t 5), (.t 7)], none⟩])
     (.cond (.t 8)
      (.skip)
      (.exit 0)))
    (.block 1 (.ops [⟨(some 9), .load none (.t 1), none⟩,
       ⟨(some 10), .bin .shr .no (.t 9) (.c (.int .u64 8)), none⟩,
       ⟨none, .store 1 (.t 1) (.t 10), none⟩]))))⟩


def eAsg : C := (.seq (.ops [⟨(some 5), .mov (.t 16), none⟩])
      (.ops [⟨(some 6), .mov (.t 17), none⟩]))
def eBody : C := (.block 1 (.seq (.seq (.ops [⟨(some 18), .mov (.t 5), none⟩,
           ⟨(some 19), .bin .eql .no (.t 18) (.c (.int .u8 0)), none⟩,
           ⟨(some 20), .mov (.t 19), none⟩,
           ⟨(some 21), .mov (.t 6), (some (20, true))⟩,
           ⟨(some 22), .bin .eql .no (.t 21) (.c (.int .i64 0)), (some (20, true))⟩,
           ⟨(some 23), .pick (.t 20) (.t 22) (.c (.bool false)), none⟩])
        (.cond (.t 23)
         (.exit 0)
         (.skip)))
       (.ops [⟨(some 24), .load none (.t 4), none⟩,
         ⟨(some 25), .mov (.t 5), none⟩,
         ⟨(some 26), .buildS [(.int .u8 0)] 1 1 [(0, 1, (.t 25))], none⟩,
         ⟨(some 27), .append 1 1 (.t 24) (.t 26), none⟩,
         ⟨none, .store 1 (.t 4) (.t 27), none⟩])))
def eLoop : C := (.seq (.seq (.ops [⟨(some 3), .mov (.t 0), none⟩,
        ⟨(some 4), .load none (.t 1), none⟩,
        ⟨(some 5), .conv .u8 (.t 4), none⟩,
        ⟨(some 6), .load none (.t 1), none⟩,
        ⟨(some 7), .bin .shr .no (.t 6) (.c (.int .u64 8)), none⟩,
        ⟨(some 8), .callv (.t 3) [(.t 5), (.t 7)], none⟩])
     (.cond (.t 8)
      (.skip)
      (.exit 0)))
    (.block 1 (.ops [⟨(some 9), .load none (.t 1), none⟩,
       ⟨(some 10), .bin .shr .no (.t 9) (.c (.int .u64 8)), none⟩,
       ⟨none, .store 1 (.t 1) (.t 10), none⟩])))


def bLoop : C := (.seq (.seq (.ops [⟨(some 11), .mov (.t 0), none⟩,
         ⟨(some 12), .bin .gtr .no (.t 11) (.c (.int .i64 0)), none⟩])
      (.cond (.t 12)
       (.skip)
       (.exit 0)))
     (.block 1 (.seq (.ops [⟨(some 13), .mov (.t 3), none⟩,
         ⟨(some 14), .mov (.t 0), none⟩,
         ⟨(some 15), .bin .rem .no (.t 14) (.c (.int .i64 256)), none⟩,
         ⟨(some 16), .conv .u8 (.t 15), none⟩,
         ⟨(some 17), .buildS [(.int .u8 0)] 1 1 [(0, 1, (.t 16))], none⟩,
         ⟨(some 18), .append 1 1 (.t 13) (.t 17), none⟩,
         ⟨(some 3), .mov (.t 18), none⟩])
      (.ops [⟨(some 19), .mov (.t 0), none⟩,
        ⟨(some 20), .bin .quo .no (.t 19) (.c (.int .i64 256)), none⟩,
        ⟨(some 0), .mov (.t 20), none⟩]))))
def bTail : C := (.seq (.seq (.ops [⟨(some 21), .mov (.t 3), none⟩,
      ⟨(some 22), .len false (.t 21), none⟩,
      ⟨(some 23), .bin .eql .no (.t 22) (.c (.int .i64 0)), none⟩])
   (.cond (.t 23)
    (.seq (.ops [⟨(some 2), .mov (.c (.slice none 0 (some 0) 0)), none⟩])
     (.ret))
    (.skip)))
  (.seq (.ops [⟨(some 24), .mov (.t 3), none⟩,
     ⟨(some 25), .len false (.t 24), none⟩,
     ⟨(some 26), .bin .sub .no (.t 25) (.c (.int .i64 1)), none⟩,
     ⟨(some 5), .mov (.t 26), none⟩])
  (.seq (.seq (.ops [⟨(some 27), .mov (.t 3), none⟩,
      ⟨(some 28), .mov (.t 5), none⟩,
      ⟨(some 29), .idxAddrS 1 (.t 27) (.t 28), none⟩,
      ⟨(some 30), .load none (.t 29), none⟩,
      ⟨(some 31), .bin .geq .no (.t 30) (.c (.int .u8 128)), none⟩])
   (.cond (.t 31)
    (.seq (.ops [⟨(some 32), .mov (.t 3), none⟩,
        ⟨(some 33), .buildS [(.int .u8 0)] 1 1 [(0, 1, (.c (.int .u8 0)))], none⟩,
        ⟨(some 34), .append 1 1 (.t 32) (.t 33), none⟩,
        ⟨(some 3), .mov (.t 34), none⟩])
     (.ops [⟨(some 35), .mov (.t 5), none⟩,
       ⟨(some 36), .bin .add .no (.t 35) (.c (.int .i64 1)), none⟩,
       ⟨(some 5), .mov (.t 36), none⟩]))
    (.skip)))
  (.seq (.seq (.ops [⟨(some 37), .mov (.t 4), none⟩])
   (.cond (.t 37)
    (.ops [⟨(some 38), .mov (.t 3), none⟩,
       ⟨(some 39), .mov (.t 5), none⟩,
       ⟨(some 40), .mov (.t 3), none⟩,
       ⟨(some 41), .mov (.t 5), none⟩,
       ⟨(some 42), .idxAddrS 1 (.t 40) (.t 41), none⟩,
       ⟨(some 43), .load none (.t 42), none⟩,
       ⟨(some 44), .bin .add .no (.t 43) (.c (.int .u8 128)), none⟩,
       ⟨(some 45), .idxAddrS 1 (.t 38) (.t 39), none⟩,
       ⟨none, .store 1 (.t 45) (.t 44), none⟩])
    (.skip)))
  (.seq (.ops [⟨(some 46), .mov (.t 3), none⟩,
     ⟨(some 2), .mov (.t 46), none⟩])
  (.ret))))))
def tLoop : C := (.seq (.ops [⟨(some 8), .bin .lss .no (.t 7) (.t 6), none⟩])
     (.seq (.cond (.t 8)
       (.skip)
       (.exit 0))
     (.seq (.block 1 (.seq (.ops [⟨(some 9), .mov (.t 7), none⟩,
          ⟨(some 10), .idxAddrS 1 (.t 5) (.t 7), none⟩,
          ⟨(some 11), .load none (.t 10), none⟩,
          ⟨(some 3), .mov (.t 9), none⟩,
          ⟨(some 4), .mov (.t 11), none⟩])
       (.seq (.seq (.ops [⟨(some 12), .mov (.t 3), none⟩,
           ⟨(some 13), .mov (.t 0), none⟩,
           ⟨(some 14), .len false (.t 13), none⟩,
           ⟨(some 15), .bin .sub .no (.t 14) (.c (.int .i64 1)), none⟩,
           ⟨(some 16), .bin .eql .no (.t 12) (.t 15), none⟩])
        (.cond (.t 16)
         (.ops [⟨(some 17), .mov (.t 4), none⟩,
            ⟨(some 18), .bin .andNot .no (.t 17) (.c (.int .u8 128)), none⟩,
            ⟨(some 4), .mov (.t 18), none⟩])
         (.skip)))
       (.seq (.ops [⟨(some 19), .mov (.t 4), none⟩,
          ⟨(some 20), .bin .neq .no (.t 19) (.c (.int .u8 0)), none⟩])
       (.cond (.t 20)
        (.seq (.ops [⟨(some 2), .mov (.c (.bool true)), none⟩])
         (.ret))
        (.skip))))))
     (.ops [⟨(some 21), .bin .add .no (.t 7) (.c (.int .i64 1)), none⟩,
       ⟨(some 7), .mov (.t 21), none⟩]))))
def rLoop : C := (.seq (.seq (.ops [⟨(some 4), .mov (.t 3), none⟩,
         ⟨(some 5), .mov (.t 0), none⟩,
         ⟨(some 6), .len false (.t 5), none⟩,
         ⟨(some 7), .bin .lss .no (.t 4) (.t 6), none⟩])
      (.cond (.t 7)
       (.skip)
       (.exit 0)))
     (.seq (.block 1 (.seq (.seq (.ops [⟨(some 10), .mov (.t 0), none⟩,
           ⟨(some 11), .mov (.t 3), none⟩,
           ⟨(some 12), .idxAddrS 1 (.t 10) (.t 11), none⟩,
           ⟨(some 13), .load none (.t 12), none⟩,
           ⟨(some 14), .bin .eql .no (.t 13) (.c (.int .u8 128)), none⟩,
           ⟨(some 15), .mov (.t 14), none⟩,
           ⟨(some 16), .mov (.t 3), (some (15, true))⟩,
           ⟨(some 17), .mov (.t 0), (some (15, true))⟩,
           ⟨(some 18), .len false (.t 17), (some (15, true))⟩,
           ⟨(some 19), .bin .sub .no (.t 18) (.c (.int .i64 1)), (some (15, true))⟩,
           ⟨(some 20), .bin .eql .no (.t 16) (.t 19), (some (15, true))⟩,
           ⟨(some 21), .pick (.t 15) (.t 20) (.c (.bool false)), none⟩])
        (.cond (.t 21)
         (.seq (.ops [⟨(some 2), .mov (.c (.bool false)), none⟩])
          (.ret))
         (.skip)))
       (.seq (.ops [⟨(some 22), .mov (.t 0), none⟩,
          ⟨(some 23), .mov (.t 3), none⟩,
          ⟨(some 24), .idxAddrS 1 (.t 22) (.t 23), none⟩,
          ⟨(some 25), .load none (.t 24), none⟩,
          ⟨(some 26), .bin .neq .no (.t 25) (.c (.int .u8 0)), none⟩])
       (.cond (.t 26)
        (.seq (.ops [⟨(some 2), .mov (.c (.bool true)), none⟩])
         (.ret))
        (.skip)))))
     (.ops [⟨(some 8), .mov (.t 3), none⟩,
       ⟨(some 9), .bin .add .no (.t 8) (.c (.int .i64 1)), none⟩,
       ⟨(some 3), .mov (.t 9), none⟩])))
def dLoop : C := (.seq (.seq (.ops [⟨(some 12), .mov (.t 7), none⟩,
         ⟨(some 13), .mov (.t 0), none⟩,
         ⟨(some 14), .len false (.t 13), none⟩,
         ⟨(some 15), .bin .lss .no (.t 12) (.t 14), none⟩])
      (.cond (.t 15)
       (.skip)
       (.exit 0)))
     (.seq (.block 1 (.seq (.ops [⟨(some 18), .mov (.t 0), none⟩,
          ⟨(some 19), .mov (.t 7), none⟩,
          ⟨(some 20), .idxAddrS 1 (.t 18) (.t 19), none⟩,
          ⟨(some 21), .load none (.t 20), none⟩,
          ⟨(some 22), .conv .i64 (.t 21), none⟩,
          ⟨(some 8), .mov (.t 22), none⟩])
       (.seq (.seq (.ops [⟨(some 23), .mov (.t 7), none⟩,
           ⟨(some 24), .mov (.t 0), none⟩,
           ⟨(some 25), .len false (.t 24), none⟩,
           ⟨(some 26), .bin .sub .no (.t 25) (.c (.int .i64 1)), none⟩,
           ⟨(some 27), .bin .eql .no (.t 23) (.t 26), none⟩,
           ⟨(some 28), .mov (.t 27), none⟩,
           ⟨(some 29), .mov (.t 8), (some (28, true))⟩,
           ⟨(some 30), .bin .geq .no (.t 29) (.c (.int .i64 128)), (some (28, true))⟩,
           ⟨(some 31), .pick (.t 28) (.t 30) (.c (.bool false)), none⟩])
        (.cond (.t 31)
         (.seq (.ops [⟨(some 32), .mov (.t 8), none⟩,
             ⟨(some 33), .bin .sub .no (.t 32) (.c (.int .i64 128)), none⟩,
             ⟨(some 8), .mov (.t 33), none⟩])
          (.ops [⟨(some 6), .mov (.c (.bool true)), none⟩]))
         (.skip)))
       (.seq (.ops [⟨(some 34), .mov (.t 4), none⟩,
          ⟨(some 35), .mov (.t 8), none⟩,
          ⟨(some 36), .mov (.t 5), none⟩,
          ⟨(some 37), .bin .mul .no (.t 35) (.t 36), none⟩,
          ⟨(some 38), .bin .add .no (.t 34) (.t 37), none⟩,
          ⟨(some 4), .mov (.t 38), none⟩])
       (.ops [⟨(some 39), .mov (.t 5), none⟩,
         ⟨(some 40), .bin .mul .no (.t 39) (.c (.int .i64 256)), none⟩,
         ⟨(some 5), .mov (.t 40), none⟩])))))
     (.ops [⟨(some 16), .mov (.t 7), none⟩,
       ⟨(some 17), .bin .add .no (.t 16) (.c (.int .i64 1)), none⟩,
       ⟨(some 7), .mov (.t 17), none⟩])))
def dTail : C := (.seq (.seq (.ops [⟨(some 41), .mov (.t 6), none⟩])
   (.cond (.t 41)
    (.ops [⟨(some 42), .mov (.t 4), none⟩,
       ⟨(some 43), .un .neg (.t 42), none⟩,
       ⟨(some 4), .mov (.t 43), none⟩])
    (.skip)))
  (.seq (.seq (.dops 0 [] [(⟨(some 44), .mov (.t 4), none⟩, .L),
      (⟨(some 45), .call k_purserref11_Bytes [(.t 44)], none⟩, .B []),
      (⟨(some 46), .b2s (.t 45), none⟩, .R [] []),
      (⟨(some 47), .mov (.t 0), none⟩, .L),
      (⟨(some 48), .b2s (.t 47), none⟩, .R [] [(1, [])]),
      (⟨(some 49), .bin .neq .no (.t 46) (.t 48), none⟩, .L)])
   (.cond (.t 49)
    (.seq (.ops [⟨(some 2), .mov (.c (.int .i64 0)), none⟩,
        ⟨(some 3), .mov (.c (.int .i64 110)), none⟩])
     (.ret))
    (.skip)))
  (.seq (.ops [⟨(some 50), .mov (.t 4), none⟩,
     ⟨(some 2), .mov (.t 50), none⟩,
     ⟨(some 3), .mov (.c (.int .i64 0)), none⟩])
  (.ret))))
def fR3 : C := (.seq (.ops [⟨(some 35), .mov (.t 7), none⟩,
     ⟨(some 36), .mov (.t 1), none⟩,
     ⟨(some 37), .len false (.t 36), none⟩,
     ⟨(some 38), .slcS 1 (.t 35) none (some (.t 37)) none, none⟩,
     ⟨(some 39), .call k_num_Decode [(.t 38)], none⟩,
     ⟨(some 34), .mov (.t 39), none⟩,
     ⟨(some 40), .ext (.t 34) 0, none⟩,
     ⟨(some 41), .ext (.t 34) 1, none⟩,
     ⟨(some 12), .mov (.t 40), none⟩,
     ⟨(some 13), .mov (.t 41), none⟩])
  (.seq (.ops [⟨(some 43), .mov (.t 1), none⟩,
     ⟨(some 44), .call k_purserref11_Decode [(.t 43)], none⟩,
     ⟨(some 42), .mov (.t 44), none⟩,
     ⟨(some 45), .ext (.t 42) 0, none⟩,
     ⟨(some 46), .ext (.t 42) 1, none⟩,
     ⟨(some 14), .mov (.t 45), none⟩,
     ⟨(some 15), .mov (.t 46), none⟩])
  (.seq (.dops 0 [] [(⟨(some 47), .mov (.t 8), none⟩, .L),
     (⟨(some 48), .b2s (.t 47), none⟩, .R [] []),
     (⟨(some 49), .mov (.t 10), none⟩, .L),
     (⟨(some 50), .b2s (.t 49), none⟩, .R [] []),
     (⟨(some 51), .bin .eql .no (.t 48) (.t 50), none⟩, .L),
     (⟨(some 52), .mov (.t 51), none⟩, .L),
     (⟨(some 53), .mov (.t 9), (some (52, true))⟩, .L),
     (⟨(some 54), .mov (.t 11), (some (52, true))⟩, .L),
     (⟨(some 55), .bin .eql .no (.t 53) (.t 54), (some (52, true))⟩, .L),
     (⟨(some 56), .pick (.t 52) (.t 55) (.c (.bool false)), none⟩, .L),
     (⟨(some 57), .mov (.t 56), none⟩, .L),
     (⟨(some 58), .mov (.t 12), (some (57, true))⟩, .L),
     (⟨(some 59), .mov (.t 14), (some (57, true))⟩, .L),
     (⟨(some 60), .bin .eql .no (.t 58) (.t 59), (some (57, true))⟩, .L),
     (⟨(some 61), .pick (.t 57) (.t 60) (.c (.bool false)), none⟩, .L),
     (⟨(some 62), .mov (.t 61), none⟩, .L),
     (⟨(some 63), .mov (.t 13), (some (62, true))⟩, .L),
     (⟨(some 64), .mov (.t 15), (some (62, true))⟩, .L),
     (⟨(some 65), .bin .eql .no (.t 63) (.t 64), (some (62, true))⟩, .L),
     (⟨(some 66), .pick (.t 62) (.t 65) (.c (.bool false)), none⟩, .L),
     (⟨(some 67), .mov (.t 66), none⟩, .L),
     (⟨(some 68), .mov (.t 7), (some (67, true))⟩, .L),
     (⟨(some 69), .mov (.t 1), (some (67, true))⟩, .L),
     (⟨(some 70), .len false (.t 69), (some (67, true))⟩, .L),
     (⟨(some 71), .slcS 1 (.t 68) none (some (.t 70)) none, (some (67, true))⟩, .L),
     (⟨(some 72), .call k_num_True [(.t 71)], (some (67, true))⟩, .B []),
     (⟨(some 73), .mov (.t 1), (some (67, true))⟩, .L),
     (⟨(some 74), .call k_purserref11_True [(.t 73)], (some (67, true))⟩, .B []),
     (⟨(some 75), .bin .eql .bool (.t 72) (.t 74), (some (67, true))⟩, .L),
     (⟨(some 76), .pick (.t 67) (.t 75) (.c (.bool false)), none⟩, .L),
     (⟨(some 77), .mov (.t 76), none⟩, .L),
     (⟨(some 78), .mov (.t 2), (some (77, true))⟩, .L),
     (⟨(some 79), .call k_num_Flag [(.t 78)], (some (77, true))⟩, .B []),
     (⟨(some 80), .b2s (.t 79), (some (77, true))⟩, .R [] [(0, [])]),
     (⟨(some 81), .mov (.t 2), (some (77, true))⟩, .L),
     (⟨(some 82), .call k_purserref11_Flag [(.t 81)], (some (77, true))⟩, .B []),
     (⟨(some 83), .b2s (.t 82), (some (77, true))⟩, .R [] []),
     (⟨(some 84), .bin .eql .no (.t 80) (.t 83), (some (77, true))⟩, .L),
     (⟨(some 85), .pick (.t 77) (.t 84) (.c (.bool false)), none⟩, .L),
     (⟨(some 86), .mov (.t 85), none⟩, .L),
     (⟨(some 87), .mov (.t 7), (some (86, true))⟩, .L),
     (⟨(some 88), .b2s (.t 87), (some (86, true))⟩, .R [] []),
     (⟨(some 89), .mov (.t 1), (some (86, true))⟩, .L),
     (⟨(some 90), .b2s (.t 89), (some (86, true))⟩, .R [] []),
     (⟨(some 91), .bin .add .no (.t 90) (.c (.str [7])), (some (86, true))⟩, .L),
     (⟨(some 92), .bin .eql .no (.t 88) (.t 91), (some (86, true))⟩, .L),
     (⟨(some 93), .pick (.t 86) (.t 92) (.c (.bool false)), none⟩, .L),
     (⟨(some 6), .mov (.t 93), none⟩, .L)])
  (.ret))))
def fR2 : C := (.seq (.ops [⟨(some 25), .mov (.t 0), none⟩,
     ⟨(some 26), .call k_num_Encode [(.t 25)], none⟩,
     ⟨(some 24), .mov (.t 26), none⟩,
     ⟨(some 27), .ext (.t 24) 0, none⟩,
     ⟨(some 28), .ext (.t 24) 1, none⟩,
     ⟨(some 8), .mov (.t 27), none⟩,
     ⟨(some 9), .mov (.t 28), none⟩])
  (.seq (.ops [⟨(some 30), .mov (.t 0), none⟩,
     ⟨(some 31), .call k_purserref11_Encode [(.t 30)], none⟩,
     ⟨(some 29), .mov (.t 31), none⟩,
     ⟨(some 32), .ext (.t 29) 0, none⟩,
     ⟨(some 33), .ext (.t 29) 1, none⟩,
     ⟨(some 10), .mov (.t 32), none⟩,
     ⟨(some 11), .mov (.t 33), none⟩])
  fR3))

end Go.Eng
