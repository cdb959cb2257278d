/- Functions of the program, as the evaluator takes them: printed by program. -/
import Derived.Test.YtgjoaeefnknpfaaEngI
namespace Go.Eng
open Go
/-- purser/purserlaw01.OctetParts -/
abbrev k_purserlaw01_OctetParts : Nat := 7
/-- (*purser/octet.Pen).All -/
abbrev k_octet_Pen_All : Nat := 16
/-- purser/purserlaw01.alive -/
abbrev k_purserlaw01_alive : Nat := 31
/-- (*purser/octet.Pen).Raw -/
abbrev k_octet_Pen_Raw : Nat := 36
/-- (*purser/octet.Pen).Size -/
abbrev k_octet_Pen_Size : Nat := 34
/-- (*purser/octet.Pen).Bytes -/
abbrev k_octet_Pen_Bytes : Nat := 35
/-- (*purser/octet.Pen).Fixed -/
abbrev k_octet_Pen_Fixed : Nat := 49
/-- purser/octet.Compact -/
abbrev k_octet_Compact : Nat := 17
/-- (*purser/octet.Pen).put -/
abbrev k_octet_Pen_put : Nat := 59
/-- purser/octet.mark -/
abbrev k_octet_mark : Nat := 60
/-- purser/octet.width -/
abbrev k_octet_width : Nat := 52
/-- purser/octet.sized -/
abbrev k_octet_sized : Nat := 54
/-- purser/octet.highFirst -/
abbrev k_octet_highFirst : Nat := 69
/-- purser/octet.highFirst$1 -/
abbrev k_octet_highFirst_1 : Nat := 74
def L_purserlaw01_OctetParts_0 : C := .seq (.ops [⟨(some 35), .bin .lss .no (.t 34) (.t 33), none⟩])
     (.seq (.cond (.t 35)
       (.skip)
       (.exit 0))
     (.seq (.block 1 (.seq (.ops [⟨(some 36), .mov (.t 34), none⟩,
          ⟨(some 11), .mov (.t 36), none⟩])
       (.seq (.ops [⟨(some 37), .mov (.t 1), none⟩,
          ⟨(some 38), .mov (.t 11), none⟩,
          ⟨(some 39), .idxAddrS 1 (.t 37) (.t 38), none⟩,
          ⟨(some 40), .load none (.t 39), none⟩,
          ⟨(some 41), .conv .i64 (.t 40), none⟩,
          ⟨(some 42), .mov (.t 9), none⟩,
          ⟨(some 43), .len false (.t 42), none⟩,
          ⟨(some 44), .minmax true [(.t 41), (.t 43)], none⟩,
          ⟨(some 12), .mov (.t 44), none⟩])
       (.seq (.ops [⟨(some 45), .mov (.t 10), none⟩,
          ⟨(some 46), .mov (.t 9), none⟩,
          ⟨(some 47), .mov (.t 12), none⟩,
          ⟨(some 48), .slcS 1 (.t 46) none (some (.t 47)) none, none⟩,
          ⟨(some 49), .buildS [(.slice none 0 (some 0) 0)] 1 1 [(0, 1, (.t 48))], none⟩,
          ⟨(some 50), .append 1 24 (.t 45) (.t 49), none⟩,
          ⟨(some 10), .mov (.t 50), none⟩])
       (.ops [⟨(some 51), .mov (.t 9), none⟩,
         ⟨(some 52), .mov (.t 12), none⟩,
         ⟨(some 53), .slcS 1 (.t 51) (some (.t 52)) none none, none⟩,
         ⟨(some 9), .mov (.t 53), none⟩])))))
     (.ops [⟨(some 54), .bin .add .no (.t 34) (.c (.int .i64 1)), none⟩,
       ⟨(some 34), .mov (.t 54), none⟩])))
def R_purserlaw01_OctetParts_0 : C := .seq (.ops [⟨(some 55), .mov (.t 10), none⟩,
     ⟨(some 56), .mov (.t 9), none⟩,
     ⟨(some 57), .buildS [(.slice none 0 (some 0) 0)] 1 1 [(0, 1, (.t 56))], none⟩,
     ⟨(some 58), .append 1 24 (.t 55) (.t 57), none⟩,
     ⟨(some 59), .call k_octet_Pen_Raw [(.t 7), (.t 58)], none⟩,
     ⟨(some 13), .mov (.t 59), none⟩])
  (.seq (.dops 0 [] [(⟨(some 60), .mov (.t 5), none⟩, .L),
     (⟨(some 61), .mov (.t 60), none⟩, .L),
     (⟨(some 62), .mov (.t 8), (some (61, true))⟩, .L),
     (⟨(some 63), .bin .eql .no (.t 62) (.c (.int .i64 0)), (some (61, true))⟩, .L),
     (⟨(some 64), .pick (.t 61) (.t 63) (.c (.bool false)), none⟩, .L),
     (⟨(some 65), .mov (.t 64), none⟩, .L),
     (⟨(some 66), .mov (.t 13), (some (65, true))⟩, .L),
     (⟨(some 67), .bin .eql .no (.t 66) (.c (.int .i64 0)), (some (65, true))⟩, .L),
     (⟨(some 68), .pick (.t 65) (.t 67) (.c (.bool false)), none⟩, .L),
     (⟨(some 69), .mov (.t 68), none⟩, .L),
     (⟨(some 70), .call k_octet_Pen_All [(.t 6)], (some (69, true))⟩, .B []),
     (⟨(some 71), .b2s (.t 70), (some (69, true))⟩, .R [] []),
     (⟨(some 72), .mov (.t 0), (some (69, true))⟩, .L),
     (⟨(some 73), .b2s (.t 72), (some (69, true))⟩, .R [] [(2, [])]),
     (⟨(some 74), .bin .eql .no (.t 71) (.t 73), (some (69, true))⟩, .L),
     (⟨(some 75), .pick (.t 69) (.t 74) (.c (.bool false)), none⟩, .L),
     (⟨(some 76), .mov (.t 75), none⟩, .L),
     (⟨(some 77), .call k_octet_Pen_All [(.t 7)], (some (76, true))⟩, .B []),
     (⟨(some 78), .b2s (.t 77), (some (76, true))⟩, .R [] []),
     (⟨(some 79), .mov (.t 0), (some (76, true))⟩, .L),
     (⟨(some 80), .b2s (.t 79), (some (76, true))⟩, .R [] [(1, [])]),
     (⟨(some 81), .bin .eql .no (.t 78) (.t 80), (some (76, true))⟩, .L),
     (⟨(some 82), .pick (.t 76) (.t 81) (.c (.bool false)), none⟩, .L),
     (⟨(some 4), .mov (.t 82), none⟩, .L)])
  (.ret))
/-- purser/purserlaw01.OctetParts -/
def f_purserlaw01_OctetParts : Fn := ⟨83, [.tmp 4],
  .seq (.ops [⟨(some 4), .mov (.c (.bool false)), none⟩])
  (.seq (.ops [⟨(some 14), .call k_purserlaw01_alive [], none⟩,
     ⟨(some 5), .mov (.t 14), none⟩])
  (.seq (.seq (.ops [⟨(some 15), .mov (.t 0), none⟩,
      ⟨(some 16), .len false (.t 15), none⟩,
      ⟨(some 17), .bin .gtr .no (.t 16) (.c (.int .i64 20000)), none⟩,
      ⟨(some 18), .mov (.t 17), none⟩,
      ⟨(some 19), .mov (.t 1), (some (18, false))⟩,
      ⟨(some 20), .len false (.t 19), (some (18, false))⟩,
      ⟨(some 21), .bin .gtr .no (.t 20) (.c (.int .i64 50)), (some (18, false))⟩,
      ⟨(some 22), .pick (.t 18) (.c (.bool true)) (.t 21), none⟩,
      ⟨(some 23), .mov (.t 22), none⟩,
      ⟨(some 24), .mov (.t 5), (some (23, false))⟩,
      ⟨(some 25), .un .not (.t 24), (some (23, false))⟩,
      ⟨(some 26), .pick (.t 23) (.c (.bool true)) (.t 25), none⟩])
   (.cond (.t 26)
    (.seq (.ops [⟨(some 27), .mov (.t 5), none⟩,
        ⟨(some 4), .mov (.t 27), none⟩])
     (.ret))
    (.skip)))
  (.seq (.ops [⟨(some 6), .alloc [(.slice none 0 (some 0) 0)], none⟩,
     ⟨(some 7), .alloc [(.slice none 0 (some 0) 0)], none⟩])
  (.seq (.ops [⟨(some 28), .mov (.t 0), none⟩,
     ⟨(some 29), .buildS [(.slice none 0 (some 0) 0)] 1 1 [(0, 1, (.t 28))], none⟩,
     ⟨(some 30), .call k_octet_Pen_Raw [(.t 6), (.t 29)], none⟩,
     ⟨(some 8), .mov (.t 30), none⟩])
  (.seq (.ops [⟨(some 31), .mov (.t 0), none⟩,
     ⟨(some 9), .mov (.t 31), none⟩])
  (.seq (.ops [⟨(some 10), .mov (.c (.slice none 0 (some 0) 0)), none⟩])
  (.seq (.seq (.ops [⟨(some 32), .mov (.t 1), none⟩,
      ⟨(some 33), .len false (.t 32), none⟩,
      ⟨(some 34), .mov (.c (.int .i64 0)), none⟩])
   (.block 0 (.loop (L_purserlaw01_OctetParts_0))))
  (R_purserlaw01_OctetParts_0))))))))⟩
/-- (*purser/octet.Pen).All -/
def f_octet_Pen_All : Fn := ⟨10, [.tmp 2],
  .seq (.ops [⟨(some 2), .mov (.c (.slice none 0 (some 0) 0)), none⟩])
  (.seq (.seq (.ops [⟨(some 3), .mov (.t 0), none⟩,
      ⟨(some 4), .bin .eql (.ref .p) (.t 3) (.c (.ptr none)), none⟩])
   (.cond (.t 4)
    (.seq (.ops [⟨(some 2), .mov (.c (.slice none 0 (some 0) 0)), none⟩])
     (.ret))
    (.skip)))
  (.seq (.ops [⟨(some 5), .mov (.t 0), none⟩,
     ⟨(some 6), .nilchk (.t 5), none⟩,
     ⟨(some 7), .fieldAddr 0 (.t 6), none⟩,
     ⟨(some 8), .load none (.t 7), none⟩,
     ⟨(some 9), .append 1 1 (.c (.slice none 0 (some 0) 0)) (.t 8), none⟩,
     ⟨(some 2), .mov (.t 9), none⟩])
  (.ret)))⟩
/-- purser/purserlaw01.alive -/
def f_purserlaw01_alive : Fn := ⟨31, [.tmp 0],
  .seq (.ops [⟨(some 0), .mov (.c (.bool false)), none⟩])
  (.seq (.ops [⟨(some 1), .alloc [(.slice none 0 (some 0) 0)], none⟩])
  (.seq (.ops [⟨(some 6), .call k_octet_Pen_Fixed [(.t 1), (.c (.int .i64 4)), (.c (.int .u64 258))], none⟩,
     ⟨(some 7), .call k_octet_Pen_Size [(.t 1), (.c (.int .u64 252))], none⟩,
     ⟨(some 8), .call k_octet_Pen_Size [(.t 1), (.c (.int .u64 253))], none⟩,
     ⟨(some 2), .mov (.t 6), none⟩,
     ⟨(some 3), .mov (.t 7), none⟩,
     ⟨(some 4), .mov (.t 8), none⟩])
  (.seq (.ops [⟨(some 9), .buildS [(.int .u8 0), (.int .u8 0)] 2 1 [(0, 1, (.c (.int .u8 97))), (1, 1, (.c (.int .u8 98)))], none⟩,
     ⟨(some 10), .mark (.t 9), none⟩,
     ⟨(some 11), .call k_octet_Pen_Bytes [(.t 1), (.t 10)], none⟩,
     ⟨(some 5), .mov (.t 11), none⟩])
  (.seq (.ops [⟨(some 12), .mov (.t 2), none⟩,
     ⟨(some 13), .bin .eql .no (.t 12) (.c (.int .i64 0)), none⟩,
     ⟨(some 14), .mov (.t 13), none⟩,
     ⟨(some 15), .mov (.t 3), (some (14, true))⟩,
     ⟨(some 16), .bin .eql .no (.t 15) (.c (.int .i64 0)), (some (14, true))⟩,
     ⟨(some 17), .pick (.t 14) (.t 16) (.c (.bool false)), none⟩,
     ⟨(some 18), .mov (.t 17), none⟩,
     ⟨(some 19), .mov (.t 4), (some (18, true))⟩,
     ⟨(some 20), .bin .eql .no (.t 19) (.c (.int .i64 0)), (some (18, true))⟩,
     ⟨(some 21), .pick (.t 18) (.t 20) (.c (.bool false)), none⟩,
     ⟨(some 22), .mov (.t 21), none⟩,
     ⟨(some 23), .mov (.t 5), (some (22, true))⟩,
     ⟨(some 24), .bin .eql .no (.t 23) (.c (.int .i64 0)), (some (22, true))⟩,
     ⟨(some 25), .pick (.t 22) (.t 24) (.c (.bool false)), none⟩,
     ⟨(some 26), .mov (.t 25), none⟩,
     ⟨(some 27), .call k_octet_Pen_All [(.t 1)], (some (26, true))⟩,
     ⟨(some 28), .b2s (.t 27), (some (26, true))⟩,
     ⟨(some 29), .bin .eql .no (.t 28) (.c (.str [2, 1, 0, 0, 252, 253, 253, 0, 2, 97, 98])), (some (26, true))⟩,
     ⟨(some 30), .pick (.t 26) (.t 29) (.c (.bool false)), none⟩,
     ⟨(some 0), .mov (.t 30), none⟩])
  (.ret)))))⟩
def L_octet_Pen_Raw_0 : C := .seq (.ops [⟨(some 12), .bin .lss .no (.t 11) (.t 10), none⟩])
     (.seq (.cond (.t 12)
       (.skip)
       (.exit 0))
     (.seq (.block 1 (.seq (.ops [⟨(some 13), .idxAddrS 1 (.t 9) (.t 11), none⟩,
          ⟨(some 14), .load none (.t 13), none⟩,
          ⟨(some 6), .mov (.t 14), none⟩])
       (.ops [⟨(some 15), .mov (.t 0), none⟩,
         ⟨(some 16), .mov (.t 0), none⟩,
         ⟨(some 17), .nilchk (.t 16), none⟩,
         ⟨(some 18), .fieldAddr 0 (.t 17), none⟩,
         ⟨(some 19), .load none (.t 18), none⟩,
         ⟨(some 20), .mov (.t 6), none⟩,
         ⟨(some 21), .append 1 1 (.t 19) (.t 20), none⟩,
         ⟨(some 22), .nilchk (.t 15), none⟩,
         ⟨(some 23), .fieldAddr 0 (.t 22), none⟩,
         ⟨none, .store 1 (.t 23) (.t 21), none⟩])))
     (.ops [⟨(some 24), .bin .add .no (.t 11) (.c (.int .i64 1)), none⟩,
       ⟨(some 11), .mov (.t 24), none⟩])))
def R_octet_Pen_Raw_0 : C := .seq (.ops [⟨(some 4), .mov (.c (.int .i64 0)), none⟩])
  (.ret)
/-- (*purser/octet.Pen).Raw -/
def f_octet_Pen_Raw : Fn := ⟨25, [.tmp 4],
  .seq (.ops [⟨(some 4), .mov (.c (.int .i64 0)), none⟩])
  (.seq (.seq (.ops [⟨(some 7), .mov (.t 0), none⟩,
      ⟨(some 8), .bin .eql (.ref .p) (.t 7) (.c (.ptr none)), none⟩])
   (.cond (.t 8)
    (.seq (.ops [⟨(some 4), .mov (.c (.int .i64 1)), none⟩])
     (.ret))
    (.skip)))
  (.seq (.seq (.ops [⟨(some 9), .mov (.t 1), none⟩,
      ⟨(some 10), .len false (.t 9), none⟩,
      ⟨(some 11), .mov (.c (.int .i64 0)), none⟩])
   (.block 0 (.loop (L_octet_Pen_Raw_0))))
  (R_octet_Pen_Raw_0)))⟩
/-- (*purser/octet.Pen).Size -/
def f_octet_Pen_Size : Fn := ⟨25, [.tmp 4],
  .seq (.ops [⟨(some 4), .mov (.c (.int .i64 0)), none⟩])
  (.seq (.seq (.ops [⟨(some 6), .mov (.t 0), none⟩,
      ⟨(some 7), .bin .eql (.ref .p) (.t 6) (.c (.ptr none)), none⟩])
   (.cond (.t 7)
    (.seq (.ops [⟨(some 4), .mov (.c (.int .i64 1)), none⟩])
     (.ret))
    (.skip)))
  (.seq (.ops [⟨(some 8), .mov (.t 1), none⟩,
     ⟨(some 9), .call k_octet_Compact [(.t 8)], none⟩,
     ⟨(some 10), .bin .sub .no (.t 9) (.c (.int .i64 1)), none⟩,
     ⟨(some 5), .mov (.t 10), none⟩])
  (.seq (.seq (.ops [⟨(some 11), .mov (.t 5), none⟩,
      ⟨(some 12), .bin .eql .no (.t 11) (.c (.int .i64 0)), none⟩])
   (.cond (.t 12)
    (.seq (.ops [⟨(some 13), .mov (.t 0), none⟩,
        ⟨(some 14), .mov (.t 1), none⟩,
        ⟨(some 15), .call k_octet_Pen_put [(.t 13), (.c (.int .i64 1)), (.t 14)], none⟩])
     (.seq (.ops [⟨(some 4), .mov (.c (.int .i64 0)), none⟩])
     (.ret)))
    (.skip)))
  (.seq (.ops [⟨(some 16), .mov (.t 0), none⟩,
     ⟨(some 17), .mov (.t 5), none⟩,
     ⟨(some 18), .call k_octet_mark [(.t 17)], none⟩,
     ⟨(some 19), .conv .u64 (.t 18), none⟩,
     ⟨(some 20), .call k_octet_Pen_put [(.t 16), (.c (.int .i64 1)), (.t 19)], none⟩])
  (.seq (.ops [⟨(some 21), .mov (.t 0), none⟩,
     ⟨(some 22), .mov (.t 5), none⟩,
     ⟨(some 23), .mov (.t 1), none⟩,
     ⟨(some 24), .call k_octet_Pen_put [(.t 21), (.t 22), (.t 23)], none⟩])
  (.seq (.ops [⟨(some 4), .mov (.c (.int .i64 0)), none⟩])
  (.ret)))))))⟩
/-- (*purser/octet.Pen).Bytes -/
def f_octet_Pen_Bytes : Fn := ⟨18, [.tmp 4],
  .seq (.ops [⟨(some 4), .mov (.c (.int .i64 0)), none⟩])
  (.seq (.seq (.ops [⟨(some 6), .mov (.t 0), none⟩,
      ⟨(some 7), .mov (.t 1), none⟩,
      ⟨(some 8), .len false (.t 7), none⟩,
      ⟨(some 9), .conv .u64 (.t 8), none⟩,
      ⟨(some 10), .call k_octet_Pen_Size [(.t 6), (.t 9)], none⟩,
      ⟨(some 5), .mov (.t 10), none⟩])
   (.seq (.ops [⟨(some 11), .mov (.t 5), none⟩,
      ⟨(some 12), .bin .neq .no (.t 11) (.c (.int .i64 0)), none⟩])
   (.cond (.t 12)
    (.seq (.ops [⟨(some 13), .mov (.t 5), none⟩,
        ⟨(some 4), .mov (.t 13), none⟩])
     (.ret))
    (.skip))))
  (.seq (.ops [⟨(some 14), .mov (.t 0), none⟩,
     ⟨(some 15), .mov (.t 1), none⟩,
     ⟨(some 16), .buildS [(.slice none 0 (some 0) 0)] 1 1 [(0, 1, (.t 15))], none⟩,
     ⟨(some 17), .call k_octet_Pen_Raw [(.t 14), (.t 16)], none⟩,
     ⟨(some 4), .mov (.t 17), none⟩])
  (.ret)))⟩
/-- (*purser/octet.Pen).Fixed -/
def f_octet_Pen_Fixed : Fn := ⟨20, [.tmp 6],
  .seq (.ops [⟨(some 6), .mov (.c (.int .i64 0)), none⟩])
  (.seq (.seq (.ops [⟨(some 7), .mov (.t 0), none⟩,
      ⟨(some 8), .bin .eql (.ref .p) (.t 7) (.c (.ptr none)), none⟩])
   (.cond (.t 8)
    (.seq (.ops [⟨(some 6), .mov (.c (.int .i64 1)), none⟩])
     (.ret))
    (.skip)))
  (.seq (.seq (.ops [⟨(some 9), .mov (.t 1), none⟩,
      ⟨(some 10), .call k_octet_sized [(.t 9)], none⟩,
      ⟨(some 11), .un .not (.t 10), none⟩])
   (.cond (.t 11)
    (.seq (.ops [⟨(some 6), .mov (.c (.int .i64 2)), none⟩])
     (.ret))
    (.skip)))
  (.seq (.seq (.ops [⟨(some 12), .mov (.t 2), none⟩,
      ⟨(some 13), .call k_octet_width [(.t 12)], none⟩,
      ⟨(some 14), .mov (.t 1), none⟩,
      ⟨(some 15), .bin .gtr .no (.t 13) (.t 14), none⟩])
   (.cond (.t 15)
    (.seq (.ops [⟨(some 6), .mov (.c (.int .i64 10)), none⟩])
     (.ret))
    (.skip)))
  (.seq (.ops [⟨(some 16), .mov (.t 0), none⟩,
     ⟨(some 17), .mov (.t 1), none⟩,
     ⟨(some 18), .mov (.t 2), none⟩,
     ⟨(some 19), .call k_octet_Pen_put [(.t 16), (.t 17), (.t 18)], none⟩])
  (.seq (.ops [⟨(some 6), .mov (.c (.int .i64 0)), none⟩])
  (.ret))))))⟩
/-- purser/octet.Compact -/
def f_octet_Compact : Fn := ⟨14, [.tmp 2],
  .seq (.ops [⟨(some 2), .mov (.c (.int .i64 0)), none⟩])
  (.seq (.seq (.ops [⟨(some 4), .mov (.t 0), none⟩,
      ⟨(some 5), .bin .lss .no (.t 4) (.c (.int .u64 253)), none⟩])
   (.cond (.t 5)
    (.seq (.ops [⟨(some 2), .mov (.c (.int .i64 1)), none⟩])
     (.ret))
    (.skip)))
  (.seq (.seq (.ops [⟨(some 6), .mov (.t 0), none⟩,
      ⟨(some 7), .call k_octet_width [(.t 6)], none⟩,
      ⟨(some 3), .mov (.t 7), none⟩])
   (.block 0 (.seq (.ops [⟨(some 9), .mov (.t 3), none⟩,
       ⟨(some 10), .bin .leq .no (.t 9) (.c (.int .i64 2)), none⟩,
       ⟨(some 8), .mov (.t 10), none⟩])
    (.cond (.t 8)
     (.seq (.ops [⟨(some 2), .mov (.c (.int .i64 3)), none⟩])
      (.ret))
     (.seq (.ops [⟨(some 12), .mov (.t 3), none⟩,
         ⟨(some 13), .bin .leq .no (.t 12) (.c (.int .i64 4)), none⟩,
         ⟨(some 11), .mov (.t 13), none⟩])
      (.cond (.t 11)
       (.seq (.ops [⟨(some 2), .mov (.c (.int .i64 5)), none⟩])
        (.ret))
       (.skip)))))))
  (.seq (.ops [⟨(some 2), .mov (.c (.int .i64 9)), none⟩])
  (.ret))))⟩
def A_octet_Pen_put_0 : C := .seq (.ops [⟨(some 7), .mov (.t 26), none⟩])
    (.ops [⟨(some 8), .mov (.t 27), none⟩])
theorem u_A_octet_Pen_put_0 (Q : Orc) (N n : Nat) (r : Option Nat) (st : St) : evC Q N n r A_octet_Pen_put_0 st = evC Q N n r (.seq (.ops [⟨(some 7), .mov (.t 26), none⟩])
    (.ops [⟨(some 8), .mov (.t 27), none⟩])) st := _root_.id rfl
def B_octet_Pen_put_0 : C := .block 1 (.dops 0 [] [(⟨(some 28), .load none (.t 3), none⟩, .R [] []),
       (⟨(some 29), .nilchk (.t 28), none⟩, .L),
       (⟨(some 30), .fieldAddr 0 (.t 29), none⟩, .L),
       (⟨(some 31), .load none (.t 30), none⟩, .R [] []),
       (⟨(some 32), .load none (.t 6), none⟩, .R [] []),
       (⟨(some 33), .mov (.t 7), none⟩, .L),
       (⟨(some 34), .bin .add .no (.t 32) (.t 33), none⟩, .L),
       (⟨(some 35), .mov (.t 8), none⟩, .L),
       (⟨(some 36), .idxAddrS 1 (.t 31) (.t 34), none⟩, .L),
       (⟨none, .store 1 (.t 36) (.t 35), none⟩, .B [])])
theorem u_B_octet_Pen_put_0 (Q : Orc) (N n : Nat) (r : Option Nat) (st : St) : evC Q N n r B_octet_Pen_put_0 st = evC Q N n r (.block 1 (.dops 0 [] [(⟨(some 28), .load none (.t 3), none⟩, .R [] []),
       (⟨(some 29), .nilchk (.t 28), none⟩, .L),
       (⟨(some 30), .fieldAddr 0 (.t 29), none⟩, .L),
       (⟨(some 31), .load none (.t 30), none⟩, .R [] []),
       (⟨(some 32), .load none (.t 6), none⟩, .R [] []),
       (⟨(some 33), .mov (.t 7), none⟩, .L),
       (⟨(some 34), .bin .add .no (.t 32) (.t 33), none⟩, .L),
       (⟨(some 35), .mov (.t 8), none⟩, .L),
       (⟨(some 36), .idxAddrS 1 (.t 31) (.t 34), none⟩, .L),
       (⟨none, .store 1 (.t 36) (.t 35), none⟩, .B [])])) st := _root_.id rfl
/-- (*purser/octet.Pen).put -/
def f_octet_Pen_put : Fn := ⟨37, [],
  .seq (.ops [⟨(some 3), .box (.t 0), none⟩])
  (.seq (.ops [⟨(some 9), .load none (.t 3), none⟩,
     ⟨(some 10), .nilchk (.t 9), none⟩,
     ⟨(some 11), .fieldAddr 0 (.t 10), none⟩,
     ⟨(some 12), .load none (.t 11), none⟩,
     ⟨(some 13), .len false (.t 12), none⟩,
     ⟨(some 6), .alloc [(.int .i64 0)], none⟩,
     ⟨none, .store 1 (.t 6) (.t 13), none⟩])
  (.seq (.dops 0 [] [(⟨(some 14), .load none (.t 3), none⟩, .R [] [(1, [])]),
     (⟨(some 15), .load none (.t 3), none⟩, .R [] []),
     (⟨(some 16), .nilchk (.t 15), none⟩, .L),
     (⟨(some 17), .fieldAddr 0 (.t 16), none⟩, .L),
     (⟨(some 18), .load none (.t 17), none⟩, .R [] []),
     (⟨(some 19), .mov (.t 1), none⟩, .L),
     (⟨(some 20), .appendZ [(.int .u8 0)] 1 (.t 18) (.t 19), none⟩, .B []),
     (⟨(some 21), .nilchk (.t 14), none⟩, .L),
     (⟨(some 22), .fieldAddr 0 (.t 21), none⟩, .L),
     (⟨none, .store 1 (.t 22) (.t 20), none⟩, .B [])])
  (.seq (.ops [⟨(some 23), .mov (.t 2), none⟩,
     ⟨(some 24), .mov (.t 1), none⟩,
     ⟨(some 25), .call k_octet_highFirst [(.t 23), (.t 24)], none⟩])
  (.block 0 (.rangeF (.t 25) [26, 27] (A_octet_Pen_put_0)
   (B_octet_Pen_put_0))))))⟩
/-- purser/octet.mark -/
def f_octet_mark : Fn := ⟨8, [.tmp 2],
  .seq (.ops [⟨(some 2), .mov (.c (.int .u8 0)), none⟩])
  (.seq (.seq (.ops [⟨(some 3), .mov (.t 0), none⟩])
   (.block 0 (.seq (.ops [⟨(some 5), .bin .eql .no (.t 3) (.c (.int .i64 2)), none⟩,
       ⟨(some 4), .mov (.t 5), none⟩])
    (.cond (.t 4)
     (.seq (.ops [⟨(some 2), .mov (.c (.int .u8 253)), none⟩])
      (.ret))
     (.seq (.ops [⟨(some 7), .bin .eql .no (.t 3) (.c (.int .i64 4)), none⟩,
         ⟨(some 6), .mov (.t 7), none⟩])
      (.cond (.t 6)
       (.seq (.ops [⟨(some 2), .mov (.c (.int .u8 254)), none⟩])
        (.ret))
       (.skip)))))))
  (.seq (.ops [⟨(some 2), .mov (.c (.int .u8 255)), none⟩])
  (.ret)))⟩
def A_octet_width_0 : C := .seq (.ops [⟨(some 4), .mov (.t 8), none⟩])
      (.ops [⟨(some 5), .mov (.t 9), none⟩])
theorem u_A_octet_width_0 (Q : Orc) (N n : Nat) (r : Option Nat) (st : St) : evC Q N n r A_octet_width_0 st = evC Q N n r (.seq (.ops [⟨(some 4), .mov (.t 8), none⟩])
      (.ops [⟨(some 5), .mov (.t 9), none⟩])) st := _root_.id rfl
def B_octet_width_0 : C := .block 1 (.seq (.ops [⟨(some 10), .mov (.t 5), none⟩,
          ⟨(some 11), .bin .neq .no (.t 10) (.c (.int .u8 0)), none⟩])
       (.cond (.t 11)
        (.seq (.ops [⟨(some 12), .mov (.t 4), none⟩,
            ⟨(some 13), .bin .add .no (.t 12) (.c (.int .i64 1)), none⟩,
            ⟨none, .store 1 (.t 3) (.t 13), none⟩])
         (.exit 0))
        (.skip)))
theorem u_B_octet_width_0 (Q : Orc) (N n : Nat) (r : Option Nat) (st : St) : evC Q N n r B_octet_width_0 st = evC Q N n r (.block 1 (.seq (.ops [⟨(some 10), .mov (.t 5), none⟩,
          ⟨(some 11), .bin .neq .no (.t 10) (.c (.int .u8 0)), none⟩])
       (.cond (.t 11)
        (.seq (.ops [⟨(some 12), .mov (.t 4), none⟩,
            ⟨(some 13), .bin .add .no (.t 12) (.c (.int .i64 1)), none⟩,
            ⟨none, .store 1 (.t 3) (.t 13), none⟩])
         (.exit 0))
        (.skip)))) st := _root_.id rfl
def R_octet_width_0 : C := .seq (.ops [⟨(some 14), .load none (.t 3), none⟩,
      ⟨(some 2), .mov (.t 14), none⟩])
   (.ret)
/-- purser/octet.width -/
def f_octet_width : Fn := ⟨15, [.tmp 2],
  .seq (.ops [⟨(some 2), .mov (.c (.int .i64 0)), none⟩])
  (.scope (.seq (.ops [⟨(some 3), .alloc [(.int .i64 0)], none⟩,
      ⟨none, .store 1 (.t 3) (.c (.int .i64 1)), none⟩])
   (.seq (.skip)
   (.seq (.seq (.ops [⟨(some 6), .mov (.t 0), none⟩,
       ⟨(some 7), .call k_octet_highFirst [(.t 6), (.c (.int .i64 8))], none⟩])
    (.block 0 (.rangeF (.t 7) [8, 9] (A_octet_width_0)
     (B_octet_width_0))))
   (R_octet_width_0)))))⟩
/-- purser/octet.sized -/
def f_octet_sized : Fn := ⟨17, [.tmp 2],
  .seq (.ops [⟨(some 2), .mov (.c (.bool false)), none⟩])
  (.seq (.ops [⟨(some 3), .mov (.t 0), none⟩,
     ⟨(some 4), .bin .eql .no (.t 3) (.c (.int .i64 1)), none⟩,
     ⟨(some 5), .mov (.t 4), none⟩,
     ⟨(some 6), .mov (.t 0), (some (5, false))⟩,
     ⟨(some 7), .bin .eql .no (.t 6) (.c (.int .i64 2)), (some (5, false))⟩,
     ⟨(some 8), .pick (.t 5) (.c (.bool true)) (.t 7), none⟩,
     ⟨(some 9), .mov (.t 8), none⟩,
     ⟨(some 10), .mov (.t 0), (some (9, false))⟩,
     ⟨(some 11), .bin .eql .no (.t 10) (.c (.int .i64 4)), (some (9, false))⟩,
     ⟨(some 12), .pick (.t 9) (.c (.bool true)) (.t 11), none⟩,
     ⟨(some 13), .mov (.t 12), none⟩,
     ⟨(some 14), .mov (.t 0), (some (13, false))⟩,
     ⟨(some 15), .bin .eql .no (.t 14) (.c (.int .i64 8)), (some (13, false))⟩,
     ⟨(some 16), .pick (.t 13) (.c (.bool true)) (.t 15), none⟩,
     ⟨(some 2), .mov (.t 16), none⟩])
  (.ret))⟩
/-- purser/octet.highFirst -/
def f_octet_highFirst : Fn := ⟨6, [.tmp 4],
  .seq (.ops [⟨(some 2), .box (.t 0), none⟩,
     ⟨(some 3), .box (.t 1), none⟩,
     ⟨(some 4), .mov (.c .nilFn), none⟩])
  (.seq (.ops [⟨(some 5), .mkfn k_octet_highFirst_1 [] [(.t 3), (.t 2)], none⟩,
     ⟨(some 4), .mov (.t 5), none⟩])
  (.ret))⟩
def L_octet_highFirst_1_0 : C := .seq (.seq (.ops [⟨(some 7), .mov (.t 4), none⟩,
        ⟨(some 8), .bin .geq .no (.t 7) (.c (.int .i64 0)), none⟩])
     (.cond (.t 8)
      (.skip)
      (.exit 0)))
    (.seq (.block 1 (.seq (.ops [⟨(some 11), .mov (.t 0), none⟩,
         ⟨(some 12), .mov (.t 4), none⟩,
         ⟨(some 13), .load none (.t 2), none⟩,
         ⟨(some 14), .mov (.t 4), none⟩,
         ⟨(some 15), .bin .mul .no (.c (.int .i64 8)) (.t 14), none⟩,
         ⟨(some 16), .bin .shr .no (.t 13) (.t 15), none⟩,
         ⟨(some 17), .conv .u8 (.t 16), none⟩,
         ⟨(some 18), .callv (.t 11) [(.t 12), (.t 17)], none⟩,
         ⟨(some 19), .un .not (.t 18), none⟩])
      (.cond (.t 19)
       (.ret)
       (.skip))))
    (.ops [⟨(some 9), .mov (.t 4), none⟩,
      ⟨(some 10), .bin .sub .no (.t 9) (.c (.int .i64 1)), none⟩,
      ⟨(some 4), .mov (.t 10), none⟩]))
/-- purser/octet.highFirst$1 -/
def f_octet_highFirst_1 : Fn := ⟨20, [],
  .seq (.ops [⟨(some 5), .load none (.t 1), none⟩,
     ⟨(some 6), .bin .sub .no (.t 5) (.c (.int .i64 1)), none⟩,
     ⟨(some 4), .mov (.t 6), none⟩])
  (.block 0 (.loop (L_octet_highFirst_1_0)))⟩

end Go.Eng
