/- Functions of the program, as the evaluator takes them: printed by program. -/
import Derived.Test.YtfopajklnakmpaaEngI
namespace Go.Eng
open Go
/-- purser/purserlaw01.OctetWrites -/
abbrev k_purserlaw01_OctetWrites : Nat := 3
/-- purser/purserlaw01.OctetBack -/
abbrev k_purserlaw01_OctetBack : Nat := 4
/-- purser/purserlaw06.TxLong -/
abbrev k_purserlaw06_TxLong : Nat := 9
/-- purser/purserlaw01.great -/
abbrev k_purserlaw01_great : Nat := 14
/-- purser/purserlaw01.write -/
abbrev k_purserlaw01_write : Nat := 15
/-- (*purser/octet.Pen).Len -/
abbrev k_octet_Pen_Len : Nat := 16
/-- (*purser/octet.Pen).All -/
abbrev k_octet_Pen_All : Nat := 17
/-- purser/octet.Compact -/
abbrev k_octet_Compact : Nat := 18
/-- purser/purserref01.Size -/
abbrev k_purserref01_Size : Nat := 19
/-- purser/purserlaw01.alive -/
abbrev k_purserlaw01_alive : Nat := 20
/-- purser/purserlaw01.put -/
abbrev k_purserlaw01_put : Nat := 21
/-- purser/octet.Look -/
abbrev k_octet_Look : Nat := 22
/-- purser/purserlaw01.get -/
abbrev k_purserlaw01_get : Nat := 23
/-- (*purser/octet.Eye).End -/
abbrev k_octet_Eye_End : Nat := 24
/-- purser/purserref06.Great -/
abbrev k_purserref06_Great : Nat := 25
/-- purser/tx.Encode -/
abbrev k_tx_Encode : Nat := 27
/-- purser/purserlaw06.alive -/
abbrev k_purserlaw06_alive : Nat := 42
/-- purser/purserlaw06.size -/
abbrev k_purserlaw06_size : Nat := 44
/-- purser/purserref01.Twin -/
abbrev k_purserref01_Twin : Nat := 45
/-- (*purser/octet.Pen).Fixed -/
abbrev k_octet_Pen_Fixed : Nat := 61
/-- purser/purserref01.Fixed -/
abbrev k_purserref01_Fixed : Nat := 62
/-- (*purser/octet.Pen).Size -/
abbrev k_octet_Pen_Size : Nat := 63
/-- (*purser/octet.Pen).Bytes -/
abbrev k_octet_Pen_Bytes : Nat := 64
/-- purser/purserref01.Bytes -/
abbrev k_purserref01_Bytes : Nat := 65
/-- (*purser/octet.Pen).Raw -/
abbrev k_octet_Pen_Raw : Nat := 66
/-- purser/octet.width -/
abbrev k_octet_width : Nat := 67
/-- (*purser/octet.Eye).Fixed -/
abbrev k_octet_Eye_Fixed : Nat := 68
/-- (*purser/octet.Eye).Size -/
abbrev k_octet_Eye_Size : Nat := 69
/-- (*purser/octet.Eye).Bytes -/
abbrev k_octet_Eye_Bytes : Nat := 70
/-- (*purser/octet.Eye).Raw -/
abbrev k_octet_Eye_Raw : Nat := 71
/-- (*purser/octet.Eye).looks -/
abbrev k_octet_Eye_looks : Nat := 72
/-- (*purser/octet.Eye).Left -/
abbrev k_octet_Eye_Left : Nat := 73
/-- purser/tx.Check -/
abbrev k_tx_Check : Nat := 31
/-- purser/tx.Coinbase -/
abbrev k_tx_Coinbase : Nat := 35
/-- purser/purserlaw06.some -/
abbrev k_purserlaw06_some : Nat := 90
/-- strings.Repeat -/
abbrev k_strings_Repeat : Nat := 91
/-- purser/octet.sized -/
abbrev k_octet_sized : Nat := 103
/-- (*purser/octet.Pen).put -/
abbrev k_octet_Pen_put : Nat := 104
/-- purser/purserref01.power -/
abbrev k_purserref01_power : Nat := 105
/-- purser/octet.mark -/
abbrev k_octet_mark : Nat := 106
/-- purser/octet.highFirst -/
abbrev k_octet_highFirst : Nat := 107
/-- purser/octet.number -/
abbrev k_octet_number : Nat := 108
/-- purser/octet.compact -/
abbrev k_octet_compact : Nat := 109
/-- (*purser/octet.Eye).take -/
abbrev k_octet_Eye_take : Nat := 110
/-- purser/tx.counted -/
abbrev k_tx_counted : Nat := 76
/-- purser/tx.scripts -/
abbrev k_tx_scripts : Nat := 77
/-- math/bits.Mul -/
abbrev k_math_bits_Mul : Nat := 122
/-- strings.HasPrefix -/
abbrev k_strings_HasPrefix : Nat := 123
/-- (*strings.Builder).Grow -/
abbrev k_strings_Builder_Grow : Nat := 124
/-- (*strings.Builder).WriteString -/
abbrev k_strings_Builder_WriteString : Nat := 125
/-- (*strings.Builder).Len -/
abbrev k_strings_Builder_Len : Nat := 126
/-- (*strings.Builder).String -/
abbrev k_strings_Builder_String : Nat := 127
/-- purser/octet.highFirst$1 -/
abbrev k_octet_highFirst_1 : Nat := 133
/-- purser/octet.following -/
abbrev k_octet_following : Nat := 134
/-- purser/tx.scripts$1 -/
abbrev k_tx_scripts_1 : Nat := 113
/-- math/bits.Mul32 -/
abbrev k_math_bits_Mul32 : Nat := 142
/-- math/bits.Mul64 -/
abbrev k_math_bits_Mul64 : Nat := 143
/-- internal/stringslite.HasPrefix -/
abbrev k_internal_stringslite_HasPrefix : Nat := 144
/-- (*strings.Builder).copyCheck -/
abbrev k_strings_Builder_copyCheck : Nat := 145
/-- (*strings.Builder).grow -/
abbrev k_strings_Builder_grow : Nat := 146
/-- internal/abi.NoEscape -/
abbrev k_internal_abi_NoEscape : Nat := 152
/-- internal/bytealg.MakeNoZero -/
abbrev k_internal_bytealg_MakeNoZero : Nat := 153
def L_purserlaw01_OctetWrites_0 : C := .seq (.ops [⟨(some 19), .bin .lss .no (.t 18) (.t 17), none⟩])
     (.seq (.cond (.t 19)
       (.skip)
       (.exit 0))
     (.seq (.block 1 (.seq (.ops [⟨(some 20), .mov (.t 18), none⟩,
          ⟨(some 7), .mov (.t 20), none⟩])
       (.seq (.ops [⟨(some 22), .mov (.t 0), none⟩,
          ⟨(some 23), .mov (.t 7), none⟩,
          ⟨(some 24), .idxAddrS 4 (.t 22) (.t 23), none⟩,
          ⟨(some 25), .load (some 4) (.t 24), none⟩,
          ⟨(some 26), .call k_purserlaw01_write [(.t 5), (.t 25)], none⟩,
          ⟨(some 21), .mov (.t 26), none⟩,
          ⟨(some 27), .ext (.t 21) 0, none⟩,
          ⟨(some 28), .ext (.t 21) 1, none⟩,
          ⟨(some 29), .ext (.t 21) 2, none⟩,
          ⟨(some 8), .mov (.t 27), none⟩,
          ⟨(some 9), .mov (.t 28), none⟩,
          ⟨(some 10), .mov (.t 29), none⟩])
       (.seq (.seq (.ops [⟨(some 30), .mov (.t 8), none⟩,
           ⟨(some 31), .mov (.t 10), none⟩,
           ⟨(some 32), .bin .neq .no (.t 30) (.t 31), none⟩])
        (.cond (.t 32)
         (.seq (.ops [⟨(some 4), .mov (.c (.bool false)), none⟩])
          (.ret))
         (.skip)))
       (.seq (.ops [⟨(some 33), .mov (.t 6), none⟩,
          ⟨(some 34), .mov (.t 9), none⟩,
          ⟨(some 35), .append 1 1 (.t 33) (.t 34), none⟩,
          ⟨(some 6), .mov (.t 35), none⟩])
       (.seq (.ops [⟨(some 36), .call k_octet_Pen_Len [(.t 5)], none⟩,
          ⟨(some 37), .mov (.t 6), none⟩,
          ⟨(some 38), .len false (.t 37), none⟩,
          ⟨(some 39), .bin .neq .no (.t 36) (.t 38), none⟩])
       (.cond (.t 39)
        (.seq (.ops [⟨(some 4), .mov (.c (.bool false)), none⟩])
         (.ret))
        (.skip))))))))
     (.ops [⟨(some 40), .bin .add .no (.t 18) (.c (.int .i64 1)), none⟩,
       ⟨(some 18), .mov (.t 40), none⟩])))
def L_purserlaw01_OctetWrites_1 : C := .seq (.ops [⟨(some 50), .bin .lss .no (.t 49) (.t 48), none⟩])
     (.seq (.cond (.t 50)
       (.skip)
       (.exit 2))
     (.seq (.block 3 (.seq (.ops [⟨(some 51), .mov (.t 49), none⟩,
          ⟨(some 13), .mov (.t 51), none⟩])
       (.ops [⟨(some 52), .mov (.t 11), none⟩,
         ⟨(some 53), .mov (.t 13), none⟩,
         ⟨(some 54), .mov (.t 11), none⟩,
         ⟨(some 55), .mov (.t 13), none⟩,
         ⟨(some 56), .idxAddrS 1 (.t 54) (.t 55), none⟩,
         ⟨(some 57), .load none (.t 56), none⟩,
         ⟨(some 58), .bin .add .no (.t 57) (.c (.int .u8 1)), none⟩,
         ⟨(some 59), .idxAddrS 1 (.t 52) (.t 53), none⟩,
         ⟨none, .store 1 (.t 59) (.t 58), none⟩])))
     (.ops [⟨(some 60), .bin .add .no (.t 49) (.c (.int .i64 1)), none⟩,
       ⟨(some 49), .mov (.t 60), none⟩])))
def R_purserlaw01_OctetWrites_0 : C := .seq (.dops 0 [] [(⟨(some 61), .mov (.t 12), none⟩, .L),
     (⟨(some 62), .mov (.t 61), none⟩, .L),
     (⟨(some 63), .call k_octet_Pen_All [(.t 5)], (some (62, true))⟩, .B []),
     (⟨(some 64), .b2s (.t 63), (some (62, true))⟩, .R [] []),
     (⟨(some 65), .mov (.t 6), (some (62, true))⟩, .L),
     (⟨(some 66), .b2s (.t 65), (some (62, true))⟩, .R [] [(3, [])]),
     (⟨(some 67), .bin .eql .no (.t 64) (.t 66), (some (62, true))⟩, .L),
     (⟨(some 68), .pick (.t 62) (.t 67) (.c (.bool false)), none⟩, .L),
     (⟨(some 69), .mov (.t 68), none⟩, .L),
     (⟨(some 70), .mov (.t 1), (some (69, true))⟩, .L),
     (⟨(some 71), .call k_octet_Compact [(.t 70)], (some (69, true))⟩, .B []),
     (⟨(some 72), .mov (.t 1), (some (69, true))⟩, .L),
     (⟨(some 73), .call k_purserref01_Size [(.t 72)], (some (69, true))⟩, .B []),
     (⟨(some 74), .len false (.t 73), (some (69, true))⟩, .L),
     (⟨(some 75), .bin .eql .no (.t 71) (.t 74), (some (69, true))⟩, .L),
     (⟨(some 76), .pick (.t 69) (.t 75) (.c (.bool false)), none⟩, .L),
     (⟨(some 4), .mov (.t 76), none⟩, .L)])
  (.ret)
def R_purserlaw01_OctetWrites_1 : C := .seq (.ops [⟨(some 41), .call k_octet_Pen_All [(.t 5)], none⟩,
     ⟨(some 11), .mov (.t 41), none⟩])
  (.seq (.ops [⟨(some 42), .mov (.t 11), none⟩,
     ⟨(some 43), .b2s (.t 42), none⟩,
     ⟨(some 44), .mov (.t 6), none⟩,
     ⟨(some 45), .b2s (.t 44), none⟩,
     ⟨(some 46), .bin .eql .no (.t 43) (.t 45), none⟩,
     ⟨(some 12), .mov (.t 46), none⟩])
  (.seq (.seq (.ops [⟨(some 47), .mov (.t 11), none⟩,
      ⟨(some 48), .len false (.t 47), none⟩,
      ⟨(some 49), .mov (.c (.int .i64 0)), none⟩])
   (.block 2 (.loop (L_purserlaw01_OctetWrites_1))))
  (R_purserlaw01_OctetWrites_0)))
/-- purser/purserlaw01.OctetWrites -/
def f_purserlaw01_OctetWrites : Fn := ⟨77, [.tmp 4],
  .seq (.ops [⟨(some 4), .mov (.c (.bool false)), none⟩])
  (.seq (.seq (.ops [⟨(some 14), .mov (.t 0), none⟩,
      ⟨(some 15), .call k_purserlaw01_great [(.t 14)], none⟩])
   (.cond (.t 15)
    (.seq (.ops [⟨(some 4), .mov (.c (.bool true)), none⟩])
     (.ret))
    (.skip)))
  (.seq (.ops [⟨(some 5), .alloc [(.slice none 0 (some 0) 0)], none⟩])
  (.seq (.ops [⟨(some 6), .mov (.c (.slice none 0 (some 0) 0)), none⟩])
  (.seq (.seq (.ops [⟨(some 16), .mov (.t 0), none⟩,
      ⟨(some 17), .len false (.t 16), none⟩,
      ⟨(some 18), .mov (.c (.int .i64 0)), none⟩])
   (.block 0 (.loop (L_purserlaw01_OctetWrites_0))))
  (R_purserlaw01_OctetWrites_1)))))⟩
def L_purserlaw01_OctetBack_0 : C := .seq (.ops [⟨(some 24), .bin .lss .no (.t 23) (.t 22), none⟩])
     (.seq (.cond (.t 24)
       (.skip)
       (.exit 0))
     (.seq (.block 1 (.seq (.ops [⟨(some 25), .mov (.t 23), none⟩,
          ⟨(some 6), .mov (.t 25), none⟩])
       (.seq (.ops [⟨(some 26), .mov (.t 0), none⟩,
          ⟨(some 27), .mov (.t 6), none⟩,
          ⟨(some 28), .idxAddrS 4 (.t 26) (.t 27), none⟩,
          ⟨(some 29), .load (some 4) (.t 28), none⟩,
          ⟨(some 30), .call k_purserlaw01_put [(.t 4), (.t 29)], none⟩])
       (.cond (.t 30)
        (.ops [⟨(some 31), .mov (.t 5), none⟩,
           ⟨(some 32), .mov (.t 0), none⟩,
           ⟨(some 33), .mov (.t 6), none⟩,
           ⟨(some 34), .idxAddrS 4 (.t 32) (.t 33), none⟩,
           ⟨(some 35), .load (some 4) (.t 34), none⟩,
           ⟨(some 36), .buildS [(.int .i64 0), (.int .i64 0), (.int .u64 0), (.slice none 0 (some 0) 0)] 1 4 [(0, 4, (.t 35))], none⟩,
           ⟨(some 37), .append 4 48 (.t 31) (.t 36), none⟩,
           ⟨(some 5), .mov (.t 37), none⟩])
        (.skip)))))
     (.ops [⟨(some 38), .bin .add .no (.t 23) (.c (.int .i64 1)), none⟩,
       ⟨(some 23), .mov (.t 38), none⟩])))
def L_purserlaw01_OctetBack_1 : C := .seq (.ops [⟨(some 45), .bin .lss .no (.t 44) (.t 43), none⟩])
     (.seq (.cond (.t 45)
       (.skip)
       (.exit 2))
     (.seq (.block 3 (.seq (.ops [⟨(some 46), .mov (.t 44), none⟩,
          ⟨(some 9), .mov (.t 46), none⟩])
       (.seq (.ops [⟨(some 47), .mov (.t 8), none⟩,
          ⟨(some 48), .mov (.t 5), none⟩,
          ⟨(some 49), .mov (.t 9), none⟩,
          ⟨(some 50), .idxAddrS 4 (.t 48) (.t 49), none⟩,
          ⟨(some 51), .load (some 4) (.t 50), none⟩,
          ⟨(some 52), .call k_purserlaw01_get [(.t 47), (.t 51)], none⟩,
          ⟨(some 53), .un .not (.t 52), none⟩])
       (.cond (.t 53)
        (.seq (.ops [⟨(some 2), .mov (.c (.bool false)), none⟩])
         (.ret))
        (.skip)))))
     (.ops [⟨(some 54), .bin .add .no (.t 44) (.c (.int .i64 1)), none⟩,
       ⟨(some 44), .mov (.t 54), none⟩])))
def L_purserlaw01_OctetBack_2 : C := .seq (.ops [⟨(some 78), .bin .lss .no (.t 77) (.t 76), none⟩])
     (.seq (.cond (.t 78)
       (.skip)
       (.exit 4))
     (.seq (.block 5 (.seq (.ops [⟨(some 79), .mov (.t 77), none⟩,
          ⟨(some 12), .mov (.t 79), none⟩])
       (.ops [⟨(some 80), .mov (.t 11), none⟩,
         ⟨(some 81), .mov (.t 80), none⟩,
         ⟨(some 82), .mov (.t 10), (some (81, true))⟩,
         ⟨(some 83), .mov (.t 5), (some (81, true))⟩,
         ⟨(some 84), .mov (.t 12), (some (81, true))⟩,
         ⟨(some 85), .idxAddrS 4 (.t 83) (.t 84), (some (81, true))⟩,
         ⟨(some 86), .load (some 4) (.t 85), (some (81, true))⟩,
         ⟨(some 87), .call k_purserlaw01_get [(.t 82), (.t 86)], (some (81, true))⟩,
         ⟨(some 88), .pick (.t 81) (.t 87) (.c (.bool false)), none⟩,
         ⟨(some 11), .mov (.t 88), none⟩])))
     (.ops [⟨(some 89), .bin .add .no (.t 77) (.c (.int .i64 1)), none⟩,
       ⟨(some 77), .mov (.t 89), none⟩])))
def R_purserlaw01_OctetBack_0 : C := .seq (.ops [⟨(some 90), .mov (.t 3), none⟩,
     ⟨(some 91), .mov (.t 90), none⟩,
     ⟨(some 92), .mov (.t 11), (some (91, true))⟩,
     ⟨(some 93), .un .not (.t 92), (some (91, true))⟩,
     ⟨(some 94), .pick (.t 91) (.t 93) (.c (.bool false)), none⟩,
     ⟨(some 2), .mov (.t 94), none⟩])
  (.ret)
def R_purserlaw01_OctetBack_1 : C := .seq (.seq (.ops [⟨(some 55), .mov (.t 8), none⟩,
      ⟨(some 56), .call k_octet_Eye_End [(.t 55)], none⟩,
      ⟨(some 57), .bin .neq .no (.t 56) (.c (.int .i64 0)), none⟩,
      ⟨(some 58), .mov (.t 57), none⟩,
      ⟨(some 59), .mov (.t 7), (some (58, false))⟩,
      ⟨(some 60), .len false (.t 59), (some (58, false))⟩,
      ⟨(some 61), .bin .eql .no (.t 60) (.c (.int .i64 0)), (some (58, false))⟩,
      ⟨(some 62), .pick (.t 58) (.c (.bool true)) (.t 61), none⟩])
   (.cond (.t 62)
    (.seq (.ops [⟨(some 63), .mov (.t 3), none⟩,
        ⟨(some 64), .mov (.t 63), none⟩,
        ⟨(some 65), .mov (.t 8), (some (64, true))⟩,
        ⟨(some 66), .call k_octet_Eye_End [(.t 65)], (some (64, true))⟩,
        ⟨(some 67), .bin .eql .no (.t 66) (.c (.int .i64 0)), (some (64, true))⟩,
        ⟨(some 68), .pick (.t 64) (.t 67) (.c (.bool false)), none⟩,
        ⟨(some 2), .mov (.t 68), none⟩])
     (.ret))
    (.skip)))
  (.seq (.ops [⟨(some 69), .mov (.t 7), none⟩,
     ⟨(some 70), .mov (.t 7), none⟩,
     ⟨(some 71), .len false (.t 70), none⟩,
     ⟨(some 72), .bin .sub .no (.t 71) (.c (.int .i64 1)), none⟩,
     ⟨(some 73), .slcS 1 (.t 69) none (some (.t 72)) none, none⟩,
     ⟨(some 74), .call k_octet_Look [(.t 73)], none⟩,
     ⟨(some 10), .mov (.t 74), none⟩])
  (.seq (.ops [⟨(some 11), .mov (.c (.bool true)), none⟩])
  (.seq (.seq (.ops [⟨(some 75), .mov (.t 5), none⟩,
      ⟨(some 76), .len false (.t 75), none⟩,
      ⟨(some 77), .mov (.c (.int .i64 0)), none⟩])
   (.block 4 (.loop (L_purserlaw01_OctetBack_2))))
  (R_purserlaw01_OctetBack_0))))
def R_purserlaw01_OctetBack_2 : C := .seq (.ops [⟨(some 39), .call k_octet_Pen_All [(.t 4)], none⟩,
     ⟨(some 7), .mov (.t 39), none⟩])
  (.seq (.ops [⟨(some 40), .mov (.t 7), none⟩,
     ⟨(some 41), .call k_octet_Look [(.t 40)], none⟩,
     ⟨(some 8), .mov (.t 41), none⟩])
  (.seq (.seq (.ops [⟨(some 42), .mov (.t 5), none⟩,
      ⟨(some 43), .len false (.t 42), none⟩,
      ⟨(some 44), .mov (.c (.int .i64 0)), none⟩])
   (.block 2 (.loop (L_purserlaw01_OctetBack_1))))
  (R_purserlaw01_OctetBack_1)))
/-- purser/purserlaw01.OctetBack -/
def f_purserlaw01_OctetBack : Fn := ⟨95, [.tmp 2],
  .seq (.ops [⟨(some 2), .mov (.c (.bool false)), none⟩])
  (.seq (.ops [⟨(some 13), .call k_purserlaw01_alive [], none⟩,
     ⟨(some 3), .mov (.t 13), none⟩])
  (.seq (.seq (.ops [⟨(some 14), .mov (.t 0), none⟩,
      ⟨(some 15), .call k_purserlaw01_great [(.t 14)], none⟩,
      ⟨(some 16), .mov (.t 15), none⟩,
      ⟨(some 17), .mov (.t 3), (some (16, false))⟩,
      ⟨(some 18), .un .not (.t 17), (some (16, false))⟩,
      ⟨(some 19), .pick (.t 16) (.c (.bool true)) (.t 18), none⟩])
   (.cond (.t 19)
    (.seq (.ops [⟨(some 20), .mov (.t 3), none⟩,
        ⟨(some 2), .mov (.t 20), none⟩])
     (.ret))
    (.skip)))
  (.seq (.ops [⟨(some 4), .alloc [(.slice none 0 (some 0) 0)], none⟩])
  (.seq (.ops [⟨(some 5), .mov (.c (.slice none 0 (some 0) 0)), none⟩])
  (.seq (.seq (.ops [⟨(some 21), .mov (.t 0), none⟩,
      ⟨(some 22), .len false (.t 21), none⟩,
      ⟨(some 23), .mov (.c (.int .i64 0)), none⟩])
   (.block 0 (.loop (L_purserlaw01_OctetBack_0))))
  (R_purserlaw01_OctetBack_2))))))⟩
def L_purserlaw06_TxLong_0 : C := .seq (.ops [⟨(some 45), .bin .lss .no (.t 44) (.t 43), none⟩])
     (.seq (.cond (.t 45)
       (.skip)
       (.exit 0))
     (.seq (.block 1 (.seq (.ops [⟨(some 46), .mov (.t 44), none⟩,
          ⟨(some 7), .mov (.t 46), none⟩])
       (.dops 0 [] [(⟨(some 47), .mov (.t 6), none⟩, .L),
         (⟨(some 48), .bin .add .no (.t 47) (.c (.int .i64 40)), none⟩, .L),
         (⟨(some 49), .fieldAddr 1 (.t 1), none⟩, .L),
         (⟨(some 50), .load none (.t 49), none⟩, .R [] []),
         (⟨(some 51), .mov (.t 7), none⟩, .L),
         (⟨(some 52), .idxAddrS 35 (.t 50) (.t 51), none⟩, .L),
         (⟨(some 53), .fieldAddr 33 (.t 52), none⟩, .L),
         (⟨(some 54), .load none (.t 53), none⟩, .R [] []),
         (⟨(some 55), .len false (.t 54), none⟩, .L),
         (⟨(some 56), .call k_purserlaw06_size [(.t 55)], none⟩, .B []),
         (⟨(some 57), .bin .add .no (.t 48) (.t 56), none⟩, .L),
         (⟨(some 58), .fieldAddr 1 (.t 1), none⟩, .L),
         (⟨(some 59), .load none (.t 58), none⟩, .R [] [(1, [])]),
         (⟨(some 60), .mov (.t 7), none⟩, .L),
         (⟨(some 61), .idxAddrS 35 (.t 59) (.t 60), none⟩, .L),
         (⟨(some 62), .fieldAddr 33 (.t 61), none⟩, .L),
         (⟨(some 63), .load none (.t 62), none⟩, .R [] [(1, [])]),
         (⟨(some 64), .len false (.t 63), none⟩, .L),
         (⟨(some 65), .bin .add .no (.t 57) (.t 64), none⟩, .L),
         (⟨(some 6), .mov (.t 65), none⟩, .L)])))
     (.ops [⟨(some 66), .bin .add .no (.t 44) (.c (.int .i64 1)), none⟩,
       ⟨(some 44), .mov (.t 66), none⟩])))
def L_purserlaw06_TxLong_1 : C := .seq (.ops [⟨(some 71), .bin .lss .no (.t 70) (.t 69), none⟩])
     (.seq (.cond (.t 71)
       (.skip)
       (.exit 2))
     (.seq (.block 3 (.seq (.ops [⟨(some 72), .mov (.t 70), none⟩,
          ⟨(some 8), .mov (.t 72), none⟩])
       (.dops 0 [] [(⟨(some 73), .mov (.t 6), none⟩, .L),
         (⟨(some 74), .bin .add .no (.t 73) (.c (.int .i64 8)), none⟩, .L),
         (⟨(some 75), .fieldAddr 2 (.t 1), none⟩, .L),
         (⟨(some 76), .load none (.t 75), none⟩, .R [] []),
         (⟨(some 77), .mov (.t 8), none⟩, .L),
         (⟨(some 78), .idxAddrS 2 (.t 76) (.t 77), none⟩, .L),
         (⟨(some 79), .fieldAddr 1 (.t 78), none⟩, .L),
         (⟨(some 80), .load none (.t 79), none⟩, .R [] []),
         (⟨(some 81), .len false (.t 80), none⟩, .L),
         (⟨(some 82), .call k_purserlaw06_size [(.t 81)], none⟩, .B []),
         (⟨(some 83), .bin .add .no (.t 74) (.t 82), none⟩, .L),
         (⟨(some 84), .fieldAddr 2 (.t 1), none⟩, .L),
         (⟨(some 85), .load none (.t 84), none⟩, .R [] [(1, [])]),
         (⟨(some 86), .mov (.t 8), none⟩, .L),
         (⟨(some 87), .idxAddrS 2 (.t 85) (.t 86), none⟩, .L),
         (⟨(some 88), .fieldAddr 1 (.t 87), none⟩, .L),
         (⟨(some 89), .load none (.t 88), none⟩, .R [] [(1, [])]),
         (⟨(some 90), .len false (.t 89), none⟩, .L),
         (⟨(some 91), .bin .add .no (.t 83) (.t 90), none⟩, .L),
         (⟨(some 6), .mov (.t 91), none⟩, .L)])))
     (.ops [⟨(some 92), .bin .add .no (.t 70) (.c (.int .i64 1)), none⟩,
       ⟨(some 70), .mov (.t 92), none⟩])))
def R_purserlaw06_TxLong_0 : C := .seq (.ops [⟨(some 93), .mov (.t 3), none⟩,
     ⟨(some 94), .mov (.t 93), none⟩,
     ⟨(some 95), .mov (.t 4), (some (94, true))⟩,
     ⟨(some 96), .len false (.t 95), (some (94, true))⟩,
     ⟨(some 97), .mov (.t 6), (some (94, true))⟩,
     ⟨(some 98), .bin .eql .no (.t 96) (.t 97), (some (94, true))⟩,
     ⟨(some 99), .pick (.t 94) (.t 98) (.c (.bool false)), none⟩,
     ⟨(some 2), .mov (.t 99), none⟩])
  (.ret)
def R_purserlaw06_TxLong_1 : C := .seq (.seq (.ops [⟨(some 67), .fieldAddr 2 (.t 1), none⟩,
      ⟨(some 68), .load none (.t 67), none⟩,
      ⟨(some 69), .len false (.t 68), none⟩,
      ⟨(some 70), .mov (.c (.int .i64 0)), none⟩])
   (.block 2 (.loop (L_purserlaw06_TxLong_1))))
  (R_purserlaw06_TxLong_0)
/-- purser/purserlaw06.TxLong -/
def f_purserlaw06_TxLong : Fn := ⟨100, [.tmp 2],
  .seq (.ops [⟨(some 1), .box (.t 0), none⟩,
     ⟨(some 2), .mov (.c (.bool false)), none⟩])
  (.seq (.ops [⟨(some 9), .call k_purserlaw06_alive [], none⟩,
     ⟨(some 3), .mov (.t 9), none⟩])
  (.seq (.seq (.ops [⟨(some 10), .load (some 4) (.t 1), none⟩,
      ⟨(some 11), .call k_purserref06_Great [(.t 10)], none⟩,
      ⟨(some 12), .bin .gtr .no (.t 11) (.c (.int .i64 0)), none⟩,
      ⟨(some 13), .mov (.t 12), none⟩,
      ⟨(some 14), .mov (.t 3), (some (13, false))⟩,
      ⟨(some 15), .un .not (.t 14), (some (13, false))⟩,
      ⟨(some 16), .pick (.t 13) (.c (.bool true)) (.t 15), none⟩])
   (.cond (.t 16)
    (.seq (.ops [⟨(some 17), .mov (.t 3), none⟩,
        ⟨(some 2), .mov (.t 17), none⟩])
     (.ret))
    (.skip)))
  (.seq (.ops [⟨(some 19), .load (some 4) (.t 1), none⟩,
     ⟨(some 20), .call k_tx_Encode [(.t 19)], none⟩,
     ⟨(some 18), .mov (.t 20), none⟩,
     ⟨(some 21), .ext (.t 18) 0, none⟩,
     ⟨(some 22), .ext (.t 18) 1, none⟩,
     ⟨(some 4), .mov (.t 21), none⟩,
     ⟨(some 5), .mov (.t 22), none⟩])
  (.seq (.seq (.ops [⟨(some 23), .mov (.t 5), none⟩,
      ⟨(some 24), .bin .neq .no (.t 23) (.c (.int .i64 0)), none⟩])
   (.cond (.t 24)
    (.seq (.ops [⟨(some 25), .mov (.t 3), none⟩,
        ⟨(some 26), .mov (.t 25), none⟩,
        ⟨(some 27), .mov (.t 4), (some (26, true))⟩,
        ⟨(some 28), .len false (.t 27), (some (26, true))⟩,
        ⟨(some 29), .bin .eql .no (.t 28) (.c (.int .i64 0)), (some (26, true))⟩,
        ⟨(some 30), .pick (.t 26) (.t 29) (.c (.bool false)), none⟩,
        ⟨(some 2), .mov (.t 30), none⟩])
     (.ret))
    (.skip)))
  (.seq (.dops 0 [] [(⟨(some 31), .fieldAddr 1 (.t 1), none⟩, .L),
     (⟨(some 32), .load none (.t 31), none⟩, .R [] []),
     (⟨(some 33), .len false (.t 32), none⟩, .L),
     (⟨(some 34), .call k_purserlaw06_size [(.t 33)], none⟩, .B []),
     (⟨(some 35), .bin .add .no (.c (.int .i64 8)) (.t 34), none⟩, .L),
     (⟨(some 36), .fieldAddr 2 (.t 1), none⟩, .L),
     (⟨(some 37), .load none (.t 36), none⟩, .R [] [(2, [])]),
     (⟨(some 38), .len false (.t 37), none⟩, .L),
     (⟨(some 39), .call k_purserlaw06_size [(.t 38)], none⟩, .B []),
     (⟨(some 40), .bin .add .no (.t 35) (.t 39), none⟩, .L),
     (⟨(some 6), .mov (.t 40), none⟩, .L)])
  (.seq (.seq (.ops [⟨(some 41), .fieldAddr 1 (.t 1), none⟩,
      ⟨(some 42), .load none (.t 41), none⟩,
      ⟨(some 43), .len false (.t 42), none⟩,
      ⟨(some 44), .mov (.c (.int .i64 0)), none⟩])
   (.block 0 (.loop (L_purserlaw06_TxLong_0))))
  (R_purserlaw06_TxLong_1)))))))⟩
def L_purserlaw01_great_0 : C := .seq (.ops [⟨(some 8), .bin .lss .no (.t 7) (.t 6), none⟩])
     (.seq (.cond (.t 8)
       (.skip)
       (.exit 0))
     (.seq (.block 1 (.seq (.ops [⟨(some 9), .mov (.t 7), none⟩,
          ⟨(some 4), .mov (.t 9), none⟩])
       (.ops [⟨(some 10), .mov (.t 3), none⟩,
         ⟨(some 11), .mov (.t 0), none⟩,
         ⟨(some 12), .mov (.t 4), none⟩,
         ⟨(some 13), .idxAddrS 4 (.t 11) (.t 12), none⟩,
         ⟨(some 14), .fieldAddr 3 (.t 13), none⟩,
         ⟨(some 15), .load none (.t 14), none⟩,
         ⟨(some 16), .len false (.t 15), none⟩,
         ⟨(some 17), .bin .add .no (.t 10) (.t 16), none⟩,
         ⟨(some 3), .mov (.t 17), none⟩])))
     (.ops [⟨(some 18), .bin .add .no (.t 7) (.c (.int .i64 1)), none⟩,
       ⟨(some 7), .mov (.t 18), none⟩])))
def R_purserlaw01_great_0 : C := .seq (.ops [⟨(some 19), .mov (.t 0), none⟩,
     ⟨(some 20), .len false (.t 19), none⟩,
     ⟨(some 21), .bin .gtr .no (.t 20) (.c (.int .i64 100)), none⟩,
     ⟨(some 22), .mov (.t 21), none⟩,
     ⟨(some 23), .mov (.t 3), (some (22, false))⟩,
     ⟨(some 24), .bin .gtr .no (.t 23) (.c (.int .i64 100000)), (some (22, false))⟩,
     ⟨(some 25), .pick (.t 22) (.c (.bool true)) (.t 24), none⟩,
     ⟨(some 2), .mov (.t 25), none⟩])
  (.ret)
/-- purser/purserlaw01.great -/
def f_purserlaw01_great : Fn := ⟨26, [.tmp 2],
  .seq (.ops [⟨(some 2), .mov (.c (.bool false)), none⟩])
  (.seq (.ops [⟨(some 3), .mov (.c (.int .i64 0)), none⟩])
  (.seq (.seq (.ops [⟨(some 5), .mov (.t 0), none⟩,
      ⟨(some 6), .len false (.t 5), none⟩,
      ⟨(some 7), .mov (.c (.int .i64 0)), none⟩])
   (.block 0 (.loop (L_purserlaw01_great_0))))
  (R_purserlaw01_great_0)))⟩
def L_purserlaw01_write_0 : C := .seq (.ops [⟨(some 76), .bin .lss .no (.t 75) (.t 74), none⟩])
     (.seq (.cond (.t 76)
       (.skip)
       (.exit 1))
     (.seq (.block 2 (.seq (.ops [⟨(some 77), .mov (.t 75), none⟩,
          ⟨(some 12), .mov (.t 77), none⟩])
       (.ops [⟨(some 78), .mov (.t 7), none⟩,
         ⟨(some 79), .mov (.t 12), none⟩,
         ⟨(some 80), .mov (.t 7), none⟩,
         ⟨(some 81), .mov (.t 12), none⟩,
         ⟨(some 82), .idxAddrS 1 (.t 80) (.t 81), none⟩,
         ⟨(some 83), .load none (.t 82), none⟩,
         ⟨(some 84), .bin .add .no (.t 83) (.c (.int .u8 1)), none⟩,
         ⟨(some 85), .idxAddrS 1 (.t 78) (.t 79), none⟩,
         ⟨none, .store 1 (.t 85) (.t 84), none⟩])))
     (.ops [⟨(some 86), .bin .add .no (.t 75) (.c (.int .i64 1)), none⟩,
       ⟨(some 75), .mov (.t 86), none⟩])))
def R_purserlaw01_write_0 : C := .seq (.ops [⟨(some 87), .mov (.t 8), none⟩,
     ⟨(some 88), .mov (.t 9), none⟩,
     ⟨(some 89), .mov (.t 10), none⟩,
     ⟨(some 4), .mov (.t 87), none⟩,
     ⟨(some 5), .mov (.t 88), none⟩,
     ⟨(some 6), .mov (.t 89), none⟩])
  (.ret)
/-- purser/purserlaw01.write -/
def f_purserlaw01_write : Fn := ⟨90, [.tmp 4, .tmp 5, .tmp 6],
  .seq (.ops [⟨(some 3), .box (.t 1), none⟩,
     ⟨(some 4), .mov (.c (.int .i64 0)), none⟩,
     ⟨(some 5), .mov (.c (.slice none 0 (some 0) 0)), none⟩,
     ⟨(some 6), .mov (.c (.int .i64 0)), none⟩])
  (.seq (.ops [⟨(some 13), .fieldAddr 3 (.t 3), none⟩,
     ⟨(some 14), .load none (.t 13), none⟩,
     ⟨(some 15), .call k_purserref01_Twin [(.t 14)], none⟩,
     ⟨(some 7), .mov (.t 15), none⟩])
  (.seq (.ops [⟨(some 8), .mov (.c (.int .i64 0)), none⟩])
  (.seq (.ops [⟨(some 9), .mov (.c (.slice none 0 (some 0) 0)), none⟩])
  (.seq (.ops [⟨(some 10), .mov (.c (.int .i64 0)), none⟩])
  (.seq (.seq (.ops [⟨(some 16), .fieldAddr 0 (.t 3), none⟩,
      ⟨(some 17), .load none (.t 16), none⟩])
   (.block 0 (.seq (.ops [⟨(some 19), .bin .eql .no (.t 17) (.c (.int .i64 0)), none⟩,
       ⟨(some 18), .mov (.t 19), none⟩])
    (.cond (.t 18)
     (.seq (.ops [⟨(some 20), .mov (.t 0), none⟩,
         ⟨(some 21), .fieldAddr 1 (.t 3), none⟩,
         ⟨(some 22), .load none (.t 21), none⟩,
         ⟨(some 23), .fieldAddr 2 (.t 3), none⟩,
         ⟨(some 24), .load none (.t 23), none⟩,
         ⟨(some 25), .call k_octet_Pen_Fixed [(.t 20), (.t 22), (.t 24)], none⟩,
         ⟨(some 8), .mov (.t 25), none⟩])
      (.ops [⟨(some 27), .fieldAddr 1 (.t 3), none⟩,
        ⟨(some 28), .load none (.t 27), none⟩,
        ⟨(some 29), .fieldAddr 2 (.t 3), none⟩,
        ⟨(some 30), .load none (.t 29), none⟩,
        ⟨(some 31), .call k_purserref01_Fixed [(.t 28), (.t 30)], none⟩,
        ⟨(some 26), .mov (.t 31), none⟩,
        ⟨(some 32), .ext (.t 26) 0, none⟩,
        ⟨(some 33), .ext (.t 26) 1, none⟩,
        ⟨(some 9), .mov (.t 32), none⟩,
        ⟨(some 10), .mov (.t 33), none⟩]))
     (.seq (.ops [⟨(some 35), .bin .eql .no (.t 17) (.c (.int .i64 1)), none⟩,
         ⟨(some 34), .mov (.t 35), none⟩])
      (.cond (.t 34)
       (.seq (.ops [⟨(some 36), .mov (.t 0), none⟩,
           ⟨(some 37), .fieldAddr 2 (.t 3), none⟩,
           ⟨(some 38), .load none (.t 37), none⟩,
           ⟨(some 39), .call k_octet_Pen_Size [(.t 36), (.t 38)], none⟩,
           ⟨(some 8), .mov (.t 39), none⟩])
        (.ops [⟨(some 40), .fieldAddr 2 (.t 3), none⟩,
          ⟨(some 41), .load none (.t 40), none⟩,
          ⟨(some 42), .call k_purserref01_Size [(.t 41)], none⟩,
          ⟨(some 9), .mov (.t 42), none⟩]))
       (.seq (.ops [⟨(some 44), .bin .eql .no (.t 17) (.c (.int .i64 2)), none⟩,
           ⟨(some 43), .mov (.t 44), none⟩])
        (.cond (.t 43)
         (.seq (.ops [⟨(some 45), .mov (.t 0), none⟩,
             ⟨(some 46), .mov (.t 7), none⟩,
             ⟨(some 47), .call k_octet_Pen_Bytes [(.t 45), (.t 46)], none⟩,
             ⟨(some 8), .mov (.t 47), none⟩])
          (.ops [⟨(some 48), .fieldAddr 3 (.t 3), none⟩,
            ⟨(some 49), .load none (.t 48), none⟩,
            ⟨(some 50), .call k_purserref01_Bytes [(.t 49)], none⟩,
            ⟨(some 9), .mov (.t 50), none⟩]))
         (.seq (.ops [⟨(some 52), .bin .eql .no (.t 17) (.c (.int .i64 3)), none⟩,
             ⟨(some 51), .mov (.t 52), none⟩])
          (.cond (.t 51)
           (.seq (.ops [⟨(some 53), .mov (.t 7), none⟩,
               ⟨(some 54), .len false (.t 53), none⟩,
               ⟨(some 55), .bin .quo .no (.t 54) (.c (.int .i64 2)), none⟩,
               ⟨(some 11), .mov (.t 55), none⟩])
            (.seq (.dops 1 [] [(⟨(some 56), .mov (.t 0), none⟩, .L),
               (⟨(some 57), .mov (.t 7), none⟩, .L),
               (⟨(some 58), .mov (.t 11), none⟩, .L),
               (⟨(some 59), .slcS 1 (.t 57) none (some (.t 58)) none, none⟩, .L),
               (⟨(some 60), .mov (.t 7), none⟩, .L),
               (⟨(some 61), .mov (.t 11), none⟩, .L),
               (⟨(some 62), .slcS 1 (.t 60) (some (.t 61)) none none, none⟩, .L),
               (⟨(some 63), .buildS [(.slice none 0 (some 0) 0), (.slice none 0 (some 0) 0), (.slice none 0 (some 0) 0)] 3 1 [(0, 1, (.t 59)), (1, 1, (.c (.slice none 0 (some 0) 0))), (2, 1, (.t 62))], none⟩, .Al 0),
               (⟨(some 64), .call k_octet_Pen_Raw [(.t 56), (.t 63)], none⟩, .B [0]),
               (⟨(some 8), .mov (.t 64), none⟩, .L)])
            (.ops [⟨(some 65), .fieldAddr 3 (.t 3), none⟩,
              ⟨(some 66), .load none (.t 65), none⟩,
              ⟨(some 9), .mov (.t 66), none⟩])))
           (.skip)))))))))))
  (.seq (.seq (.ops [⟨(some 67), .mov (.t 7), none⟩,
      ⟨(some 68), .b2s (.t 67), none⟩,
      ⟨(some 69), .fieldAddr 3 (.t 3), none⟩,
      ⟨(some 70), .load none (.t 69), none⟩,
      ⟨(some 71), .b2s (.t 70), none⟩,
      ⟨(some 72), .bin .neq .no (.t 68) (.t 71), none⟩])
   (.cond (.t 72)
    (.ops [⟨(some 10), .mov (.c (.int .i64 (-1))), none⟩])
    (.skip)))
  (.seq (.seq (.ops [⟨(some 73), .mov (.t 7), none⟩,
      ⟨(some 74), .len false (.t 73), none⟩,
      ⟨(some 75), .mov (.c (.int .i64 0)), none⟩])
   (.block 1 (.loop (L_purserlaw01_write_0))))
  (R_purserlaw01_write_0))))))))⟩
/-- (*purser/octet.Pen).Len -/
def f_octet_Pen_Len : Fn := ⟨10, [.tmp 2],
  .seq (.ops [⟨(some 2), .mov (.c (.int .i64 0)), none⟩])
  (.seq (.seq (.ops [⟨(some 3), .mov (.t 0), none⟩,
      ⟨(some 4), .bin .eql (.ref .p) (.t 3) (.c (.ptr none)), none⟩])
   (.cond (.t 4)
    (.seq (.ops [⟨(some 2), .mov (.c (.int .i64 0)), none⟩])
     (.ret))
    (.skip)))
  (.seq (.ops [⟨(some 5), .mov (.t 0), none⟩,
     ⟨(some 6), .nilchk (.t 5), none⟩,
     ⟨(some 7), .fieldAddr 0 (.t 6), none⟩,
     ⟨(some 8), .load none (.t 7), none⟩,
     ⟨(some 9), .len false (.t 8), none⟩,
     ⟨(some 2), .mov (.t 9), none⟩])
  (.ret)))⟩
/-- (*purser/octet.Pen).All -/
def f_octet_Pen_All : Fn := ⟨10, [.tmp 2],
  .seq (.ops [⟨(some 2), .mov (.c (.slice none 0 (some 0) 0)), none⟩])
  (.seq (.seq (.ops [⟨(some 3), .mov (.t 0), none⟩,
      ⟨(some 4), .bin .eql (.ref .p) (.t 3) (.c (.ptr none)), none⟩])
   (.cond (.t 4)
    (.seq (.ops [⟨(some 2), .mov (.c (.slice none 0 (some 0) 0)), none⟩])
     (.ret))
    (.skip)))
  (.seq (.ops [⟨(some 5), .mov (.t 0), none⟩,
     ⟨(some 6), .nilchk (.t 5), none⟩,
     ⟨(some 7), .fieldAddr 0 (.t 6), none⟩,
     ⟨(some 8), .load none (.t 7), none⟩,
     ⟨(some 9), .append 1 1 (.c (.slice none 0 (some 0) 0)) (.t 8), none⟩,
     ⟨(some 2), .mov (.t 9), none⟩])
  (.ret)))⟩
/-- purser/octet.Compact -/
def f_octet_Compact : Fn := ⟨14, [.tmp 2],
  .seq (.ops [⟨(some 2), .mov (.c (.int .i64 0)), none⟩])
  (.seq (.seq (.ops [⟨(some 4), .mov (.t 0), none⟩,
      ⟨(some 5), .bin .lss .no (.t 4) (.c (.int .u64 253)), none⟩])
   (.cond (.t 5)
    (.seq (.ops [⟨(some 2), .mov (.c (.int .i64 1)), none⟩])
     (.ret))
    (.skip)))
  (.seq (.seq (.ops [⟨(some 6), .mov (.t 0), none⟩,
      ⟨(some 7), .call k_octet_width [(.t 6)], none⟩,
      ⟨(some 3), .mov (.t 7), none⟩])
   (.block 0 (.seq (.ops [⟨(some 9), .mov (.t 3), none⟩,
       ⟨(some 10), .bin .leq .no (.t 9) (.c (.int .i64 2)), none⟩,
       ⟨(some 8), .mov (.t 10), none⟩])
    (.cond (.t 8)
     (.seq (.ops [⟨(some 2), .mov (.c (.int .i64 3)), none⟩])
      (.ret))
     (.seq (.ops [⟨(some 12), .mov (.t 3), none⟩,
         ⟨(some 13), .bin .leq .no (.t 12) (.c (.int .i64 4)), none⟩,
         ⟨(some 11), .mov (.t 13), none⟩])
      (.cond (.t 11)
       (.seq (.ops [⟨(some 2), .mov (.c (.int .i64 5)), none⟩])
        (.ret))
       (.skip)))))))
  (.seq (.ops [⟨(some 2), .mov (.c (.int .i64 9)), none⟩])
  (.ret))))⟩
/-- purser/purserref01.Size -/
def f_purserref01_Size : Fn := ⟨26, [.tmp 2],
  .seq (.ops [⟨(some 2), .mov (.c (.slice none 0 (some 0) 0)), none⟩])
  (.seq (.seq (.ops [⟨(some 7), .mov (.t 0), none⟩,
      ⟨(some 8), .bin .lss .no (.t 7) (.c (.int .u64 253)), none⟩])
   (.cond (.t 8)
    (.seq (.ops [⟨(some 9), .mov (.t 0), none⟩,
        ⟨(some 10), .conv .u8 (.t 9), none⟩,
        ⟨(some 11), .buildS [(.int .u8 0)] 1 1 [(0, 1, (.t 10))], none⟩,
        ⟨(some 2), .mov (.t 11), none⟩])
     (.ret))
    (.skip)))
  (.seq (.ops [⟨(some 3), .mov (.c (.int .u8 253)), none⟩])
  (.seq (.ops [⟨(some 4), .mov (.c (.int .i64 2)), none⟩])
  (.seq (.seq (.ops [⟨(some 12), .mov (.t 0), none⟩,
      ⟨(some 13), .bin .gtr .no (.t 12) (.c (.int .u64 65535)), none⟩])
   (.cond (.t 13)
    (.seq (.ops [⟨(some 3), .mov (.c (.int .u8 254)), none⟩])
     (.ops [⟨(some 4), .mov (.c (.int .i64 4)), none⟩]))
    (.skip)))
  (.seq (.seq (.ops [⟨(some 14), .mov (.t 0), none⟩,
      ⟨(some 15), .bin .gtr .no (.t 14) (.c (.int .u64 4294967295)), none⟩])
   (.cond (.t 15)
    (.seq (.ops [⟨(some 3), .mov (.c (.int .u8 255)), none⟩])
     (.ops [⟨(some 4), .mov (.c (.int .i64 8)), none⟩]))
    (.skip)))
  (.seq (.ops [⟨(some 17), .mov (.t 4), none⟩,
     ⟨(some 18), .mov (.t 0), none⟩,
     ⟨(some 19), .call k_purserref01_Fixed [(.t 17), (.t 18)], none⟩,
     ⟨(some 16), .mov (.t 19), none⟩,
     ⟨(some 20), .ext (.t 16) 0, none⟩,
     ⟨(some 21), .ext (.t 16) 1, none⟩,
     ⟨(some 5), .mov (.t 20), none⟩,
     ⟨(some 6), .mov (.t 21), none⟩])
  (.seq (.ops [⟨(some 22), .mov (.t 3), none⟩,
     ⟨(some 23), .buildS [(.int .u8 0)] 1 1 [(0, 1, (.t 22))], none⟩,
     ⟨(some 24), .mov (.t 5), none⟩,
     ⟨(some 25), .append 1 1 (.t 23) (.t 24), none⟩,
     ⟨(some 2), .mov (.t 25), none⟩])
  (.ret))))))))⟩
/-- purser/purserlaw01.alive -/
def f_purserlaw01_alive : Fn := ⟨31, [.tmp 0],
  .seq (.ops [⟨(some 0), .mov (.c (.bool false)), none⟩])
  (.seq (.ops [⟨(some 1), .alloc [(.slice none 0 (some 0) 0)], none⟩])
  (.seq (.ops [⟨(some 6), .call k_octet_Pen_Fixed [(.t 1), (.c (.int .i64 4)), (.c (.int .u64 258))], none⟩,
     ⟨(some 7), .call k_octet_Pen_Size [(.t 1), (.c (.int .u64 252))], none⟩,
     ⟨(some 8), .call k_octet_Pen_Size [(.t 1), (.c (.int .u64 253))], none⟩,
     ⟨(some 2), .mov (.t 6), none⟩,
     ⟨(some 3), .mov (.t 7), none⟩,
     ⟨(some 4), .mov (.t 8), none⟩])
  (.seq (.ops [⟨(some 9), .buildS [(.int .u8 0), (.int .u8 0)] 2 1 [(0, 1, (.c (.int .u8 97))), (1, 1, (.c (.int .u8 98)))], none⟩,
     ⟨(some 10), .mark (.t 9), none⟩,
     ⟨(some 11), .call k_octet_Pen_Bytes [(.t 1), (.t 10)], none⟩,
     ⟨(some 5), .mov (.t 11), none⟩])
  (.seq (.ops [⟨(some 12), .mov (.t 2), none⟩,
     ⟨(some 13), .bin .eql .no (.t 12) (.c (.int .i64 0)), none⟩,
     ⟨(some 14), .mov (.t 13), none⟩,
     ⟨(some 15), .mov (.t 3), (some (14, true))⟩,
     ⟨(some 16), .bin .eql .no (.t 15) (.c (.int .i64 0)), (some (14, true))⟩,
     ⟨(some 17), .pick (.t 14) (.t 16) (.c (.bool false)), none⟩,
     ⟨(some 18), .mov (.t 17), none⟩,
     ⟨(some 19), .mov (.t 4), (some (18, true))⟩,
     ⟨(some 20), .bin .eql .no (.t 19) (.c (.int .i64 0)), (some (18, true))⟩,
     ⟨(some 21), .pick (.t 18) (.t 20) (.c (.bool false)), none⟩,
     ⟨(some 22), .mov (.t 21), none⟩,
     ⟨(some 23), .mov (.t 5), (some (22, true))⟩,
     ⟨(some 24), .bin .eql .no (.t 23) (.c (.int .i64 0)), (some (22, true))⟩,
     ⟨(some 25), .pick (.t 22) (.t 24) (.c (.bool false)), none⟩,
     ⟨(some 26), .mov (.t 25), none⟩,
     ⟨(some 27), .call k_octet_Pen_All [(.t 1)], (some (26, true))⟩,
     ⟨(some 28), .b2s (.t 27), (some (26, true))⟩,
     ⟨(some 29), .bin .eql .no (.t 28) (.c (.str [2, 1, 0, 0, 252, 253, 253, 0, 2, 97, 98])), (some (26, true))⟩,
     ⟨(some 30), .pick (.t 26) (.t 29) (.c (.bool false)), none⟩,
     ⟨(some 0), .mov (.t 30), none⟩])
  (.ret)))))⟩
/-- purser/purserlaw01.put -/
def f_purserlaw01_put : Fn := ⟨36, [.tmp 4],
  .seq (.ops [⟨(some 3), .box (.t 1), none⟩,
     ⟨(some 4), .mov (.c (.bool false)), none⟩])
  (.seq (.seq (.ops [⟨(some 5), .fieldAddr 0 (.t 3), none⟩,
      ⟨(some 6), .load none (.t 5), none⟩])
   (.block 0 (.seq (.ops [⟨(some 8), .bin .eql .no (.t 6) (.c (.int .i64 0)), none⟩,
       ⟨(some 7), .mov (.t 8), none⟩])
    (.cond (.t 7)
     (.seq (.ops [⟨(some 9), .mov (.t 0), none⟩,
         ⟨(some 10), .fieldAddr 1 (.t 3), none⟩,
         ⟨(some 11), .load none (.t 10), none⟩,
         ⟨(some 12), .fieldAddr 2 (.t 3), none⟩,
         ⟨(some 13), .load none (.t 12), none⟩,
         ⟨(some 14), .call k_octet_Pen_Fixed [(.t 9), (.t 11), (.t 13)], none⟩,
         ⟨(some 15), .bin .eql .no (.t 14) (.c (.int .i64 0)), none⟩,
         ⟨(some 4), .mov (.t 15), none⟩])
      (.ret))
     (.seq (.ops [⟨(some 17), .bin .eql .no (.t 6) (.c (.int .i64 1)), none⟩,
         ⟨(some 16), .mov (.t 17), none⟩])
      (.cond (.t 16)
       (.seq (.ops [⟨(some 18), .mov (.t 0), none⟩,
           ⟨(some 19), .fieldAddr 2 (.t 3), none⟩,
           ⟨(some 20), .load none (.t 19), none⟩,
           ⟨(some 21), .call k_octet_Pen_Size [(.t 18), (.t 20)], none⟩,
           ⟨(some 22), .bin .eql .no (.t 21) (.c (.int .i64 0)), none⟩,
           ⟨(some 4), .mov (.t 22), none⟩])
        (.ret))
       (.seq (.ops [⟨(some 24), .bin .eql .no (.t 6) (.c (.int .i64 2)), none⟩,
           ⟨(some 23), .mov (.t 24), none⟩])
        (.cond (.t 23)
         (.seq (.ops [⟨(some 25), .mov (.t 0), none⟩,
             ⟨(some 26), .fieldAddr 3 (.t 3), none⟩,
             ⟨(some 27), .load none (.t 26), none⟩,
             ⟨(some 28), .call k_octet_Pen_Bytes [(.t 25), (.t 27)], none⟩,
             ⟨(some 29), .bin .eql .no (.t 28) (.c (.int .i64 0)), none⟩,
             ⟨(some 4), .mov (.t 29), none⟩])
          (.ret))
         (.skip)))))))))
  (.seq (.ops [⟨(some 30), .mov (.t 0), none⟩,
     ⟨(some 31), .fieldAddr 3 (.t 3), none⟩,
     ⟨(some 32), .load none (.t 31), none⟩,
     ⟨(some 33), .buildS [(.slice none 0 (some 0) 0)] 1 1 [(0, 1, (.t 32))], none⟩,
     ⟨(some 34), .call k_octet_Pen_Raw [(.t 30), (.t 33)], none⟩,
     ⟨(some 35), .bin .eql .no (.t 34) (.c (.int .i64 0)), none⟩,
     ⟨(some 4), .mov (.t 35), none⟩])
  (.ret)))⟩
/-- purser/octet.Look -/
def f_octet_Look : Fn := ⟨7, [.tmp 2],
  .seq (.ops [⟨(some 2), .mov (.c (.ptr none)), none⟩])
  (.seq (.ops [⟨(some 3), .mov (.t 0), none⟩,
     ⟨(some 4), .append 1 1 (.c (.slice none 0 (some 0) 0)) (.t 3), none⟩,
     ⟨(some 5), .build [(.slice none 0 (some 0) 0), (.int .i64 0), (.bool false)] [(0, 1, (.t 4)), (2, 1, (.c (.bool true)))], none⟩,
     ⟨(some 6), .box (.t 5), none⟩,
     ⟨(some 2), .mov (.t 6), none⟩])
  (.ret))⟩
/-- purser/purserlaw01.get -/
def f_purserlaw01_get : Fn := ⟨85, [.tmp 4],
  .seq (.ops [⟨(some 3), .box (.t 1), none⟩,
     ⟨(some 4), .mov (.c (.bool false)), none⟩])
  (.seq (.seq (.ops [⟨(some 13), .fieldAddr 0 (.t 3), none⟩,
      ⟨(some 14), .load none (.t 13), none⟩])
   (.block 0 (.seq (.ops [⟨(some 16), .bin .eql .no (.t 14) (.c (.int .i64 0)), none⟩,
       ⟨(some 15), .mov (.t 16), none⟩])
    (.cond (.t 15)
     (.seq (.ops [⟨(some 18), .mov (.t 0), none⟩,
         ⟨(some 19), .fieldAddr 1 (.t 3), none⟩,
         ⟨(some 20), .load none (.t 19), none⟩,
         ⟨(some 21), .call k_octet_Eye_Fixed [(.t 18), (.t 20)], none⟩,
         ⟨(some 17), .mov (.t 21), none⟩,
         ⟨(some 22), .ext (.t 17) 0, none⟩,
         ⟨(some 23), .ext (.t 17) 1, none⟩,
         ⟨(some 5), .mov (.t 22), none⟩,
         ⟨(some 6), .mov (.t 23), none⟩])
      (.seq (.ops [⟨(some 24), .mov (.t 6), none⟩,
         ⟨(some 25), .bin .eql .no (.t 24) (.c (.int .i64 0)), none⟩,
         ⟨(some 26), .mov (.t 25), none⟩,
         ⟨(some 27), .mov (.t 5), (some (26, true))⟩,
         ⟨(some 28), .fieldAddr 2 (.t 3), (some (26, true))⟩,
         ⟨(some 29), .load none (.t 28), (some (26, true))⟩,
         ⟨(some 30), .bin .eql .no (.t 27) (.t 29), (some (26, true))⟩,
         ⟨(some 31), .pick (.t 26) (.t 30) (.c (.bool false)), none⟩,
         ⟨(some 4), .mov (.t 31), none⟩])
      (.ret)))
     (.seq (.ops [⟨(some 33), .bin .eql .no (.t 14) (.c (.int .i64 1)), none⟩,
         ⟨(some 32), .mov (.t 33), none⟩])
      (.cond (.t 32)
       (.seq (.ops [⟨(some 35), .mov (.t 0), none⟩,
           ⟨(some 36), .call k_octet_Eye_Size [(.t 35)], none⟩,
           ⟨(some 34), .mov (.t 36), none⟩,
           ⟨(some 37), .ext (.t 34) 0, none⟩,
           ⟨(some 38), .ext (.t 34) 1, none⟩,
           ⟨(some 7), .mov (.t 37), none⟩,
           ⟨(some 8), .mov (.t 38), none⟩])
        (.seq (.ops [⟨(some 39), .mov (.t 8), none⟩,
           ⟨(some 40), .bin .eql .no (.t 39) (.c (.int .i64 0)), none⟩,
           ⟨(some 41), .mov (.t 40), none⟩,
           ⟨(some 42), .mov (.t 7), (some (41, true))⟩,
           ⟨(some 43), .fieldAddr 2 (.t 3), (some (41, true))⟩,
           ⟨(some 44), .load none (.t 43), (some (41, true))⟩,
           ⟨(some 45), .bin .eql .no (.t 42) (.t 44), (some (41, true))⟩,
           ⟨(some 46), .pick (.t 41) (.t 45) (.c (.bool false)), none⟩,
           ⟨(some 4), .mov (.t 46), none⟩])
        (.ret)))
       (.seq (.ops [⟨(some 48), .bin .eql .no (.t 14) (.c (.int .i64 2)), none⟩,
           ⟨(some 47), .mov (.t 48), none⟩])
        (.cond (.t 47)
         (.seq (.ops [⟨(some 50), .mov (.t 0), none⟩,
             ⟨(some 51), .fieldAddr 3 (.t 3), none⟩,
             ⟨(some 52), .load none (.t 51), none⟩,
             ⟨(some 53), .len false (.t 52), none⟩,
             ⟨(some 54), .call k_octet_Eye_Bytes [(.t 50), (.t 53)], none⟩,
             ⟨(some 49), .mov (.t 54), none⟩,
             ⟨(some 55), .ext (.t 49) 0, none⟩,
             ⟨(some 56), .ext (.t 49) 1, none⟩,
             ⟨(some 9), .mov (.t 55), none⟩,
             ⟨(some 10), .mov (.t 56), none⟩])
          (.seq (.ops [⟨(some 57), .mov (.t 10), none⟩,
             ⟨(some 58), .bin .eql .no (.t 57) (.c (.int .i64 0)), none⟩,
             ⟨(some 59), .mov (.t 58), none⟩,
             ⟨(some 60), .mov (.t 9), (some (59, true))⟩,
             ⟨(some 61), .b2s (.t 60), (some (59, true))⟩,
             ⟨(some 62), .fieldAddr 3 (.t 3), (some (59, true))⟩,
             ⟨(some 63), .load none (.t 62), (some (59, true))⟩,
             ⟨(some 64), .b2s (.t 63), (some (59, true))⟩,
             ⟨(some 65), .bin .eql .no (.t 61) (.t 64), (some (59, true))⟩,
             ⟨(some 66), .pick (.t 59) (.t 65) (.c (.bool false)), none⟩,
             ⟨(some 4), .mov (.t 66), none⟩])
          (.ret)))
         (.skip)))))))))
  (.seq (.ops [⟨(some 68), .mov (.t 0), none⟩,
     ⟨(some 69), .fieldAddr 3 (.t 3), none⟩,
     ⟨(some 70), .load none (.t 69), none⟩,
     ⟨(some 71), .len false (.t 70), none⟩,
     ⟨(some 72), .call k_octet_Eye_Raw [(.t 68), (.t 71)], none⟩,
     ⟨(some 67), .mov (.t 72), none⟩,
     ⟨(some 73), .ext (.t 67) 0, none⟩,
     ⟨(some 74), .ext (.t 67) 1, none⟩,
     ⟨(some 11), .mov (.t 73), none⟩,
     ⟨(some 12), .mov (.t 74), none⟩])
  (.seq (.ops [⟨(some 75), .mov (.t 12), none⟩,
     ⟨(some 76), .bin .eql .no (.t 75) (.c (.int .i64 0)), none⟩,
     ⟨(some 77), .mov (.t 76), none⟩,
     ⟨(some 78), .mov (.t 11), (some (77, true))⟩,
     ⟨(some 79), .b2s (.t 78), (some (77, true))⟩,
     ⟨(some 80), .fieldAddr 3 (.t 3), (some (77, true))⟩,
     ⟨(some 81), .load none (.t 80), (some (77, true))⟩,
     ⟨(some 82), .b2s (.t 81), (some (77, true))⟩,
     ⟨(some 83), .bin .eql .no (.t 79) (.t 82), (some (77, true))⟩,
     ⟨(some 84), .pick (.t 77) (.t 83) (.c (.bool false)), none⟩,
     ⟨(some 4), .mov (.t 84), none⟩])
  (.ret))))⟩
/-- (*purser/octet.Eye).End -/
def f_octet_Eye_End : Fn := ⟨9, [.tmp 2],
  .seq (.ops [⟨(some 2), .mov (.c (.int .i64 0)), none⟩])
  (.seq (.seq (.ops [⟨(some 3), .mov (.t 0), none⟩,
      ⟨(some 4), .call k_octet_Eye_looks [(.t 3)], none⟩,
      ⟨(some 5), .un .not (.t 4), none⟩])
   (.cond (.t 5)
    (.seq (.ops [⟨(some 2), .mov (.c (.int .i64 1)), none⟩])
     (.ret))
    (.skip)))
  (.seq (.seq (.ops [⟨(some 6), .mov (.t 0), none⟩,
      ⟨(some 7), .call k_octet_Eye_Left [(.t 6)], none⟩,
      ⟨(some 8), .bin .gtr .no (.t 7) (.c (.int .i64 0)), none⟩])
   (.cond (.t 8)
    (.seq (.ops [⟨(some 2), .mov (.c (.int .i64 10)), none⟩])
     (.ret))
    (.skip)))
  (.seq (.ops [⟨(some 2), .mov (.c (.int .i64 0)), none⟩])
  (.ret))))⟩
def L_purserref06_Great_0 : C := .seq (.seq (.ops [⟨(some 15), .mov (.t 3), none⟩,
         ⟨(some 16), .fieldAddr 1 (.t 1), none⟩,
         ⟨(some 17), .load none (.t 16), none⟩,
         ⟨(some 18), .len false (.t 17), none⟩,
         ⟨(some 19), .bin .lss .no (.t 15) (.t 18), none⟩])
      (.cond (.t 19)
       (.skip)
       (.exit 0)))
     (.seq (.block 1 (.seq (.ops [⟨(some 22), .fieldAddr 1 (.t 1), none⟩,
          ⟨(some 23), .load none (.t 22), none⟩,
          ⟨(some 24), .mov (.t 3), none⟩,
          ⟨(some 25), .idxAddrS 35 (.t 23) (.t 24), none⟩,
          ⟨(some 26), .fieldAddr 33 (.t 25), none⟩,
          ⟨(some 27), .load none (.t 26), none⟩,
          ⟨(some 28), .len false (.t 27), none⟩,
          ⟨(some 29), .bin .gtr .no (.t 28) (.c (.int .i64 2100)), none⟩])
       (.cond (.t 29)
        (.seq (.ops [⟨(some 2), .mov (.c (.int .i64 1)), none⟩])
         (.ret))
        (.skip))))
     (.ops [⟨(some 20), .mov (.t 3), none⟩,
       ⟨(some 21), .bin .add .no (.t 20) (.c (.int .i64 1)), none⟩,
       ⟨(some 3), .mov (.t 21), none⟩]))
def L_purserref06_Great_1 : C := .seq (.seq (.ops [⟨(some 30), .mov (.t 4), none⟩,
         ⟨(some 31), .fieldAddr 2 (.t 1), none⟩,
         ⟨(some 32), .load none (.t 31), none⟩,
         ⟨(some 33), .len false (.t 32), none⟩,
         ⟨(some 34), .bin .lss .no (.t 30) (.t 33), none⟩])
      (.cond (.t 34)
       (.skip)
       (.exit 2)))
     (.seq (.block 3 (.seq (.ops [⟨(some 37), .fieldAddr 2 (.t 1), none⟩,
          ⟨(some 38), .load none (.t 37), none⟩,
          ⟨(some 39), .mov (.t 4), none⟩,
          ⟨(some 40), .idxAddrS 2 (.t 38) (.t 39), none⟩,
          ⟨(some 41), .fieldAddr 1 (.t 40), none⟩,
          ⟨(some 42), .load none (.t 41), none⟩,
          ⟨(some 43), .len false (.t 42), none⟩,
          ⟨(some 44), .bin .gtr .no (.t 43) (.c (.int .i64 2100)), none⟩])
       (.cond (.t 44)
        (.seq (.ops [⟨(some 2), .mov (.c (.int .i64 1)), none⟩])
         (.ret))
        (.skip))))
     (.ops [⟨(some 35), .mov (.t 4), none⟩,
       ⟨(some 36), .bin .add .no (.t 35) (.c (.int .i64 1)), none⟩,
       ⟨(some 4), .mov (.t 36), none⟩]))
def R_purserref06_Great_0 : C := .seq (.ops [⟨(some 2), .mov (.c (.int .i64 0)), none⟩])
  (.ret)
def R_purserref06_Great_1 : C := .seq (.seq (.ops [⟨(some 4), .mov (.c (.int .i64 0)), none⟩])
   (.block 2 (.loop (L_purserref06_Great_1))))
  (R_purserref06_Great_0)
/-- purser/purserref06.Great -/
def f_purserref06_Great : Fn := ⟨45, [.tmp 2],
  .seq (.ops [⟨(some 1), .box (.t 0), none⟩,
     ⟨(some 2), .mov (.c (.int .i64 0)), none⟩])
  (.seq (.seq (.ops [⟨(some 5), .fieldAddr 1 (.t 1), none⟩,
      ⟨(some 6), .load none (.t 5), none⟩,
      ⟨(some 7), .len false (.t 6), none⟩,
      ⟨(some 8), .bin .gtr .no (.t 7) (.c (.int .i64 60)), none⟩,
      ⟨(some 9), .mov (.t 8), none⟩,
      ⟨(some 10), .fieldAddr 2 (.t 1), (some (9, false))⟩,
      ⟨(some 11), .load none (.t 10), (some (9, false))⟩,
      ⟨(some 12), .len false (.t 11), (some (9, false))⟩,
      ⟨(some 13), .bin .gtr .no (.t 12) (.c (.int .i64 60)), (some (9, false))⟩,
      ⟨(some 14), .pick (.t 9) (.c (.bool true)) (.t 13), none⟩])
   (.cond (.t 14)
    (.seq (.ops [⟨(some 2), .mov (.c (.int .i64 1)), none⟩])
     (.ret))
    (.skip)))
  (.seq (.seq (.ops [⟨(some 3), .mov (.c (.int .i64 0)), none⟩])
   (.block 0 (.loop (L_purserref06_Great_0))))
  (R_purserref06_Great_1)))⟩
def L_tx_Encode_0 : C := .seq (.ops [⟨(some 25), .bin .lss .no (.t 24) (.t 23), none⟩])
     (.seq (.cond (.t 25)
       (.skip)
       (.exit 0))
     (.seq (.block 1 (.seq (.ops [⟨(some 26), .idxAddrS 35 (.t 22) (.t 24), none⟩,
          ⟨(some 27), .load (some 35) (.t 26), none⟩,
          ⟨(some 6), .alloc [(.int .u8 0), (.int .u8 0), (.int .u8 0), (.int .u8 0), (.int .u8 0), (.int .u8 0), (.int .u8 0), (.int .u8 0), (.int .u8 0), (.int .u8 0), (.int .u8 0), (.int .u8 0), (.int .u8 0), (.int .u8 0), (.int .u8 0), (.int .u8 0), (.int .u8 0), (.int .u8 0), (.int .u8 0), (.int .u8 0), (.int .u8 0), (.int .u8 0), (.int .u8 0), (.int .u8 0), (.int .u8 0), (.int .u8 0), (.int .u8 0), (.int .u8 0), (.int .u8 0), (.int .u8 0), (.int .u8 0), (.int .u8 0), (.int .u32 0), (.slice none 0 (some 0) 0), (.int .u32 0)], none⟩,
          ⟨none, .store 35 (.t 6) (.t 27), none⟩])
       (.seq (.ops [⟨(some 28), .fieldAddr 0 (.t 6), none⟩,
          ⟨(some 29), .fieldAddr 0 (.t 28), none⟩,
          ⟨(some 30), .slcA 32 1 (.t 29) none none none, none⟩,
          ⟨(some 31), .buildS [(.slice none 0 (some 0) 0)] 1 1 [(0, 1, (.t 30))], none⟩,
          ⟨(some 32), .call k_octet_Pen_Raw [(.t 4), (.t 31)], none⟩])
       (.seq (.ops [⟨(some 33), .fieldAddr 0 (.t 6), none⟩,
          ⟨(some 34), .fieldAddr 32 (.t 33), none⟩,
          ⟨(some 35), .load none (.t 34), none⟩,
          ⟨(some 36), .conv .u64 (.t 35), none⟩,
          ⟨(some 37), .call k_octet_Pen_Fixed [(.t 4), (.c (.int .i64 4)), (.t 36)], none⟩])
       (.seq (.ops [⟨(some 38), .fieldAddr 33 (.t 6), none⟩,
          ⟨(some 39), .load none (.t 38), none⟩,
          ⟨(some 40), .call k_octet_Pen_Bytes [(.t 4), (.t 39)], none⟩])
       (.ops [⟨(some 41), .fieldAddr 34 (.t 6), none⟩,
         ⟨(some 42), .load none (.t 41), none⟩,
         ⟨(some 43), .conv .u64 (.t 42), none⟩,
         ⟨(some 44), .call k_octet_Pen_Fixed [(.t 4), (.c (.int .i64 4)), (.t 43)], none⟩]))))))
     (.ops [⟨(some 45), .bin .add .no (.t 24) (.c (.int .i64 1)), none⟩,
       ⟨(some 24), .mov (.t 45), none⟩])))
def L_tx_Encode_1 : C := .seq (.ops [⟨(some 55), .bin .lss .no (.t 54) (.t 53), none⟩])
     (.seq (.cond (.t 55)
       (.skip)
       (.exit 2))
     (.seq (.block 3 (.seq (.ops [⟨(some 56), .idxAddrS 2 (.t 52) (.t 54), none⟩,
          ⟨(some 57), .load (some 2) (.t 56), none⟩,
          ⟨(some 8), .alloc [(.int .i64 0), (.slice none 0 (some 0) 0)], none⟩,
          ⟨none, .store 2 (.t 8) (.t 57), none⟩])
       (.seq (.ops [⟨(some 58), .fieldAddr 0 (.t 8), none⟩,
          ⟨(some 59), .load none (.t 58), none⟩,
          ⟨(some 60), .conv .u64 (.t 59), none⟩,
          ⟨(some 61), .call k_octet_Pen_Fixed [(.t 4), (.c (.int .i64 8)), (.t 60)], none⟩])
       (.ops [⟨(some 62), .fieldAddr 1 (.t 8), none⟩,
         ⟨(some 63), .load none (.t 62), none⟩,
         ⟨(some 64), .call k_octet_Pen_Bytes [(.t 4), (.t 63)], none⟩]))))
     (.ops [⟨(some 65), .bin .add .no (.t 54) (.c (.int .i64 1)), none⟩,
       ⟨(some 54), .mov (.t 65), none⟩])))
def R_tx_Encode_0 : C := .seq (.ops [⟨(some 66), .fieldAddr 3 (.t 1), none⟩,
     ⟨(some 67), .load none (.t 66), none⟩,
     ⟨(some 68), .conv .u64 (.t 67), none⟩,
     ⟨(some 69), .call k_octet_Pen_Fixed [(.t 4), (.c (.int .i64 4)), (.t 68)], none⟩])
  (.seq (.ops [⟨(some 70), .call k_octet_Pen_All [(.t 4)], none⟩,
     ⟨(some 2), .mov (.t 70), none⟩,
     ⟨(some 3), .mov (.c (.int .i64 0)), none⟩])
  (.ret))
def R_tx_Encode_1 : C := .seq (.ops [⟨(some 46), .fieldAddr 2 (.t 1), none⟩,
     ⟨(some 47), .load none (.t 46), none⟩,
     ⟨(some 48), .len false (.t 47), none⟩,
     ⟨(some 49), .conv .u64 (.t 48), none⟩,
     ⟨(some 50), .call k_octet_Pen_Size [(.t 4), (.t 49)], none⟩])
  (.seq (.seq (.ops [⟨(some 51), .fieldAddr 2 (.t 1), none⟩,
      ⟨(some 52), .load none (.t 51), none⟩,
      ⟨(some 53), .len false (.t 52), none⟩,
      ⟨(some 54), .mov (.c (.int .i64 0)), none⟩])
   (.block 2 (.loop (L_tx_Encode_1))))
  (R_tx_Encode_0))
/-- purser/tx.Encode -/
def f_tx_Encode : Fn := ⟨71, [.tmp 2, .tmp 3],
  .seq (.ops [⟨(some 1), .box (.t 0), none⟩,
     ⟨(some 2), .mov (.c (.slice none 0 (some 0) 0)), none⟩,
     ⟨(some 3), .mov (.c (.int .i64 0)), none⟩])
  (.seq (.seq (.ops [⟨(some 9), .load (some 4) (.t 1), none⟩,
      ⟨(some 10), .call k_tx_Check [(.t 9)], none⟩,
      ⟨(some 11), .bin .neq .no (.t 10) (.c (.int .i64 0)), none⟩])
   (.cond (.t 11)
    (.seq (.ops [⟨(some 2), .mov (.c (.slice none 0 (some 0) 0)), none⟩,
        ⟨(some 3), .mov (.c (.int .i64 60)), none⟩])
     (.ret))
    (.skip)))
  (.seq (.ops [⟨(some 4), .alloc [(.slice none 0 (some 0) 0)], none⟩])
  (.seq (.ops [⟨(some 12), .fieldAddr 0 (.t 1), none⟩,
     ⟨(some 13), .load none (.t 12), none⟩,
     ⟨(some 14), .conv .u64 (.t 13), none⟩,
     ⟨(some 15), .call k_octet_Pen_Fixed [(.t 4), (.c (.int .i64 4)), (.t 14)], none⟩])
  (.seq (.ops [⟨(some 16), .fieldAddr 1 (.t 1), none⟩,
     ⟨(some 17), .load none (.t 16), none⟩,
     ⟨(some 18), .len false (.t 17), none⟩,
     ⟨(some 19), .conv .u64 (.t 18), none⟩,
     ⟨(some 20), .call k_octet_Pen_Size [(.t 4), (.t 19)], none⟩])
  (.seq (.seq (.ops [⟨(some 21), .fieldAddr 1 (.t 1), none⟩,
      ⟨(some 22), .load none (.t 21), none⟩,
      ⟨(some 23), .len false (.t 22), none⟩,
      ⟨(some 24), .mov (.c (.int .i64 0)), none⟩])
   (.block 0 (.loop (L_tx_Encode_0))))
  (R_tx_Encode_1))))))⟩
/-- purser/purserlaw06.alive -/
def f_purserlaw06_alive : Fn := ⟨22, [.tmp 0],
  .seq (.ops [⟨(some 0), .mov (.c (.bool false)), none⟩])
  (.seq (.ops [⟨(some 4), .call k_purserlaw06_some [], none⟩,
     ⟨(some 5), .call k_tx_Encode [(.t 4)], none⟩,
     ⟨(some 3), .mov (.t 5), none⟩,
     ⟨(some 6), .ext (.t 3) 0, none⟩,
     ⟨(some 7), .ext (.t 3) 1, none⟩,
     ⟨(some 1), .mov (.t 6), none⟩,
     ⟨(some 2), .mov (.t 7), none⟩])
  (.seq (.dops 0 [] [(⟨(some 8), .mov (.t 2), none⟩, .L),
     (⟨(some 9), .bin .eql .no (.t 8) (.c (.int .i64 0)), none⟩, .L),
     (⟨(some 10), .mov (.t 9), none⟩, .L),
     (⟨(some 11), .mov (.t 1), (some (10, true))⟩, .L),
     (⟨(some 12), .b2s (.t 11), (some (10, true))⟩, .R [] [(2, [])]),
     (⟨(some 13), .call k_strings_Repeat [(.c (.str [0])), (.c (.int .i64 32))], (some (10, true))⟩, .B []),
     (⟨(some 14), .bin .add .no (.c (.str [1, 0, 0, 0, 1])) (.t 13), (some (10, true))⟩, .L),
     (⟨(some 15), .bin .add .no (.t 14) (.c (.str [255, 255, 255, 255, 1, 42, 7, 0, 0, 0, 1, 5, 0, 0, 0, 0, 0, 0, 0, 1, 106, 0, 0, 0, 0])), (some (10, true))⟩, .L),
     (⟨(some 16), .bin .eql .no (.t 12) (.t 15), (some (10, true))⟩, .L),
     (⟨(some 17), .pick (.t 10) (.t 16) (.c (.bool false)), none⟩, .L),
     (⟨(some 18), .mov (.t 17), none⟩, .L),
     (⟨(some 19), .call k_purserlaw06_some [], (some (18, true))⟩, .B []),
     (⟨(some 20), .call k_tx_Coinbase [(.t 19)], (some (18, true))⟩, .B []),
     (⟨(some 21), .pick (.t 18) (.t 20) (.c (.bool false)), none⟩, .L),
     (⟨(some 0), .mov (.t 21), none⟩, .L)])
  (.ret)))⟩
/-- purser/purserlaw06.size -/
def f_purserlaw06_size : Fn := ⟨5, [.tmp 2],
  .seq (.ops [⟨(some 2), .mov (.c (.int .i64 0)), none⟩])
  (.seq (.seq (.ops [⟨(some 3), .mov (.t 0), none⟩,
      ⟨(some 4), .bin .lss .no (.t 3) (.c (.int .i64 253)), none⟩])
   (.cond (.t 4)
    (.seq (.ops [⟨(some 2), .mov (.c (.int .i64 1)), none⟩])
     (.ret))
    (.skip)))
  (.seq (.ops [⟨(some 2), .mov (.c (.int .i64 3)), none⟩])
  (.ret)))⟩
/-- purser/purserref01.Twin -/
def f_purserref01_Twin : Fn := ⟨7, [.tmp 2],
  .seq (.ops [⟨(some 2), .mov (.c (.slice none 0 (some 0) 0)), none⟩])
  (.seq (.ops [⟨(some 3), .mov (.c (.slice none 0 (some 0) 0)), none⟩])
  (.seq (.ops [⟨(some 4), .mov (.t 3), none⟩,
     ⟨(some 5), .mov (.t 0), none⟩,
     ⟨(some 6), .append 1 1 (.t 4) (.t 5), none⟩,
     ⟨(some 2), .mov (.t 6), none⟩])
  (.ret)))⟩
/-- (*purser/octet.Pen).Fixed -/
def f_octet_Pen_Fixed : Fn := ⟨20, [.tmp 6],
  .seq (.ops [⟨(some 6), .mov (.c (.int .i64 0)), none⟩])
  (.seq (.seq (.ops [⟨(some 7), .mov (.t 0), none⟩,
      ⟨(some 8), .bin .eql (.ref .p) (.t 7) (.c (.ptr none)), none⟩])
   (.cond (.t 8)
    (.seq (.ops [⟨(some 6), .mov (.c (.int .i64 1)), none⟩])
     (.ret))
    (.skip)))
  (.seq (.seq (.ops [⟨(some 9), .mov (.t 1), none⟩,
      ⟨(some 10), .call k_octet_sized [(.t 9)], none⟩,
      ⟨(some 11), .un .not (.t 10), none⟩])
   (.cond (.t 11)
    (.seq (.ops [⟨(some 6), .mov (.c (.int .i64 2)), none⟩])
     (.ret))
    (.skip)))
  (.seq (.seq (.ops [⟨(some 12), .mov (.t 2), none⟩,
      ⟨(some 13), .call k_octet_width [(.t 12)], none⟩,
      ⟨(some 14), .mov (.t 1), none⟩,
      ⟨(some 15), .bin .gtr .no (.t 13) (.t 14), none⟩])
   (.cond (.t 15)
    (.seq (.ops [⟨(some 6), .mov (.c (.int .i64 10)), none⟩])
     (.ret))
    (.skip)))
  (.seq (.ops [⟨(some 16), .mov (.t 0), none⟩,
     ⟨(some 17), .mov (.t 1), none⟩,
     ⟨(some 18), .mov (.t 2), none⟩,
     ⟨(some 19), .call k_octet_Pen_put [(.t 16), (.t 17), (.t 18)], none⟩])
  (.seq (.ops [⟨(some 6), .mov (.c (.int .i64 0)), none⟩])
  (.ret))))))⟩
def L_purserref01_Fixed_0 : C := .seq (.seq (.ops [⟨(some 30), .mov (.t 7), none⟩,
         ⟨(some 31), .mov (.t 0), none⟩,
         ⟨(some 32), .bin .lss .no (.t 30) (.t 31), none⟩])
      (.cond (.t 32)
       (.skip)
       (.exit 0)))
     (.seq (.block 1 (.ops [⟨(some 35), .mov (.t 6), none⟩,
         ⟨(some 36), .mov (.t 1), none⟩,
         ⟨(some 37), .mov (.t 7), none⟩,
         ⟨(some 38), .call k_purserref01_power [(.t 37)], none⟩,
         ⟨(some 39), .bin .quo .no (.t 36) (.t 38), none⟩,
         ⟨(some 40), .bin .rem .no (.t 39) (.c (.int .u64 256)), none⟩,
         ⟨(some 41), .conv .u8 (.t 40), none⟩,
         ⟨(some 42), .buildS [(.int .u8 0)] 1 1 [(0, 1, (.t 41))], none⟩,
         ⟨(some 43), .append 1 1 (.t 35) (.t 42), none⟩,
         ⟨(some 6), .mov (.t 43), none⟩]))
     (.ops [⟨(some 33), .mov (.t 7), none⟩,
       ⟨(some 34), .bin .add .no (.t 33) (.c (.int .i64 1)), none⟩,
       ⟨(some 7), .mov (.t 34), none⟩]))
def R_purserref01_Fixed_0 : C := .seq (.ops [⟨(some 44), .mov (.t 6), none⟩,
     ⟨(some 4), .mov (.t 44), none⟩,
     ⟨(some 5), .mov (.c (.int .i64 0)), none⟩])
  (.ret)
/-- purser/purserref01.Fixed -/
def f_purserref01_Fixed : Fn := ⟨45, [.tmp 4, .tmp 5],
  .seq (.ops [⟨(some 4), .mov (.c (.slice none 0 (some 0) 0)), none⟩,
     ⟨(some 5), .mov (.c (.int .i64 0)), none⟩])
  (.seq (.seq (.ops [⟨(some 8), .mov (.t 0), none⟩,
      ⟨(some 9), .bin .neq .no (.t 8) (.c (.int .i64 1)), none⟩,
      ⟨(some 10), .mov (.t 9), none⟩,
      ⟨(some 11), .mov (.t 0), (some (10, true))⟩,
      ⟨(some 12), .bin .neq .no (.t 11) (.c (.int .i64 2)), (some (10, true))⟩,
      ⟨(some 13), .pick (.t 10) (.t 12) (.c (.bool false)), none⟩,
      ⟨(some 14), .mov (.t 13), none⟩,
      ⟨(some 15), .mov (.t 0), (some (14, true))⟩,
      ⟨(some 16), .bin .neq .no (.t 15) (.c (.int .i64 4)), (some (14, true))⟩,
      ⟨(some 17), .pick (.t 14) (.t 16) (.c (.bool false)), none⟩,
      ⟨(some 18), .mov (.t 17), none⟩,
      ⟨(some 19), .mov (.t 0), (some (18, true))⟩,
      ⟨(some 20), .bin .neq .no (.t 19) (.c (.int .i64 8)), (some (18, true))⟩,
      ⟨(some 21), .pick (.t 18) (.t 20) (.c (.bool false)), none⟩])
   (.cond (.t 21)
    (.seq (.ops [⟨(some 4), .mov (.c (.slice none 0 (some 0) 0)), none⟩,
        ⟨(some 5), .mov (.c (.int .i64 2)), none⟩])
     (.ret))
    (.skip)))
  (.seq (.seq (.ops [⟨(some 22), .mov (.t 0), none⟩,
      ⟨(some 23), .bin .lss .no (.t 22) (.c (.int .i64 8)), none⟩,
      ⟨(some 24), .mov (.t 23), none⟩,
      ⟨(some 25), .mov (.t 1), (some (24, true))⟩,
      ⟨(some 26), .mov (.t 0), (some (24, true))⟩,
      ⟨(some 27), .call k_purserref01_power [(.t 26)], (some (24, true))⟩,
      ⟨(some 28), .bin .geq .no (.t 25) (.t 27), (some (24, true))⟩,
      ⟨(some 29), .pick (.t 24) (.t 28) (.c (.bool false)), none⟩])
   (.cond (.t 29)
    (.seq (.ops [⟨(some 4), .mov (.c (.slice none 0 (some 0) 0)), none⟩,
        ⟨(some 5), .mov (.c (.int .i64 10)), none⟩])
     (.ret))
    (.skip)))
  (.seq (.ops [⟨(some 6), .mov (.c (.slice none 0 (some 0) 0)), none⟩])
  (.seq (.seq (.ops [⟨(some 7), .mov (.c (.int .i64 0)), none⟩])
   (.block 0 (.loop (L_purserref01_Fixed_0))))
  (R_purserref01_Fixed_0)))))⟩
/-- (*purser/octet.Pen).Size -/
def f_octet_Pen_Size : Fn := ⟨25, [.tmp 4],
  .seq (.ops [⟨(some 4), .mov (.c (.int .i64 0)), none⟩])
  (.seq (.seq (.ops [⟨(some 6), .mov (.t 0), none⟩,
      ⟨(some 7), .bin .eql (.ref .p) (.t 6) (.c (.ptr none)), none⟩])
   (.cond (.t 7)
    (.seq (.ops [⟨(some 4), .mov (.c (.int .i64 1)), none⟩])
     (.ret))
    (.skip)))
  (.seq (.ops [⟨(some 8), .mov (.t 1), none⟩,
     ⟨(some 9), .call k_octet_Compact [(.t 8)], none⟩,
     ⟨(some 10), .bin .sub .no (.t 9) (.c (.int .i64 1)), none⟩,
     ⟨(some 5), .mov (.t 10), none⟩])
  (.seq (.seq (.ops [⟨(some 11), .mov (.t 5), none⟩,
      ⟨(some 12), .bin .eql .no (.t 11) (.c (.int .i64 0)), none⟩])
   (.cond (.t 12)
    (.seq (.ops [⟨(some 13), .mov (.t 0), none⟩,
        ⟨(some 14), .mov (.t 1), none⟩,
        ⟨(some 15), .call k_octet_Pen_put [(.t 13), (.c (.int .i64 1)), (.t 14)], none⟩])
     (.seq (.ops [⟨(some 4), .mov (.c (.int .i64 0)), none⟩])
     (.ret)))
    (.skip)))
  (.seq (.ops [⟨(some 16), .mov (.t 0), none⟩,
     ⟨(some 17), .mov (.t 5), none⟩,
     ⟨(some 18), .call k_octet_mark [(.t 17)], none⟩,
     ⟨(some 19), .conv .u64 (.t 18), none⟩,
     ⟨(some 20), .call k_octet_Pen_put [(.t 16), (.c (.int .i64 1)), (.t 19)], none⟩])
  (.seq (.ops [⟨(some 21), .mov (.t 0), none⟩,
     ⟨(some 22), .mov (.t 5), none⟩,
     ⟨(some 23), .mov (.t 1), none⟩,
     ⟨(some 24), .call k_octet_Pen_put [(.t 21), (.t 22), (.t 23)], none⟩])
  (.seq (.ops [⟨(some 4), .mov (.c (.int .i64 0)), none⟩])
  (.ret)))))))⟩
/-- (*purser/octet.Pen).Bytes -/
def f_octet_Pen_Bytes : Fn := ⟨18, [.tmp 4],
  .seq (.ops [⟨(some 4), .mov (.c (.int .i64 0)), none⟩])
  (.seq (.seq (.ops [⟨(some 6), .mov (.t 0), none⟩,
      ⟨(some 7), .mov (.t 1), none⟩,
      ⟨(some 8), .len false (.t 7), none⟩,
      ⟨(some 9), .conv .u64 (.t 8), none⟩,
      ⟨(some 10), .call k_octet_Pen_Size [(.t 6), (.t 9)], none⟩,
      ⟨(some 5), .mov (.t 10), none⟩])
   (.seq (.ops [⟨(some 11), .mov (.t 5), none⟩,
      ⟨(some 12), .bin .neq .no (.t 11) (.c (.int .i64 0)), none⟩])
   (.cond (.t 12)
    (.seq (.ops [⟨(some 13), .mov (.t 5), none⟩,
        ⟨(some 4), .mov (.t 13), none⟩])
     (.ret))
    (.skip))))
  (.seq (.ops [⟨(some 14), .mov (.t 0), none⟩,
     ⟨(some 15), .mov (.t 1), none⟩,
     ⟨(some 16), .buildS [(.slice none 0 (some 0) 0)] 1 1 [(0, 1, (.t 15))], none⟩,
     ⟨(some 17), .call k_octet_Pen_Raw [(.t 14), (.t 16)], none⟩,
     ⟨(some 4), .mov (.t 17), none⟩])
  (.ret)))⟩
/-- purser/purserref01.Bytes -/
def f_purserref01_Bytes : Fn := ⟨9, [.tmp 2],
  .seq (.ops [⟨(some 2), .mov (.c (.slice none 0 (some 0) 0)), none⟩])
  (.seq (.ops [⟨(some 3), .mov (.t 0), none⟩,
     ⟨(some 4), .len false (.t 3), none⟩,
     ⟨(some 5), .conv .u64 (.t 4), none⟩,
     ⟨(some 6), .call k_purserref01_Size [(.t 5)], none⟩,
     ⟨(some 7), .mov (.t 0), none⟩,
     ⟨(some 8), .append 1 1 (.t 6) (.t 7), none⟩,
     ⟨(some 2), .mov (.t 8), none⟩])
  (.ret))⟩
def L_octet_Pen_Raw_0 : C := .seq (.ops [⟨(some 12), .bin .lss .no (.t 11) (.t 10), none⟩])
     (.seq (.cond (.t 12)
       (.skip)
       (.exit 0))
     (.seq (.block 1 (.seq (.ops [⟨(some 13), .idxAddrS 1 (.t 9) (.t 11), none⟩,
          ⟨(some 14), .load none (.t 13), none⟩,
          ⟨(some 6), .mov (.t 14), none⟩])
       (.ops [⟨(some 15), .mov (.t 0), none⟩,
         ⟨(some 16), .mov (.t 0), none⟩,
         ⟨(some 17), .nilchk (.t 16), none⟩,
         ⟨(some 18), .fieldAddr 0 (.t 17), none⟩,
         ⟨(some 19), .load none (.t 18), none⟩,
         ⟨(some 20), .mov (.t 6), none⟩,
         ⟨(some 21), .append 1 1 (.t 19) (.t 20), none⟩,
         ⟨(some 22), .nilchk (.t 15), none⟩,
         ⟨(some 23), .fieldAddr 0 (.t 22), none⟩,
         ⟨none, .store 1 (.t 23) (.t 21), none⟩])))
     (.ops [⟨(some 24), .bin .add .no (.t 11) (.c (.int .i64 1)), none⟩,
       ⟨(some 11), .mov (.t 24), none⟩])))
def R_octet_Pen_Raw_0 : C := .seq (.ops [⟨(some 4), .mov (.c (.int .i64 0)), none⟩])
  (.ret)
/-- (*purser/octet.Pen).Raw -/
def f_octet_Pen_Raw : Fn := ⟨25, [.tmp 4],
  .seq (.ops [⟨(some 4), .mov (.c (.int .i64 0)), none⟩])
  (.seq (.seq (.ops [⟨(some 7), .mov (.t 0), none⟩,
      ⟨(some 8), .bin .eql (.ref .p) (.t 7) (.c (.ptr none)), none⟩])
   (.cond (.t 8)
    (.seq (.ops [⟨(some 4), .mov (.c (.int .i64 1)), none⟩])
     (.ret))
    (.skip)))
  (.seq (.seq (.ops [⟨(some 9), .mov (.t 1), none⟩,
      ⟨(some 10), .len false (.t 9), none⟩,
      ⟨(some 11), .mov (.c (.int .i64 0)), none⟩])
   (.block 0 (.loop (L_octet_Pen_Raw_0))))
  (R_octet_Pen_Raw_0)))⟩
def A_octet_width_0 : C := .seq (.ops [⟨(some 4), .mov (.t 8), none⟩])
      (.ops [⟨(some 5), .mov (.t 9), none⟩])
theorem u_A_octet_width_0 (Q : Orc) (N n : Nat) (r : Option Nat) (st : St) : evC Q N n r A_octet_width_0 st = evC Q N n r (.seq (.ops [⟨(some 4), .mov (.t 8), none⟩])
      (.ops [⟨(some 5), .mov (.t 9), none⟩])) st := _root_.id rfl
def B_octet_width_0 : C := .block 1 (.seq (.ops [⟨(some 10), .mov (.t 5), none⟩,
          ⟨(some 11), .bin .neq .no (.t 10) (.c (.int .u8 0)), none⟩])
       (.cond (.t 11)
        (.seq (.ops [⟨(some 12), .mov (.t 4), none⟩,
            ⟨(some 13), .bin .add .no (.t 12) (.c (.int .i64 1)), none⟩,
            ⟨none, .store 1 (.t 3) (.t 13), none⟩])
         (.exit 0))
        (.skip)))
theorem u_B_octet_width_0 (Q : Orc) (N n : Nat) (r : Option Nat) (st : St) : evC Q N n r B_octet_width_0 st = evC Q N n r (.block 1 (.seq (.ops [⟨(some 10), .mov (.t 5), none⟩,
          ⟨(some 11), .bin .neq .no (.t 10) (.c (.int .u8 0)), none⟩])
       (.cond (.t 11)
        (.seq (.ops [⟨(some 12), .mov (.t 4), none⟩,
            ⟨(some 13), .bin .add .no (.t 12) (.c (.int .i64 1)), none⟩,
            ⟨none, .store 1 (.t 3) (.t 13), none⟩])
         (.exit 0))
        (.skip)))) st := _root_.id rfl
def R_octet_width_0 : C := .seq (.ops [⟨(some 14), .load none (.t 3), none⟩,
      ⟨(some 2), .mov (.t 14), none⟩])
   (.ret)
/-- purser/octet.width -/
def f_octet_width : Fn := ⟨15, [.tmp 2],
  .seq (.ops [⟨(some 2), .mov (.c (.int .i64 0)), none⟩])
  (.scope (.seq (.ops [⟨(some 3), .alloc [(.int .i64 0)], none⟩,
      ⟨none, .store 1 (.t 3) (.c (.int .i64 1)), none⟩])
   (.seq (.skip)
   (.seq (.seq (.ops [⟨(some 6), .mov (.t 0), none⟩,
       ⟨(some 7), .call k_octet_highFirst [(.t 6), (.c (.int .i64 8))], none⟩])
    (.block 0 (.rangeF (.t 7) [8, 9] (A_octet_width_0)
     (B_octet_width_0))))
   (R_octet_width_0)))))⟩
/-- (*purser/octet.Eye).Fixed -/
def f_octet_Eye_Fixed : Fn := ⟨42, [.tmp 4, .tmp 5],
  .seq (.ops [⟨(some 4), .mov (.c (.int .u64 0)), none⟩,
     ⟨(some 5), .mov (.c (.int .i64 0)), none⟩])
  (.seq (.seq (.ops [⟨(some 7), .mov (.t 0), none⟩,
      ⟨(some 8), .call k_octet_Eye_looks [(.t 7)], none⟩,
      ⟨(some 9), .un .not (.t 8), none⟩])
   (.cond (.t 9)
    (.seq (.ops [⟨(some 4), .mov (.c (.int .u64 0)), none⟩,
        ⟨(some 5), .mov (.c (.int .i64 1)), none⟩])
     (.ret))
    (.skip)))
  (.seq (.seq (.ops [⟨(some 10), .mov (.t 1), none⟩,
      ⟨(some 11), .call k_octet_sized [(.t 10)], none⟩,
      ⟨(some 12), .un .not (.t 11), none⟩])
   (.cond (.t 12)
    (.seq (.ops [⟨(some 4), .mov (.c (.int .u64 0)), none⟩,
        ⟨(some 5), .mov (.c (.int .i64 2)), none⟩])
     (.ret))
    (.skip)))
  (.seq (.seq (.ops [⟨(some 13), .mov (.t 1), none⟩,
      ⟨(some 14), .mov (.t 0), none⟩,
      ⟨(some 15), .call k_octet_Eye_Left [(.t 14)], none⟩,
      ⟨(some 16), .bin .gtr .no (.t 13) (.t 15), none⟩])
   (.cond (.t 16)
    (.seq (.ops [⟨(some 4), .mov (.c (.int .u64 0)), none⟩,
        ⟨(some 5), .mov (.c (.int .i64 10)), none⟩])
     (.ret))
    (.skip)))
  (.seq (.dops 0 [] [(⟨(some 17), .mov (.t 0), none⟩, .L),
     (⟨(some 18), .nilchk (.t 17), none⟩, .L),
     (⟨(some 19), .fieldAddr 0 (.t 18), none⟩, .L),
     (⟨(some 20), .load none (.t 19), none⟩, .R [] []),
     (⟨(some 21), .mov (.t 0), none⟩, .L),
     (⟨(some 22), .nilchk (.t 21), none⟩, .L),
     (⟨(some 23), .fieldAddr 1 (.t 22), none⟩, .L),
     (⟨(some 24), .load none (.t 23), none⟩, .R [] []),
     (⟨(some 25), .mov (.t 0), none⟩, .L),
     (⟨(some 26), .nilchk (.t 25), none⟩, .L),
     (⟨(some 27), .fieldAddr 1 (.t 26), none⟩, .L),
     (⟨(some 28), .load none (.t 27), none⟩, .R [] []),
     (⟨(some 29), .mov (.t 1), none⟩, .L),
     (⟨(some 30), .bin .add .no (.t 28) (.t 29), none⟩, .L),
     (⟨(some 31), .slcS 1 (.t 20) (some (.t 24)) (some (.t 30)) none, none⟩, .L),
     (⟨(some 32), .call k_octet_number [(.t 31)], none⟩, .B []),
     (⟨(some 6), .mov (.t 32), none⟩, .L)])
  (.seq (.ops [⟨(some 33), .mov (.t 0), none⟩,
     ⟨(some 34), .nilchk (.t 33), none⟩,
     ⟨(some 35), .fieldAddr 1 (.t 34), none⟩,
     ⟨(some 36), .load none (.t 35), none⟩,
     ⟨(some 37), .mov (.t 1), none⟩,
     ⟨(some 38), .bin .add .no (.t 36) (.t 37), none⟩,
     ⟨(some 39), .nilchk (.t 33), none⟩,
     ⟨(some 40), .fieldAddr 1 (.t 39), none⟩,
     ⟨none, .store 1 (.t 40) (.t 38), none⟩])
  (.seq (.ops [⟨(some 41), .mov (.t 6), none⟩,
     ⟨(some 4), .mov (.t 41), none⟩,
     ⟨(some 5), .mov (.c (.int .i64 0)), none⟩])
  (.ret)))))))⟩
/-- (*purser/octet.Eye).Size -/
def f_octet_Eye_Size : Fn := ⟨35, [.tmp 2, .tmp 3],
  .seq (.ops [⟨(some 2), .mov (.c (.int .u64 0)), none⟩,
     ⟨(some 3), .mov (.c (.int .i64 0)), none⟩])
  (.seq (.seq (.ops [⟨(some 7), .mov (.t 0), none⟩,
      ⟨(some 8), .call k_octet_Eye_looks [(.t 7)], none⟩,
      ⟨(some 9), .un .not (.t 8), none⟩])
   (.cond (.t 9)
    (.seq (.ops [⟨(some 2), .mov (.c (.int .u64 0)), none⟩,
        ⟨(some 3), .mov (.c (.int .i64 1)), none⟩])
     (.ret))
    (.skip)))
  (.seq (.dops 0 [] [(⟨(some 11), .mov (.t 0), none⟩, .L),
     (⟨(some 12), .nilchk (.t 11), none⟩, .L),
     (⟨(some 13), .fieldAddr 0 (.t 12), none⟩, .L),
     (⟨(some 14), .load none (.t 13), none⟩, .R [] []),
     (⟨(some 15), .mov (.t 0), none⟩, .L),
     (⟨(some 16), .nilchk (.t 15), none⟩, .L),
     (⟨(some 17), .fieldAddr 1 (.t 16), none⟩, .L),
     (⟨(some 18), .load none (.t 17), none⟩, .R [] []),
     (⟨(some 19), .slcS 1 (.t 14) (some (.t 18)) none none, none⟩, .L),
     (⟨(some 20), .call k_octet_compact [(.t 19)], none⟩, .B []),
     (⟨(some 10), .mov (.t 20), none⟩, .L),
     (⟨(some 21), .ext (.t 10) 0, none⟩, .L),
     (⟨(some 22), .ext (.t 10) 1, none⟩, .L),
     (⟨(some 23), .ext (.t 10) 2, none⟩, .L),
     (⟨(some 4), .mov (.t 21), none⟩, .L),
     (⟨(some 5), .mov (.t 22), none⟩, .L),
     (⟨(some 6), .mov (.t 23), none⟩, .L)])
  (.seq (.seq (.ops [⟨(some 24), .mov (.t 6), none⟩,
      ⟨(some 25), .un .not (.t 24), none⟩])
   (.cond (.t 25)
    (.seq (.ops [⟨(some 2), .mov (.c (.int .u64 0)), none⟩,
        ⟨(some 3), .mov (.c (.int .i64 10)), none⟩])
     (.ret))
    (.skip)))
  (.seq (.ops [⟨(some 26), .mov (.t 0), none⟩,
     ⟨(some 27), .nilchk (.t 26), none⟩,
     ⟨(some 28), .fieldAddr 1 (.t 27), none⟩,
     ⟨(some 29), .load none (.t 28), none⟩,
     ⟨(some 30), .mov (.t 5), none⟩,
     ⟨(some 31), .bin .add .no (.t 29) (.t 30), none⟩,
     ⟨(some 32), .nilchk (.t 26), none⟩,
     ⟨(some 33), .fieldAddr 1 (.t 32), none⟩,
     ⟨none, .store 1 (.t 33) (.t 31), none⟩])
  (.seq (.ops [⟨(some 34), .mov (.t 4), none⟩,
     ⟨(some 2), .mov (.t 34), none⟩,
     ⟨(some 3), .mov (.c (.int .i64 0)), none⟩])
  (.ret))))))⟩
/-- (*purser/octet.Eye).Bytes -/
def f_octet_Eye_Bytes : Fn := ⟨59, [.tmp 4, .tmp 5],
  .seq (.ops [⟨(some 4), .mov (.c (.slice none 0 (some 0) 0)), none⟩,
     ⟨(some 5), .mov (.c (.int .i64 0)), none⟩])
  (.seq (.seq (.ops [⟨(some 9), .mov (.t 0), none⟩,
      ⟨(some 10), .call k_octet_Eye_looks [(.t 9)], none⟩,
      ⟨(some 11), .un .not (.t 10), none⟩])
   (.cond (.t 11)
    (.seq (.ops [⟨(some 4), .mov (.c (.slice none 0 (some 0) 0)), none⟩,
        ⟨(some 5), .mov (.c (.int .i64 1)), none⟩])
     (.ret))
    (.skip)))
  (.seq (.dops 0 [] [(⟨(some 13), .mov (.t 0), none⟩, .L),
     (⟨(some 14), .nilchk (.t 13), none⟩, .L),
     (⟨(some 15), .fieldAddr 0 (.t 14), none⟩, .L),
     (⟨(some 16), .load none (.t 15), none⟩, .R [] []),
     (⟨(some 17), .mov (.t 0), none⟩, .L),
     (⟨(some 18), .nilchk (.t 17), none⟩, .L),
     (⟨(some 19), .fieldAddr 1 (.t 18), none⟩, .L),
     (⟨(some 20), .load none (.t 19), none⟩, .R [] []),
     (⟨(some 21), .slcS 1 (.t 16) (some (.t 20)) none none, none⟩, .L),
     (⟨(some 22), .call k_octet_compact [(.t 21)], none⟩, .B []),
     (⟨(some 12), .mov (.t 22), none⟩, .L),
     (⟨(some 23), .ext (.t 12) 0, none⟩, .L),
     (⟨(some 24), .ext (.t 12) 1, none⟩, .L),
     (⟨(some 25), .ext (.t 12) 2, none⟩, .L),
     (⟨(some 6), .mov (.t 23), none⟩, .L),
     (⟨(some 7), .mov (.t 24), none⟩, .L),
     (⟨(some 8), .mov (.t 25), none⟩, .L)])
  (.seq (.seq (.ops [⟨(some 26), .mov (.t 8), none⟩,
      ⟨(some 27), .un .not (.t 26), none⟩,
      ⟨(some 28), .mov (.t 27), none⟩,
      ⟨(some 29), .mov (.t 1), (some (28, false))⟩,
      ⟨(some 30), .bin .lss .no (.t 29) (.c (.int .i64 0)), (some (28, false))⟩,
      ⟨(some 31), .pick (.t 28) (.c (.bool true)) (.t 30), none⟩,
      ⟨(some 32), .mov (.t 31), none⟩,
      ⟨(some 33), .mov (.t 6), (some (32, false))⟩,
      ⟨(some 34), .mov (.t 1), (some (32, false))⟩,
      ⟨(some 35), .conv .u64 (.t 34), (some (32, false))⟩,
      ⟨(some 36), .bin .gtr .no (.t 33) (.t 35), (some (32, false))⟩,
      ⟨(some 37), .pick (.t 32) (.c (.bool true)) (.t 36), none⟩,
      ⟨(some 38), .mov (.t 37), none⟩,
      ⟨(some 39), .mov (.t 6), (some (38, false))⟩,
      ⟨(some 40), .mov (.t 0), (some (38, false))⟩,
      ⟨(some 41), .call k_octet_Eye_Left [(.t 40)], (some (38, false))⟩,
      ⟨(some 42), .mov (.t 7), (some (38, false))⟩,
      ⟨(some 43), .bin .sub .no (.t 41) (.t 42), (some (38, false))⟩,
      ⟨(some 44), .conv .u64 (.t 43), (some (38, false))⟩,
      ⟨(some 45), .bin .gtr .no (.t 39) (.t 44), (some (38, false))⟩,
      ⟨(some 46), .pick (.t 38) (.c (.bool true)) (.t 45), none⟩])
   (.cond (.t 46)
    (.seq (.ops [⟨(some 4), .mov (.c (.slice none 0 (some 0) 0)), none⟩,
        ⟨(some 5), .mov (.c (.int .i64 10)), none⟩])
     (.ret))
    (.skip)))
  (.seq (.ops [⟨(some 47), .mov (.t 0), none⟩,
     ⟨(some 48), .nilchk (.t 47), none⟩,
     ⟨(some 49), .fieldAddr 1 (.t 48), none⟩,
     ⟨(some 50), .load none (.t 49), none⟩,
     ⟨(some 51), .mov (.t 7), none⟩,
     ⟨(some 52), .bin .add .no (.t 50) (.t 51), none⟩,
     ⟨(some 53), .nilchk (.t 47), none⟩,
     ⟨(some 54), .fieldAddr 1 (.t 53), none⟩,
     ⟨none, .store 1 (.t 54) (.t 52), none⟩])
  (.seq (.ops [⟨(some 55), .mov (.t 0), none⟩,
     ⟨(some 56), .mov (.t 6), none⟩,
     ⟨(some 57), .conv .i64 (.t 56), none⟩,
     ⟨(some 58), .call k_octet_Eye_take [(.t 55), (.t 57)], none⟩,
     ⟨(some 4), .mov (.t 58), none⟩,
     ⟨(some 5), .mov (.c (.int .i64 0)), none⟩])
  (.ret))))))⟩
/-- (*purser/octet.Eye).Raw -/
def f_octet_Eye_Raw : Fn := ⟨18, [.tmp 4, .tmp 5],
  .seq (.ops [⟨(some 4), .mov (.c (.slice none 0 (some 0) 0)), none⟩,
     ⟨(some 5), .mov (.c (.int .i64 0)), none⟩])
  (.seq (.seq (.ops [⟨(some 6), .mov (.t 0), none⟩,
      ⟨(some 7), .call k_octet_Eye_looks [(.t 6)], none⟩,
      ⟨(some 8), .un .not (.t 7), none⟩])
   (.cond (.t 8)
    (.seq (.ops [⟨(some 4), .mov (.c (.slice none 0 (some 0) 0)), none⟩,
        ⟨(some 5), .mov (.c (.int .i64 1)), none⟩])
     (.ret))
    (.skip)))
  (.seq (.seq (.ops [⟨(some 9), .mov (.t 1), none⟩,
      ⟨(some 10), .bin .lss .no (.t 9) (.c (.int .i64 0)), none⟩])
   (.cond (.t 10)
    (.seq (.ops [⟨(some 4), .mov (.c (.slice none 0 (some 0) 0)), none⟩,
        ⟨(some 5), .mov (.c (.int .i64 2)), none⟩])
     (.ret))
    (.skip)))
  (.seq (.seq (.ops [⟨(some 11), .mov (.t 1), none⟩,
      ⟨(some 12), .mov (.t 0), none⟩,
      ⟨(some 13), .call k_octet_Eye_Left [(.t 12)], none⟩,
      ⟨(some 14), .bin .gtr .no (.t 11) (.t 13), none⟩])
   (.cond (.t 14)
    (.seq (.ops [⟨(some 4), .mov (.c (.slice none 0 (some 0) 0)), none⟩,
        ⟨(some 5), .mov (.c (.int .i64 10)), none⟩])
     (.ret))
    (.skip)))
  (.seq (.ops [⟨(some 15), .mov (.t 0), none⟩,
     ⟨(some 16), .mov (.t 1), none⟩,
     ⟨(some 17), .call k_octet_Eye_take [(.t 15), (.t 16)], none⟩,
     ⟨(some 4), .mov (.t 17), none⟩,
     ⟨(some 5), .mov (.c (.int .i64 0)), none⟩])
  (.ret)))))⟩
/-- (*purser/octet.Eye).looks -/
def f_octet_Eye_looks : Fn := ⟨11, [.tmp 2],
  .seq (.ops [⟨(some 2), .mov (.c (.bool false)), none⟩])
  (.seq (.ops [⟨(some 3), .mov (.t 0), none⟩,
     ⟨(some 4), .bin .neq (.ref .p) (.t 3) (.c (.ptr none)), none⟩,
     ⟨(some 5), .mov (.t 4), none⟩,
     ⟨(some 6), .mov (.t 0), (some (5, true))⟩,
     ⟨(some 7), .nilchk (.t 6), (some (5, true))⟩,
     ⟨(some 8), .fieldAddr 2 (.t 7), (some (5, true))⟩,
     ⟨(some 9), .load none (.t 8), (some (5, true))⟩,
     ⟨(some 10), .pick (.t 5) (.t 9) (.c (.bool false)), none⟩,
     ⟨(some 2), .mov (.t 10), none⟩])
  (.ret))⟩
/-- (*purser/octet.Eye).Left -/
def f_octet_Eye_Left : Fn := ⟨16, [.tmp 2],
  .seq (.ops [⟨(some 2), .mov (.c (.int .i64 0)), none⟩])
  (.seq (.seq (.ops [⟨(some 3), .mov (.t 0), none⟩,
      ⟨(some 4), .call k_octet_Eye_looks [(.t 3)], none⟩,
      ⟨(some 5), .un .not (.t 4), none⟩])
   (.cond (.t 5)
    (.seq (.ops [⟨(some 2), .mov (.c (.int .i64 0)), none⟩])
     (.ret))
    (.skip)))
  (.seq (.dops 0 [] [(⟨(some 6), .mov (.t 0), none⟩, .L),
     (⟨(some 7), .nilchk (.t 6), none⟩, .L),
     (⟨(some 8), .fieldAddr 0 (.t 7), none⟩, .L),
     (⟨(some 9), .load none (.t 8), none⟩, .R [] []),
     (⟨(some 10), .len false (.t 9), none⟩, .L),
     (⟨(some 11), .mov (.t 0), none⟩, .L),
     (⟨(some 12), .nilchk (.t 11), none⟩, .L),
     (⟨(some 13), .fieldAddr 1 (.t 12), none⟩, .L),
     (⟨(some 14), .load none (.t 13), none⟩, .R [] []),
     (⟨(some 15), .bin .sub .no (.t 10) (.t 14), none⟩, .L),
     (⟨(some 2), .mov (.t 15), none⟩, .L)])
  (.ret)))⟩
def A_tx_Check_0 : C := .ops [⟨(some 4), .mov (.t 19), none⟩]
theorem u_A_tx_Check_0 (Q : Orc) (N n : Nat) (r : Option Nat) (st : St) : evC Q N n r A_tx_Check_0 st = evC Q N n r (.ops [⟨(some 4), .mov (.t 19), none⟩]) st := _root_.id rfl
def B_tx_Check_0 : C := .block 1 (.seq (.ops [⟨(some 20), .mov (.t 4), none⟩,
          ⟨(some 21), .len false (.t 20), none⟩,
          ⟨(some 22), .bin .gtr .no (.t 21) (.c (.int .i64 2000)), none⟩])
       (.cond (.t 22)
        (.seq (.ops [⟨none, .store 1 (.t 3) (.c (.int .i64 60)), none⟩])
         (.exit 0))
        (.skip)))
theorem u_B_tx_Check_0 (Q : Orc) (N n : Nat) (r : Option Nat) (st : St) : evC Q N n r B_tx_Check_0 st = evC Q N n r (.block 1 (.seq (.ops [⟨(some 20), .mov (.t 4), none⟩,
          ⟨(some 21), .len false (.t 20), none⟩,
          ⟨(some 22), .bin .gtr .no (.t 21) (.c (.int .i64 2000)), none⟩])
       (.cond (.t 22)
        (.seq (.ops [⟨none, .store 1 (.t 3) (.c (.int .i64 60)), none⟩])
         (.exit 0))
        (.skip)))) st := _root_.id rfl
def R_tx_Check_0 : C := .seq (.ops [⟨(some 23), .load none (.t 3), none⟩,
      ⟨(some 2), .mov (.t 23), none⟩])
   (.ret)
/-- purser/tx.Check -/
def f_tx_Check : Fn := ⟨24, [.tmp 2],
  .seq (.ops [⟨(some 1), .box (.t 0), none⟩,
     ⟨(some 2), .mov (.c (.int .i64 0)), none⟩])
  (.scope (.seq (.seq (.ops [⟨(some 5), .fieldAddr 1 (.t 1), none⟩,
       ⟨(some 6), .load none (.t 5), none⟩,
       ⟨(some 7), .len false (.t 6), none⟩,
       ⟨(some 8), .call k_tx_counted [(.t 7)], none⟩,
       ⟨(some 9), .un .not (.t 8), none⟩,
       ⟨(some 10), .mov (.t 9), none⟩,
       ⟨(some 11), .fieldAddr 2 (.t 1), (some (10, false))⟩,
       ⟨(some 12), .load none (.t 11), (some (10, false))⟩,
       ⟨(some 13), .len false (.t 12), (some (10, false))⟩,
       ⟨(some 14), .call k_tx_counted [(.t 13)], (some (10, false))⟩,
       ⟨(some 15), .un .not (.t 14), (some (10, false))⟩,
       ⟨(some 16), .pick (.t 10) (.c (.bool true)) (.t 15), none⟩])
    (.cond (.t 16)
     (.seq (.ops [⟨(some 2), .mov (.c (.int .i64 60)), none⟩])
      (.ret))
     (.skip)))
   (.seq (.ops [⟨(some 3), .alloc [(.int .i64 0)], none⟩,
      ⟨none, .store 1 (.t 3) (.c (.int .i64 0)), none⟩])
   (.seq (.skip)
   (.seq (.seq (.ops [⟨(some 17), .load (some 4) (.t 1), none⟩,
       ⟨(some 18), .call k_tx_scripts [(.t 17)], none⟩])
    (.block 0 (.rangeF (.t 18) [19] (A_tx_Check_0)
     (B_tx_Check_0))))
   (R_tx_Check_0))))))⟩
/-- purser/tx.Coinbase -/
def f_tx_Coinbase : Fn := ⟨16, [.tmp 2],
  .seq (.ops [⟨(some 1), .box (.t 0), none⟩,
     ⟨(some 2), .mov (.c (.bool false)), none⟩])
  (.seq (.ops [⟨(some 3), .fieldAddr 1 (.t 1), none⟩,
     ⟨(some 4), .load none (.t 3), none⟩,
     ⟨(some 5), .len false (.t 4), none⟩,
     ⟨(some 6), .bin .eql .no (.t 5) (.c (.int .i64 1)), none⟩,
     ⟨(some 7), .mov (.t 6), none⟩,
     ⟨(some 8), .fieldAddr 1 (.t 1), (some (7, true))⟩,
     ⟨(some 9), .load none (.t 8), (some (7, true))⟩,
     ⟨(some 10), .idxAddrS 35 (.t 9) (.c (.int .i64 0)), (some (7, true))⟩,
     ⟨(some 11), .fieldAddr 0 (.t 10), (some (7, true))⟩,
     ⟨(some 12), .load (some 33) (.t 11), (some (7, true))⟩,
     ⟨(some 13), .build [(.int .u8 0), (.int .u8 0), (.int .u8 0), (.int .u8 0), (.int .u8 0), (.int .u8 0), (.int .u8 0), (.int .u8 0), (.int .u8 0), (.int .u8 0), (.int .u8 0), (.int .u8 0), (.int .u8 0), (.int .u8 0), (.int .u8 0), (.int .u8 0), (.int .u8 0), (.int .u8 0), (.int .u8 0), (.int .u8 0), (.int .u8 0), (.int .u8 0), (.int .u8 0), (.int .u8 0), (.int .u8 0), (.int .u8 0), (.int .u8 0), (.int .u8 0), (.int .u8 0), (.int .u8 0), (.int .u8 0), (.int .u8 0), (.int .u32 0)] [(32, 1, (.c (.int .u32 4294967295)))], (some (7, true))⟩,
     ⟨(some 14), .bin .eql (.flat [.i, .i, .i, .i, .i, .i, .i, .i, .i, .i, .i, .i, .i, .i, .i, .i, .i, .i, .i, .i, .i, .i, .i, .i, .i, .i, .i, .i, .i, .i, .i, .i, .i]) (.t 12) (.t 13), (some (7, true))⟩,
     ⟨(some 15), .pick (.t 7) (.t 14) (.c (.bool false)), none⟩,
     ⟨(some 2), .mov (.t 15), none⟩])
  (.ret))⟩
/-- purser/purserlaw06.some -/
def f_purserlaw06_some : Fn := ⟨9, [.cell 0 (some 4)],
  .seq (.ops [⟨(some 0), .alloc [(.int .u32 0), (.slice none 0 (some 0) 0), (.slice none 0 (some 0) 0), (.int .u32 0)], none⟩])
  (.seq (.ops [⟨(some 1), .build [(.int .u8 0), (.int .u8 0), (.int .u8 0), (.int .u8 0), (.int .u8 0), (.int .u8 0), (.int .u8 0), (.int .u8 0), (.int .u8 0), (.int .u8 0), (.int .u8 0), (.int .u8 0), (.int .u8 0), (.int .u8 0), (.int .u8 0), (.int .u8 0), (.int .u8 0), (.int .u8 0), (.int .u8 0), (.int .u8 0), (.int .u8 0), (.int .u8 0), (.int .u8 0), (.int .u8 0), (.int .u8 0), (.int .u8 0), (.int .u8 0), (.int .u8 0), (.int .u8 0), (.int .u8 0), (.int .u8 0), (.int .u8 0), (.int .u32 0)] [(32, 1, (.c (.int .u32 4294967295)))], none⟩,
     ⟨(some 2), .buildS [(.int .u8 0)] 1 1 [(0, 1, (.c (.int .u8 42)))], none⟩,
     ⟨(some 3), .build [(.int .u8 0), (.int .u8 0), (.int .u8 0), (.int .u8 0), (.int .u8 0), (.int .u8 0), (.int .u8 0), (.int .u8 0), (.int .u8 0), (.int .u8 0), (.int .u8 0), (.int .u8 0), (.int .u8 0), (.int .u8 0), (.int .u8 0), (.int .u8 0), (.int .u8 0), (.int .u8 0), (.int .u8 0), (.int .u8 0), (.int .u8 0), (.int .u8 0), (.int .u8 0), (.int .u8 0), (.int .u8 0), (.int .u8 0), (.int .u8 0), (.int .u8 0), (.int .u8 0), (.int .u8 0), (.int .u8 0), (.int .u8 0), (.int .u32 0), (.slice none 0 (some 0) 0), (.int .u32 0)] [(0, 33, (.t 1)), (33, 1, (.t 2)), (34, 1, (.c (.int .u32 7)))], none⟩,
     ⟨(some 4), .buildS [(.int .u8 0), (.int .u8 0), (.int .u8 0), (.int .u8 0), (.int .u8 0), (.int .u8 0), (.int .u8 0), (.int .u8 0), (.int .u8 0), (.int .u8 0), (.int .u8 0), (.int .u8 0), (.int .u8 0), (.int .u8 0), (.int .u8 0), (.int .u8 0), (.int .u8 0), (.int .u8 0), (.int .u8 0), (.int .u8 0), (.int .u8 0), (.int .u8 0), (.int .u8 0), (.int .u8 0), (.int .u8 0), (.int .u8 0), (.int .u8 0), (.int .u8 0), (.int .u8 0), (.int .u8 0), (.int .u8 0), (.int .u8 0), (.int .u32 0), (.slice none 0 (some 0) 0), (.int .u32 0)] 1 35 [(0, 35, (.t 3))], none⟩,
     ⟨(some 5), .buildS [(.int .u8 0)] 1 1 [(0, 1, (.c (.int .u8 106)))], none⟩,
     ⟨(some 6), .build [(.int .i64 0), (.slice none 0 (some 0) 0)] [(0, 1, (.c (.int .i64 5))), (1, 1, (.t 5))], none⟩,
     ⟨(some 7), .buildS [(.int .i64 0), (.slice none 0 (some 0) 0)] 1 2 [(0, 2, (.t 6))], none⟩,
     ⟨(some 8), .build [(.int .u32 0), (.slice none 0 (some 0) 0), (.slice none 0 (some 0) 0), (.int .u32 0)] [(0, 1, (.c (.int .u32 1))), (1, 1, (.t 4)), (2, 1, (.t 7))], none⟩,
     ⟨none, .store 4 (.t 0) (.t 8), none⟩])
  (.ret))⟩
def L_strings_Repeat_0 : C := .seq (.seq (.ops [⟨(some 111), .call k_strings_Builder_Len [(.t 9)], none⟩,
         ⟨(some 112), .mov (.t 7), none⟩,
         ⟨(some 113), .bin .lss .no (.t 111) (.t 112), none⟩])
      (.cond (.t 113)
       (.skip)
       (.exit 3)))
     (.block 4 (.seq (.ops [⟨(some 114), .mov (.t 7), none⟩,
         ⟨(some 115), .call k_strings_Builder_Len [(.t 9)], none⟩,
         ⟨(some 116), .bin .sub .no (.t 114) (.t 115), none⟩,
         ⟨(some 117), .call k_strings_Builder_Len [(.t 9)], none⟩,
         ⟨(some 118), .mov (.t 8), none⟩,
         ⟨(some 119), .minmax true [(.t 116), (.t 117), (.t 118)], none⟩,
         ⟨(some 10), .mov (.t 119), none⟩])
      (.ops [⟨(some 120), .call k_strings_Builder_String [(.t 9)], none⟩,
        ⟨(some 121), .mov (.t 10), none⟩,
        ⟨(some 122), .slcStr (.t 120) none (some (.t 121)), none⟩,
        ⟨(some 123), .call k_strings_Builder_WriteString [(.t 9), (.t 122)], none⟩])))
def R_strings_Repeat_0 : C := .seq (.ops [⟨(some 124), .call k_strings_Builder_String [(.t 9)], none⟩,
     ⟨(some 4), .mov (.t 124), none⟩])
  (.ret)
/-- strings.Repeat -/
def f_strings_Repeat : Fn := ⟨125, [.tmp 4],
  .seq (.ops [⟨(some 4), .mov (.c (.str [])), none⟩])
  (.seq (.seq (.ops [⟨(some 11), .mov (.t 1), none⟩])
   (.block 0 (.seq (.ops [⟨(some 13), .bin .eql .no (.t 11) (.c (.int .i64 0)), none⟩,
       ⟨(some 12), .mov (.t 13), none⟩])
    (.cond (.t 12)
     (.seq (.ops [⟨(some 4), .mov (.c (.str [])), none⟩])
      (.ret))
     (.seq (.ops [⟨(some 15), .bin .eql .no (.t 11) (.c (.int .i64 1)), none⟩,
         ⟨(some 14), .mov (.t 15), none⟩])
      (.cond (.t 14)
       (.seq (.ops [⟨(some 16), .mov (.t 0), none⟩,
           ⟨(some 4), .mov (.t 16), none⟩])
        (.ret))
       (.skip)))))))
  (.seq (.seq (.ops [⟨(some 17), .mov (.t 1), none⟩,
      ⟨(some 18), .bin .lss .no (.t 17) (.c (.int .i64 0)), none⟩])
   (.cond (.t 18)
    (.ops [⟨(some 19), .bad "", none⟩,
       ⟨none, .bad "", none⟩])
    (.skip)))
  (.seq (.ops [⟨(some 21), .mov (.t 0), none⟩,
     ⟨(some 22), .len true (.t 21), none⟩,
     ⟨(some 23), .conv .u64 (.t 22), none⟩,
     ⟨(some 24), .mov (.t 1), none⟩,
     ⟨(some 25), .conv .u64 (.t 24), none⟩,
     ⟨(some 26), .call k_math_bits_Mul [(.t 23), (.t 25)], none⟩,
     ⟨(some 20), .mov (.t 26), none⟩,
     ⟨(some 27), .ext (.t 20) 0, none⟩,
     ⟨(some 28), .ext (.t 20) 1, none⟩,
     ⟨(some 5), .mov (.t 27), none⟩,
     ⟨(some 6), .mov (.t 28), none⟩])
  (.seq (.seq (.ops [⟨(some 29), .mov (.t 5), none⟩,
      ⟨(some 30), .bin .gtr .no (.t 29) (.c (.int .u64 0)), none⟩,
      ⟨(some 31), .mov (.t 30), none⟩,
      ⟨(some 32), .mov (.t 6), (some (31, false))⟩,
      ⟨(some 33), .bin .gtr .no (.t 32) (.c (.int .u64 9223372036854775807)), (some (31, false))⟩,
      ⟨(some 34), .pick (.t 31) (.c (.bool true)) (.t 33), none⟩])
   (.cond (.t 34)
    (.ops [⟨(some 35), .bad "", none⟩,
       ⟨none, .bad "", none⟩])
    (.skip)))
  (.seq (.ops [⟨(some 36), .mov (.t 6), none⟩,
     ⟨(some 37), .conv .i64 (.t 36), none⟩,
     ⟨(some 7), .mov (.t 37), none⟩])
  (.seq (.seq (.ops [⟨(some 38), .mov (.t 0), none⟩,
      ⟨(some 39), .len true (.t 38), none⟩,
      ⟨(some 40), .bin .eql .no (.t 39) (.c (.int .i64 0)), none⟩])
   (.cond (.t 40)
    (.seq (.ops [⟨(some 4), .mov (.c (.str [])), none⟩])
     (.ret))
    (.skip)))
  (.seq (.seq (.ops [⟨(some 41), .mov (.t 0), none⟩,
      ⟨(some 42), .idxStr (.t 41) (.c (.int .i64 0)), none⟩])
   (.block 1 (.seq (.seq (.ops [⟨(some 44), .bin .eql .no (.t 42) (.c (.int .u8 32)), none⟩,
        ⟨(some 43), .mov (.t 44), none⟩])
     (.cond (.t 43)
      (.skip)
      (.seq (.ops [⟨(some 45), .bin .eql .no (.t 42) (.c (.int .u8 45)), none⟩,
          ⟨(some 43), .mov (.t 45), none⟩])
       (.cond (.t 43)
        (.skip)
        (.seq (.ops [⟨(some 46), .bin .eql .no (.t 42) (.c (.int .u8 48)), none⟩,
            ⟨(some 43), .mov (.t 46), none⟩])
         (.cond (.t 43)
          (.skip)
          (.seq (.ops [⟨(some 47), .bin .eql .no (.t 42) (.c (.int .u8 61)), none⟩,
              ⟨(some 43), .mov (.t 47), none⟩])
           (.cond (.t 43)
            (.skip)
            (.ops [⟨(some 48), .bin .eql .no (.t 42) (.c (.int .u8 9)), none⟩,
               ⟨(some 43), .mov (.t 48), none⟩])))))))))
    (.cond (.t 43)
     (.block 2 (.seq (.ops [⟨(some 50), .mov (.t 7), none⟩,
          ⟨(some 51), .bin .leq .no (.t 50) (.c (.int .i64 128)), none⟩,
          ⟨(some 52), .mov (.t 51), none⟩,
          ⟨(some 53), .mov (.t 0), (some (52, true))⟩,
          ⟨(some 54), .call k_strings_HasPrefix [(.c (.str [32, 32, 32, 32, 32, 32, 32, 32, 32, 32, 32, 32, 32, 32, 32, 32, 32, 32, 32, 32, 32, 32, 32, 32, 32, 32, 32, 32, 32, 32, 32, 32, 32, 32, 32, 32, 32, 32, 32, 32, 32, 32, 32, 32, 32, 32, 32, 32, 32, 32, 32, 32, 32, 32, 32, 32, 32, 32, 32, 32, 32, 32, 32, 32, 32, 32, 32, 32, 32, 32, 32, 32, 32, 32, 32, 32, 32, 32, 32, 32, 32, 32, 32, 32, 32, 32, 32, 32, 32, 32, 32, 32, 32, 32, 32, 32, 32, 32, 32, 32, 32, 32, 32, 32, 32, 32, 32, 32, 32, 32, 32, 32, 32, 32, 32, 32, 32, 32, 32, 32, 32, 32, 32, 32, 32, 32, 32, 32])), (.t 53)], (some (52, true))⟩,
          ⟨(some 55), .pick (.t 52) (.t 54) (.c (.bool false)), none⟩,
          ⟨(some 49), .mov (.t 55), none⟩])
       (.cond (.t 49)
        (.seq (.ops [⟨(some 56), .mov (.t 7), none⟩,
            ⟨(some 57), .slcStr (.c (.str [32, 32, 32, 32, 32, 32, 32, 32, 32, 32, 32, 32, 32, 32, 32, 32, 32, 32, 32, 32, 32, 32, 32, 32, 32, 32, 32, 32, 32, 32, 32, 32, 32, 32, 32, 32, 32, 32, 32, 32, 32, 32, 32, 32, 32, 32, 32, 32, 32, 32, 32, 32, 32, 32, 32, 32, 32, 32, 32, 32, 32, 32, 32, 32, 32, 32, 32, 32, 32, 32, 32, 32, 32, 32, 32, 32, 32, 32, 32, 32, 32, 32, 32, 32, 32, 32, 32, 32, 32, 32, 32, 32, 32, 32, 32, 32, 32, 32, 32, 32, 32, 32, 32, 32, 32, 32, 32, 32, 32, 32, 32, 32, 32, 32, 32, 32, 32, 32, 32, 32, 32, 32, 32, 32, 32, 32, 32, 32])) none (some (.t 56)), none⟩,
            ⟨(some 4), .mov (.t 57), none⟩])
         (.ret))
        (.seq (.ops [⟨(some 59), .mov (.t 7), none⟩,
            ⟨(some 60), .bin .leq .no (.t 59) (.c (.int .i64 128)), none⟩,
            ⟨(some 61), .mov (.t 60), none⟩,
            ⟨(some 62), .mov (.t 0), (some (61, true))⟩,
            ⟨(some 63), .call k_strings_HasPrefix [(.c (.str [45, 45, 45, 45, 45, 45, 45, 45, 45, 45, 45, 45, 45, 45, 45, 45, 45, 45, 45, 45, 45, 45, 45, 45, 45, 45, 45, 45, 45, 45, 45, 45, 45, 45, 45, 45, 45, 45, 45, 45, 45, 45, 45, 45, 45, 45, 45, 45, 45, 45, 45, 45, 45, 45, 45, 45, 45, 45, 45, 45, 45, 45, 45, 45, 45, 45, 45, 45, 45, 45, 45, 45, 45, 45, 45, 45, 45, 45, 45, 45, 45, 45, 45, 45, 45, 45, 45, 45, 45, 45, 45, 45, 45, 45, 45, 45, 45, 45, 45, 45, 45, 45, 45, 45, 45, 45, 45, 45, 45, 45, 45, 45, 45, 45, 45, 45, 45, 45, 45, 45, 45, 45, 45, 45, 45, 45, 45, 45])), (.t 62)], (some (61, true))⟩,
            ⟨(some 64), .pick (.t 61) (.t 63) (.c (.bool false)), none⟩,
            ⟨(some 58), .mov (.t 64), none⟩])
         (.cond (.t 58)
          (.seq (.ops [⟨(some 65), .mov (.t 7), none⟩,
              ⟨(some 66), .slcStr (.c (.str [45, 45, 45, 45, 45, 45, 45, 45, 45, 45, 45, 45, 45, 45, 45, 45, 45, 45, 45, 45, 45, 45, 45, 45, 45, 45, 45, 45, 45, 45, 45, 45, 45, 45, 45, 45, 45, 45, 45, 45, 45, 45, 45, 45, 45, 45, 45, 45, 45, 45, 45, 45, 45, 45, 45, 45, 45, 45, 45, 45, 45, 45, 45, 45, 45, 45, 45, 45, 45, 45, 45, 45, 45, 45, 45, 45, 45, 45, 45, 45, 45, 45, 45, 45, 45, 45, 45, 45, 45, 45, 45, 45, 45, 45, 45, 45, 45, 45, 45, 45, 45, 45, 45, 45, 45, 45, 45, 45, 45, 45, 45, 45, 45, 45, 45, 45, 45, 45, 45, 45, 45, 45, 45, 45, 45, 45, 45, 45])) none (some (.t 65)), none⟩,
              ⟨(some 4), .mov (.t 66), none⟩])
           (.ret))
          (.seq (.ops [⟨(some 68), .mov (.t 7), none⟩,
              ⟨(some 69), .bin .leq .no (.t 68) (.c (.int .i64 64)), none⟩,
              ⟨(some 70), .mov (.t 69), none⟩,
              ⟨(some 71), .mov (.t 0), (some (70, true))⟩,
              ⟨(some 72), .call k_strings_HasPrefix [(.c (.str [48, 48, 48, 48, 48, 48, 48, 48, 48, 48, 48, 48, 48, 48, 48, 48, 48, 48, 48, 48, 48, 48, 48, 48, 48, 48, 48, 48, 48, 48, 48, 48, 48, 48, 48, 48, 48, 48, 48, 48, 48, 48, 48, 48, 48, 48, 48, 48, 48, 48, 48, 48, 48, 48, 48, 48, 48, 48, 48, 48, 48, 48, 48, 48])), (.t 71)], (some (70, true))⟩,
              ⟨(some 73), .pick (.t 70) (.t 72) (.c (.bool false)), none⟩,
              ⟨(some 67), .mov (.t 73), none⟩])
           (.cond (.t 67)
            (.seq (.ops [⟨(some 74), .mov (.t 7), none⟩,
                ⟨(some 75), .slcStr (.c (.str [48, 48, 48, 48, 48, 48, 48, 48, 48, 48, 48, 48, 48, 48, 48, 48, 48, 48, 48, 48, 48, 48, 48, 48, 48, 48, 48, 48, 48, 48, 48, 48, 48, 48, 48, 48, 48, 48, 48, 48, 48, 48, 48, 48, 48, 48, 48, 48, 48, 48, 48, 48, 48, 48, 48, 48, 48, 48, 48, 48, 48, 48, 48, 48])) none (some (.t 74)), none⟩,
                ⟨(some 4), .mov (.t 75), none⟩])
             (.ret))
            (.seq (.ops [⟨(some 77), .mov (.t 7), none⟩,
                ⟨(some 78), .bin .leq .no (.t 77) (.c (.int .i64 128)), none⟩,
                ⟨(some 79), .mov (.t 78), none⟩,
                ⟨(some 80), .mov (.t 0), (some (79, true))⟩,
                ⟨(some 81), .call k_strings_HasPrefix [(.c (.str [61, 61, 61, 61, 61, 61, 61, 61, 61, 61, 61, 61, 61, 61, 61, 61, 61, 61, 61, 61, 61, 61, 61, 61, 61, 61, 61, 61, 61, 61, 61, 61, 61, 61, 61, 61, 61, 61, 61, 61, 61, 61, 61, 61, 61, 61, 61, 61, 61, 61, 61, 61, 61, 61, 61, 61, 61, 61, 61, 61, 61, 61, 61, 61, 61, 61, 61, 61, 61, 61, 61, 61, 61, 61, 61, 61, 61, 61, 61, 61, 61, 61, 61, 61, 61, 61, 61, 61, 61, 61, 61, 61, 61, 61, 61, 61, 61, 61, 61, 61, 61, 61, 61, 61, 61, 61, 61, 61, 61, 61, 61, 61, 61, 61, 61, 61, 61, 61, 61, 61, 61, 61, 61, 61, 61, 61, 61, 61])), (.t 80)], (some (79, true))⟩,
                ⟨(some 82), .pick (.t 79) (.t 81) (.c (.bool false)), none⟩,
                ⟨(some 76), .mov (.t 82), none⟩])
             (.cond (.t 76)
              (.seq (.ops [⟨(some 83), .mov (.t 7), none⟩,
                  ⟨(some 84), .slcStr (.c (.str [61, 61, 61, 61, 61, 61, 61, 61, 61, 61, 61, 61, 61, 61, 61, 61, 61, 61, 61, 61, 61, 61, 61, 61, 61, 61, 61, 61, 61, 61, 61, 61, 61, 61, 61, 61, 61, 61, 61, 61, 61, 61, 61, 61, 61, 61, 61, 61, 61, 61, 61, 61, 61, 61, 61, 61, 61, 61, 61, 61, 61, 61, 61, 61, 61, 61, 61, 61, 61, 61, 61, 61, 61, 61, 61, 61, 61, 61, 61, 61, 61, 61, 61, 61, 61, 61, 61, 61, 61, 61, 61, 61, 61, 61, 61, 61, 61, 61, 61, 61, 61, 61, 61, 61, 61, 61, 61, 61, 61, 61, 61, 61, 61, 61, 61, 61, 61, 61, 61, 61, 61, 61, 61, 61, 61, 61, 61, 61])) none (some (.t 83)), none⟩,
                  ⟨(some 4), .mov (.t 84), none⟩])
               (.ret))
              (.seq (.ops [⟨(some 86), .mov (.t 7), none⟩,
                  ⟨(some 87), .bin .leq .no (.t 86) (.c (.int .i64 64)), none⟩,
                  ⟨(some 88), .mov (.t 87), none⟩,
                  ⟨(some 89), .mov (.t 0), (some (88, true))⟩,
                  ⟨(some 90), .call k_strings_HasPrefix [(.c (.str [9, 9, 9, 9, 9, 9, 9, 9, 9, 9, 9, 9, 9, 9, 9, 9, 9, 9, 9, 9, 9, 9, 9, 9, 9, 9, 9, 9, 9, 9, 9, 9, 9, 9, 9, 9, 9, 9, 9, 9, 9, 9, 9, 9, 9, 9, 9, 9, 9, 9, 9, 9, 9, 9, 9, 9, 9, 9, 9, 9, 9, 9, 9, 9])), (.t 89)], (some (88, true))⟩,
                  ⟨(some 91), .pick (.t 88) (.t 90) (.c (.bool false)), none⟩,
                  ⟨(some 85), .mov (.t 91), none⟩])
               (.cond (.t 85)
                (.seq (.ops [⟨(some 92), .mov (.t 7), none⟩,
                    ⟨(some 93), .slcStr (.c (.str [9, 9, 9, 9, 9, 9, 9, 9, 9, 9, 9, 9, 9, 9, 9, 9, 9, 9, 9, 9, 9, 9, 9, 9, 9, 9, 9, 9, 9, 9, 9, 9, 9, 9, 9, 9, 9, 9, 9, 9, 9, 9, 9, 9, 9, 9, 9, 9, 9, 9, 9, 9, 9, 9, 9, 9, 9, 9, 9, 9, 9, 9, 9, 9])) none (some (.t 92)), none⟩,
                    ⟨(some 4), .mov (.t 93), none⟩])
                 (.ret))
                (.skip))))))))))))
     (.skip)))))
  (.seq (.ops [⟨(some 94), .mov (.t 7), none⟩,
     ⟨(some 8), .mov (.t 94), none⟩])
  (.seq (.seq (.ops [⟨(some 95), .mov (.t 7), none⟩,
      ⟨(some 96), .bin .gtr .no (.t 95) (.c (.int .i64 8192)), none⟩])
   (.cond (.t 96)
    (.seq (.ops [⟨(some 97), .mov (.t 0), none⟩,
        ⟨(some 98), .len true (.t 97), none⟩,
        ⟨(some 99), .bin .quo .no (.c (.int .i64 8192)) (.t 98), none⟩,
        ⟨(some 100), .mov (.t 0), none⟩,
        ⟨(some 101), .len true (.t 100), none⟩,
        ⟨(some 102), .bin .mul .no (.t 99) (.t 101), none⟩,
        ⟨(some 8), .mov (.t 102), none⟩])
     (.seq (.ops [⟨(some 103), .mov (.t 8), none⟩,
        ⟨(some 104), .bin .eql .no (.t 103) (.c (.int .i64 0)), none⟩])
     (.cond (.t 104)
      (.ops [⟨(some 105), .mov (.t 0), none⟩,
         ⟨(some 106), .len true (.t 105), none⟩,
         ⟨(some 8), .mov (.t 106), none⟩])
      (.skip))))
    (.skip)))
  (.seq (.ops [⟨(some 9), .alloc [(.ptr none), (.slice none 0 (some 0) 0)], none⟩])
  (.seq (.ops [⟨(some 107), .mov (.t 7), none⟩,
     ⟨(some 108), .call k_strings_Builder_Grow [(.t 9), (.t 107)], none⟩])
  (.seq (.ops [⟨(some 109), .mov (.t 0), none⟩,
     ⟨(some 110), .call k_strings_Builder_WriteString [(.t 9), (.t 109)], none⟩])
  (.seq (.block 3 (.loop (L_strings_Repeat_0)))
  (R_strings_Repeat_0))))))))))))))⟩
/-- purser/octet.sized -/
def f_octet_sized : Fn := ⟨17, [.tmp 2],
  .seq (.ops [⟨(some 2), .mov (.c (.bool false)), none⟩])
  (.seq (.ops [⟨(some 3), .mov (.t 0), none⟩,
     ⟨(some 4), .bin .eql .no (.t 3) (.c (.int .i64 1)), none⟩,
     ⟨(some 5), .mov (.t 4), none⟩,
     ⟨(some 6), .mov (.t 0), (some (5, false))⟩,
     ⟨(some 7), .bin .eql .no (.t 6) (.c (.int .i64 2)), (some (5, false))⟩,
     ⟨(some 8), .pick (.t 5) (.c (.bool true)) (.t 7), none⟩,
     ⟨(some 9), .mov (.t 8), none⟩,
     ⟨(some 10), .mov (.t 0), (some (9, false))⟩,
     ⟨(some 11), .bin .eql .no (.t 10) (.c (.int .i64 4)), (some (9, false))⟩,
     ⟨(some 12), .pick (.t 9) (.c (.bool true)) (.t 11), none⟩,
     ⟨(some 13), .mov (.t 12), none⟩,
     ⟨(some 14), .mov (.t 0), (some (13, false))⟩,
     ⟨(some 15), .bin .eql .no (.t 14) (.c (.int .i64 8)), (some (13, false))⟩,
     ⟨(some 16), .pick (.t 13) (.c (.bool true)) (.t 15), none⟩,
     ⟨(some 2), .mov (.t 16), none⟩])
  (.ret))⟩
def A_octet_Pen_put_0 : C := .seq (.ops [⟨(some 7), .mov (.t 26), none⟩])
    (.ops [⟨(some 8), .mov (.t 27), none⟩])
theorem u_A_octet_Pen_put_0 (Q : Orc) (N n : Nat) (r : Option Nat) (st : St) : evC Q N n r A_octet_Pen_put_0 st = evC Q N n r (.seq (.ops [⟨(some 7), .mov (.t 26), none⟩])
    (.ops [⟨(some 8), .mov (.t 27), none⟩])) st := _root_.id rfl
def B_octet_Pen_put_0 : C := .block 1 (.dops 0 [] [(⟨(some 28), .load none (.t 3), none⟩, .R [] []),
       (⟨(some 29), .nilchk (.t 28), none⟩, .L),
       (⟨(some 30), .fieldAddr 0 (.t 29), none⟩, .L),
       (⟨(some 31), .load none (.t 30), none⟩, .R [] []),
       (⟨(some 32), .load none (.t 6), none⟩, .R [] []),
       (⟨(some 33), .mov (.t 7), none⟩, .L),
       (⟨(some 34), .bin .add .no (.t 32) (.t 33), none⟩, .L),
       (⟨(some 35), .mov (.t 8), none⟩, .L),
       (⟨(some 36), .idxAddrS 1 (.t 31) (.t 34), none⟩, .L),
       (⟨none, .store 1 (.t 36) (.t 35), none⟩, .B [])])
theorem u_B_octet_Pen_put_0 (Q : Orc) (N n : Nat) (r : Option Nat) (st : St) : evC Q N n r B_octet_Pen_put_0 st = evC Q N n r (.block 1 (.dops 0 [] [(⟨(some 28), .load none (.t 3), none⟩, .R [] []),
       (⟨(some 29), .nilchk (.t 28), none⟩, .L),
       (⟨(some 30), .fieldAddr 0 (.t 29), none⟩, .L),
       (⟨(some 31), .load none (.t 30), none⟩, .R [] []),
       (⟨(some 32), .load none (.t 6), none⟩, .R [] []),
       (⟨(some 33), .mov (.t 7), none⟩, .L),
       (⟨(some 34), .bin .add .no (.t 32) (.t 33), none⟩, .L),
       (⟨(some 35), .mov (.t 8), none⟩, .L),
       (⟨(some 36), .idxAddrS 1 (.t 31) (.t 34), none⟩, .L),
       (⟨none, .store 1 (.t 36) (.t 35), none⟩, .B [])])) st := _root_.id rfl
/-- (*purser/octet.Pen).put -/
def f_octet_Pen_put : Fn := ⟨37, [],
  .seq (.ops [⟨(some 3), .box (.t 0), none⟩])
  (.seq (.ops [⟨(some 9), .load none (.t 3), none⟩,
     ⟨(some 10), .nilchk (.t 9), none⟩,
     ⟨(some 11), .fieldAddr 0 (.t 10), none⟩,
     ⟨(some 12), .load none (.t 11), none⟩,
     ⟨(some 13), .len false (.t 12), none⟩,
     ⟨(some 6), .alloc [(.int .i64 0)], none⟩,
     ⟨none, .store 1 (.t 6) (.t 13), none⟩])
  (.seq (.dops 0 [] [(⟨(some 14), .load none (.t 3), none⟩, .R [] [(1, [])]),
     (⟨(some 15), .load none (.t 3), none⟩, .R [] []),
     (⟨(some 16), .nilchk (.t 15), none⟩, .L),
     (⟨(some 17), .fieldAddr 0 (.t 16), none⟩, .L),
     (⟨(some 18), .load none (.t 17), none⟩, .R [] []),
     (⟨(some 19), .mov (.t 1), none⟩, .L),
     (⟨(some 20), .appendZ [(.int .u8 0)] 1 (.t 18) (.t 19), none⟩, .B []),
     (⟨(some 21), .nilchk (.t 14), none⟩, .L),
     (⟨(some 22), .fieldAddr 0 (.t 21), none⟩, .L),
     (⟨none, .store 1 (.t 22) (.t 20), none⟩, .B [])])
  (.seq (.ops [⟨(some 23), .mov (.t 2), none⟩,
     ⟨(some 24), .mov (.t 1), none⟩,
     ⟨(some 25), .call k_octet_highFirst [(.t 23), (.t 24)], none⟩])
  (.block 0 (.rangeF (.t 25) [26, 27] (A_octet_Pen_put_0)
   (B_octet_Pen_put_0))))))⟩
def L_purserref01_power_0 : C := .seq (.seq (.ops [⟨(some 5), .mov (.t 4), none⟩,
         ⟨(some 6), .mov (.t 0), none⟩,
         ⟨(some 7), .bin .lss .no (.t 5) (.t 6), none⟩])
      (.cond (.t 7)
       (.skip)
       (.exit 0)))
     (.seq (.block 1 (.ops [⟨(some 10), .mov (.t 3), none⟩,
         ⟨(some 11), .bin .mul .no (.t 10) (.c (.int .u64 256)), none⟩,
         ⟨(some 3), .mov (.t 11), none⟩]))
     (.ops [⟨(some 8), .mov (.t 4), none⟩,
       ⟨(some 9), .bin .add .no (.t 8) (.c (.int .i64 1)), none⟩,
       ⟨(some 4), .mov (.t 9), none⟩]))
def R_purserref01_power_0 : C := .seq (.ops [⟨(some 12), .mov (.t 3), none⟩,
     ⟨(some 2), .mov (.t 12), none⟩])
  (.ret)
/-- purser/purserref01.power -/
def f_purserref01_power : Fn := ⟨13, [.tmp 2],
  .seq (.ops [⟨(some 2), .mov (.c (.int .u64 0)), none⟩])
  (.seq (.ops [⟨(some 3), .mov (.c (.int .u64 1)), none⟩])
  (.seq (.seq (.ops [⟨(some 4), .mov (.c (.int .i64 0)), none⟩])
   (.block 0 (.loop (L_purserref01_power_0))))
  (R_purserref01_power_0)))⟩
/-- purser/octet.mark -/
def f_octet_mark : Fn := ⟨8, [.tmp 2],
  .seq (.ops [⟨(some 2), .mov (.c (.int .u8 0)), none⟩])
  (.seq (.seq (.ops [⟨(some 3), .mov (.t 0), none⟩])
   (.block 0 (.seq (.ops [⟨(some 5), .bin .eql .no (.t 3) (.c (.int .i64 2)), none⟩,
       ⟨(some 4), .mov (.t 5), none⟩])
    (.cond (.t 4)
     (.seq (.ops [⟨(some 2), .mov (.c (.int .u8 253)), none⟩])
      (.ret))
     (.seq (.ops [⟨(some 7), .bin .eql .no (.t 3) (.c (.int .i64 4)), none⟩,
         ⟨(some 6), .mov (.t 7), none⟩])
      (.cond (.t 6)
       (.seq (.ops [⟨(some 2), .mov (.c (.int .u8 254)), none⟩])
        (.ret))
       (.skip)))))))
  (.seq (.ops [⟨(some 2), .mov (.c (.int .u8 255)), none⟩])
  (.ret)))⟩
/-- purser/octet.highFirst -/
def f_octet_highFirst : Fn := ⟨6, [.tmp 4],
  .seq (.ops [⟨(some 2), .box (.t 0), none⟩,
     ⟨(some 3), .box (.t 1), none⟩,
     ⟨(some 4), .mov (.c .nilFn), none⟩])
  (.seq (.ops [⟨(some 5), .mkfn k_octet_highFirst_1 [] [(.t 3), (.t 2)], none⟩,
     ⟨(some 4), .mov (.t 5), none⟩])
  (.ret))⟩
def L_octet_number_0 : C := .seq (.seq (.ops [⟨(some 8), .mov (.t 4), none⟩,
         ⟨(some 9), .bin .geq .no (.t 8) (.c (.int .i64 0)), none⟩])
      (.cond (.t 9)
       (.skip)
       (.exit 0)))
     (.seq (.block 1 (.ops [⟨(some 12), .mov (.t 3), none⟩,
         ⟨(some 13), .bin .shl .no (.t 12) (.c (.int .u64 8)), none⟩,
         ⟨(some 14), .mov (.t 0), none⟩,
         ⟨(some 15), .mov (.t 4), none⟩,
         ⟨(some 16), .idxAddrS 1 (.t 14) (.t 15), none⟩,
         ⟨(some 17), .load none (.t 16), none⟩,
         ⟨(some 18), .conv .u64 (.t 17), none⟩,
         ⟨(some 19), .bin .or .no (.t 13) (.t 18), none⟩,
         ⟨(some 3), .mov (.t 19), none⟩]))
     (.ops [⟨(some 10), .mov (.t 4), none⟩,
       ⟨(some 11), .bin .sub .no (.t 10) (.c (.int .i64 1)), none⟩,
       ⟨(some 4), .mov (.t 11), none⟩]))
def R_octet_number_0 : C := .seq (.ops [⟨(some 20), .mov (.t 3), none⟩,
     ⟨(some 2), .mov (.t 20), none⟩])
  (.ret)
/-- purser/octet.number -/
def f_octet_number : Fn := ⟨21, [.tmp 2],
  .seq (.ops [⟨(some 2), .mov (.c (.int .u64 0)), none⟩])
  (.seq (.ops [⟨(some 3), .mov (.c (.int .u64 0)), none⟩])
  (.seq (.seq (.ops [⟨(some 5), .mov (.t 0), none⟩,
      ⟨(some 6), .len false (.t 5), none⟩,
      ⟨(some 7), .bin .sub .no (.t 6) (.c (.int .i64 1)), none⟩,
      ⟨(some 4), .mov (.t 7), none⟩])
   (.block 0 (.loop (L_octet_number_0))))
  (R_octet_number_0)))⟩
/-- purser/octet.compact -/
def f_octet_compact : Fn := ⟨33, [.tmp 2, .tmp 3, .tmp 4],
  .seq (.ops [⟨(some 2), .mov (.c (.int .u64 0)), none⟩,
     ⟨(some 3), .mov (.c (.int .i64 0)), none⟩,
     ⟨(some 4), .mov (.c (.bool false)), none⟩])
  (.seq (.seq (.ops [⟨(some 5), .mov (.t 0), none⟩,
      ⟨(some 6), .len false (.t 5), none⟩,
      ⟨(some 7), .bin .eql .no (.t 6) (.c (.int .i64 0)), none⟩])
   (.cond (.t 7)
    (.seq (.ops [⟨(some 2), .mov (.c (.int .u64 0)), none⟩,
        ⟨(some 3), .mov (.c (.int .i64 0)), none⟩,
        ⟨(some 4), .mov (.c (.bool false)), none⟩])
     (.ret))
    (.skip)))
  (.seq (.ops [⟨(some 8), .mov (.t 0), none⟩,
     ⟨(some 9), .idxAddrS 1 (.t 8) (.c (.int .i64 0)), none⟩,
     ⟨(some 10), .load none (.t 9), none⟩,
     ⟨(some 11), .call k_octet_following [(.t 10)], none⟩,
     ⟨(some 12), .bin .add .no (.c (.int .i64 1)) (.t 11), none⟩,
     ⟨(some 3), .mov (.t 12), none⟩])
  (.seq (.seq (.ops [⟨(some 13), .mov (.t 0), none⟩,
      ⟨(some 14), .len false (.t 13), none⟩,
      ⟨(some 15), .mov (.t 3), none⟩,
      ⟨(some 16), .bin .lss .no (.t 14) (.t 15), none⟩])
   (.cond (.t 16)
    (.seq (.ops [⟨(some 2), .mov (.c (.int .u64 0)), none⟩,
        ⟨(some 3), .mov (.c (.int .i64 0)), none⟩,
        ⟨(some 4), .mov (.c (.bool false)), none⟩])
     (.ret))
    (.skip)))
  (.seq (.ops [⟨(some 17), .mov (.t 0), none⟩,
     ⟨(some 18), .idxAddrS 1 (.t 17) (.c (.int .i64 0)), none⟩,
     ⟨(some 19), .load none (.t 18), none⟩,
     ⟨(some 20), .conv .u64 (.t 19), none⟩,
     ⟨(some 2), .mov (.t 20), none⟩])
  (.seq (.seq (.ops [⟨(some 21), .mov (.t 3), none⟩,
      ⟨(some 22), .bin .gtr .no (.t 21) (.c (.int .i64 1)), none⟩])
   (.cond (.t 22)
    (.ops [⟨(some 23), .mov (.t 0), none⟩,
       ⟨(some 24), .mov (.t 3), none⟩,
       ⟨(some 25), .slcS 1 (.t 23) (some (.c (.int .i64 1))) (some (.t 24)) none, none⟩,
       ⟨(some 26), .call k_octet_number [(.t 25)], none⟩,
       ⟨(some 2), .mov (.t 26), none⟩])
    (.skip)))
  (.seq (.ops [⟨(some 27), .mov (.t 2), none⟩,
     ⟨(some 28), .mov (.t 3), none⟩,
     ⟨(some 29), .mov (.t 2), none⟩,
     ⟨(some 30), .call k_octet_Compact [(.t 29)], none⟩,
     ⟨(some 31), .mov (.t 3), none⟩,
     ⟨(some 32), .bin .eql .no (.t 30) (.t 31), none⟩,
     ⟨(some 2), .mov (.t 27), none⟩,
     ⟨(some 3), .mov (.t 28), none⟩,
     ⟨(some 4), .mov (.t 32), none⟩])
  (.ret)))))))⟩
/-- (*purser/octet.Eye).take -/
def f_octet_Eye_take : Fn := ⟨31, [.tmp 4],
  .seq (.ops [⟨(some 4), .mov (.c (.slice none 0 (some 0) 0)), none⟩])
  (.seq (.dops 0 [] [(⟨(some 6), .mov (.t 0), none⟩, .L),
     (⟨(some 7), .nilchk (.t 6), none⟩, .L),
     (⟨(some 8), .fieldAddr 0 (.t 7), none⟩, .L),
     (⟨(some 9), .load none (.t 8), none⟩, .R [] []),
     (⟨(some 10), .mov (.t 0), none⟩, .L),
     (⟨(some 11), .nilchk (.t 10), none⟩, .L),
     (⟨(some 12), .fieldAddr 1 (.t 11), none⟩, .L),
     (⟨(some 13), .load none (.t 12), none⟩, .R [] []),
     (⟨(some 14), .mov (.t 0), none⟩, .L),
     (⟨(some 15), .nilchk (.t 14), none⟩, .L),
     (⟨(some 16), .fieldAddr 1 (.t 15), none⟩, .L),
     (⟨(some 17), .load none (.t 16), none⟩, .R [] []),
     (⟨(some 18), .mov (.t 1), none⟩, .L),
     (⟨(some 19), .bin .add .no (.t 17) (.t 18), none⟩, .L),
     (⟨(some 20), .slcS 1 (.t 9) (some (.t 13)) (some (.t 19)) none, none⟩, .L),
     (⟨(some 21), .append 1 1 (.c (.slice none 0 (some 0) 0)) (.t 20), none⟩, .B []),
     (⟨(some 5), .mov (.t 21), none⟩, .L)])
  (.seq (.ops [⟨(some 22), .mov (.t 0), none⟩,
     ⟨(some 23), .nilchk (.t 22), none⟩,
     ⟨(some 24), .fieldAddr 1 (.t 23), none⟩,
     ⟨(some 25), .load none (.t 24), none⟩,
     ⟨(some 26), .mov (.t 1), none⟩,
     ⟨(some 27), .bin .add .no (.t 25) (.t 26), none⟩,
     ⟨(some 28), .nilchk (.t 22), none⟩,
     ⟨(some 29), .fieldAddr 1 (.t 28), none⟩,
     ⟨none, .store 1 (.t 29) (.t 27), none⟩])
  (.seq (.ops [⟨(some 30), .mov (.t 5), none⟩,
     ⟨(some 4), .mov (.t 30), none⟩])
  (.ret))))⟩
/-- purser/tx.counted -/
def f_tx_counted : Fn := ⟨9, [.tmp 2],
  .seq (.ops [⟨(some 2), .mov (.c (.bool false)), none⟩])
  (.seq (.ops [⟨(some 3), .mov (.t 0), none⟩,
     ⟨(some 4), .bin .geq .no (.t 3) (.c (.int .i64 1)), none⟩,
     ⟨(some 5), .mov (.t 4), none⟩,
     ⟨(some 6), .mov (.t 0), (some (5, true))⟩,
     ⟨(some 7), .bin .leq .no (.t 6) (.c (.int .i64 50)), (some (5, true))⟩,
     ⟨(some 8), .pick (.t 5) (.t 7) (.c (.bool false)), none⟩,
     ⟨(some 2), .mov (.t 8), none⟩])
  (.ret))⟩
/-- purser/tx.scripts -/
def f_tx_scripts : Fn := ⟨4, [.tmp 2],
  .seq (.ops [⟨(some 1), .box (.t 0), none⟩,
     ⟨(some 2), .mov (.c .nilFn), none⟩])
  (.seq (.ops [⟨(some 3), .mkfn k_tx_scripts_1 [] [(.t 1)], none⟩,
     ⟨(some 2), .mov (.t 3), none⟩])
  (.ret))⟩
/-- math/bits.Mul -/
def f_math_bits_Mul : Fn := ⟨30, [.tmp 4, .tmp 5],
  .seq (.ops [⟨(some 4), .mov (.c (.int .u64 0)), none⟩,
     ⟨(some 5), .mov (.c (.int .u64 0)), none⟩])
  (.seq (.cond (.c (.bool false))
    (.seq (.ops [⟨(some 11), .mov (.t 0), none⟩,
        ⟨(some 12), .conv .u32 (.t 11), none⟩,
        ⟨(some 13), .mov (.t 1), none⟩,
        ⟨(some 14), .conv .u32 (.t 13), none⟩,
        ⟨(some 15), .call k_math_bits_Mul32 [(.t 12), (.t 14)], none⟩,
        ⟨(some 10), .mov (.t 15), none⟩,
        ⟨(some 16), .ext (.t 10) 0, none⟩,
        ⟨(some 17), .ext (.t 10) 1, none⟩,
        ⟨(some 6), .mov (.t 16), none⟩,
        ⟨(some 7), .mov (.t 17), none⟩])
     (.seq (.ops [⟨(some 18), .mov (.t 6), none⟩,
        ⟨(some 19), .conv .u64 (.t 18), none⟩,
        ⟨(some 20), .mov (.t 7), none⟩,
        ⟨(some 21), .conv .u64 (.t 20), none⟩,
        ⟨(some 4), .mov (.t 19), none⟩,
        ⟨(some 5), .mov (.t 21), none⟩])
     (.ret)))
    (.skip))
  (.seq (.ops [⟨(some 23), .mov (.t 0), none⟩,
     ⟨(some 24), .mov (.t 1), none⟩,
     ⟨(some 25), .call k_math_bits_Mul64 [(.t 23), (.t 24)], none⟩,
     ⟨(some 22), .mov (.t 25), none⟩,
     ⟨(some 26), .ext (.t 22) 0, none⟩,
     ⟨(some 27), .ext (.t 22) 1, none⟩,
     ⟨(some 8), .mov (.t 26), none⟩,
     ⟨(some 9), .mov (.t 27), none⟩])
  (.seq (.ops [⟨(some 28), .mov (.t 8), none⟩,
     ⟨(some 29), .mov (.t 9), none⟩,
     ⟨(some 4), .mov (.t 28), none⟩,
     ⟨(some 5), .mov (.t 29), none⟩])
  (.ret))))⟩
/-- strings.HasPrefix -/
def f_strings_HasPrefix : Fn := ⟨8, [.tmp 4],
  .seq (.ops [⟨(some 4), .mov (.c (.bool false)), none⟩])
  (.seq (.ops [⟨(some 5), .mov (.t 0), none⟩,
     ⟨(some 6), .mov (.t 1), none⟩,
     ⟨(some 7), .call k_internal_stringslite_HasPrefix [(.t 5), (.t 6)], none⟩,
     ⟨(some 4), .mov (.t 7), none⟩])
  (.ret))⟩
/-- (*strings.Builder).Grow -/
def f_strings_Builder_Grow : Fn := ⟨25, [],
  .seq (.ops [⟨(some 4), .mov (.t 0), none⟩,
     ⟨(some 5), .call k_strings_Builder_copyCheck [(.t 4)], none⟩])
  (.seq (.seq (.ops [⟨(some 6), .mov (.t 1), none⟩,
      ⟨(some 7), .bin .lss .no (.t 6) (.c (.int .i64 0)), none⟩])
   (.cond (.t 7)
    (.ops [⟨(some 8), .bad "", none⟩,
       ⟨none, .bad "", none⟩])
    (.skip)))
  (.seq (.dops 0 [] [(⟨(some 9), .mov (.t 0), none⟩, .L),
     (⟨(some 10), .nilchk (.t 9), none⟩, .L),
     (⟨(some 11), .fieldAddr 1 (.t 10), none⟩, .L),
     (⟨(some 12), .load none (.t 11), none⟩, .R [] []),
     (⟨(some 13), .cap (.t 12), none⟩, .L),
     (⟨(some 14), .mov (.t 0), none⟩, .L),
     (⟨(some 15), .nilchk (.t 14), none⟩, .L),
     (⟨(some 16), .fieldAddr 1 (.t 15), none⟩, .L),
     (⟨(some 17), .load none (.t 16), none⟩, .R [] []),
     (⟨(some 18), .len false (.t 17), none⟩, .L),
     (⟨(some 19), .bin .sub .no (.t 13) (.t 18), none⟩, .L),
     (⟨(some 20), .mov (.t 1), none⟩, .L),
     (⟨(some 21), .bin .lss .no (.t 19) (.t 20), none⟩, .L)])
  (.cond (.t 21)
   (.ops [⟨(some 22), .mov (.t 0), none⟩,
      ⟨(some 23), .mov (.t 1), none⟩,
      ⟨(some 24), .call k_strings_Builder_grow [(.t 22), (.t 23)], none⟩])
   (.skip))))⟩
/-- (*strings.Builder).WriteString -/
def f_strings_Builder_WriteString : Fn := ⟨19, [.tmp 4, .tmp 5],
  .seq (.ops [⟨(some 4), .mov (.c (.int .i64 0)), none⟩,
     ⟨(some 5), .mov (.c .nilIface), none⟩])
  (.seq (.ops [⟨(some 6), .mov (.t 0), none⟩,
     ⟨(some 7), .call k_strings_Builder_copyCheck [(.t 6)], none⟩])
  (.seq (.ops [⟨(some 8), .mov (.t 0), none⟩,
     ⟨(some 9), .mov (.t 0), none⟩,
     ⟨(some 10), .nilchk (.t 9), none⟩,
     ⟨(some 11), .fieldAddr 1 (.t 10), none⟩,
     ⟨(some 12), .load none (.t 11), none⟩,
     ⟨(some 13), .mov (.t 1), none⟩,
     ⟨(some 14), .append 1 1 (.t 12) (.t 13), none⟩,
     ⟨(some 15), .nilchk (.t 8), none⟩,
     ⟨(some 16), .fieldAddr 1 (.t 15), none⟩,
     ⟨none, .store 1 (.t 16) (.t 14), none⟩])
  (.seq (.ops [⟨(some 17), .mov (.t 1), none⟩,
     ⟨(some 18), .len true (.t 17), none⟩,
     ⟨(some 4), .mov (.t 18), none⟩,
     ⟨(some 5), .mov (.c .nilIface), none⟩])
  (.ret))))⟩
/-- (*strings.Builder).Len -/
def f_strings_Builder_Len : Fn := ⟨8, [.tmp 2],
  .seq (.ops [⟨(some 2), .mov (.c (.int .i64 0)), none⟩])
  (.seq (.ops [⟨(some 3), .mov (.t 0), none⟩,
     ⟨(some 4), .nilchk (.t 3), none⟩,
     ⟨(some 5), .fieldAddr 1 (.t 4), none⟩,
     ⟨(some 6), .load none (.t 5), none⟩,
     ⟨(some 7), .len false (.t 6), none⟩,
     ⟨(some 2), .mov (.t 7), none⟩])
  (.ret))⟩
/-- (*strings.Builder).String -/
def f_strings_Builder_String : Fn := ⟨14, [.tmp 2],
  .seq (.ops [⟨(some 2), .mov (.c (.str [])), none⟩])
  (.seq (.dops 0 [] [(⟨(some 3), .mov (.t 0), none⟩, .L),
     (⟨(some 4), .nilchk (.t 3), none⟩, .L),
     (⟨(some 5), .fieldAddr 1 (.t 4), none⟩, .L),
     (⟨(some 6), .load none (.t 5), none⟩, .R [] []),
     (⟨(some 7), .bad "", none⟩, .B []),
     (⟨(some 8), .mov (.t 0), none⟩, .L),
     (⟨(some 9), .nilchk (.t 8), none⟩, .L),
     (⟨(some 10), .fieldAddr 1 (.t 9), none⟩, .L),
     (⟨(some 11), .load none (.t 10), none⟩, .R [] [(2, [])]),
     (⟨(some 12), .len false (.t 11), none⟩, .L),
     (⟨(some 13), .bad "", none⟩, .B []),
     (⟨(some 2), .mov (.t 13), none⟩, .L)])
  (.ret))⟩
def L_octet_highFirst_1_0 : C := .seq (.seq (.ops [⟨(some 7), .mov (.t 4), none⟩,
        ⟨(some 8), .bin .geq .no (.t 7) (.c (.int .i64 0)), none⟩])
     (.cond (.t 8)
      (.skip)
      (.exit 0)))
    (.seq (.block 1 (.seq (.ops [⟨(some 11), .mov (.t 0), none⟩,
         ⟨(some 12), .mov (.t 4), none⟩,
         ⟨(some 13), .load none (.t 2), none⟩,
         ⟨(some 14), .mov (.t 4), none⟩,
         ⟨(some 15), .bin .mul .no (.c (.int .i64 8)) (.t 14), none⟩,
         ⟨(some 16), .bin .shr .no (.t 13) (.t 15), none⟩,
         ⟨(some 17), .conv .u8 (.t 16), none⟩,
         ⟨(some 18), .callv (.t 11) [(.t 12), (.t 17)], none⟩,
         ⟨(some 19), .un .not (.t 18), none⟩])
      (.cond (.t 19)
       (.ret)
       (.skip))))
    (.ops [⟨(some 9), .mov (.t 4), none⟩,
      ⟨(some 10), .bin .sub .no (.t 9) (.c (.int .i64 1)), none⟩,
      ⟨(some 4), .mov (.t 10), none⟩]))
/-- purser/octet.highFirst$1 -/
def f_octet_highFirst_1 : Fn := ⟨20, [],
  .seq (.ops [⟨(some 5), .load none (.t 1), none⟩,
     ⟨(some 6), .bin .sub .no (.t 5) (.c (.int .i64 1)), none⟩,
     ⟨(some 4), .mov (.t 6), none⟩])
  (.block 0 (.loop (L_octet_highFirst_1_0)))⟩
/-- purser/octet.following -/
def f_octet_following : Fn := ⟨10, [.tmp 2],
  .seq (.ops [⟨(some 2), .mov (.c (.int .i64 0)), none⟩])
  (.seq (.seq (.ops [⟨(some 3), .mov (.t 0), none⟩])
   (.block 0 (.seq (.ops [⟨(some 5), .bin .eql .no (.t 3) (.c (.int .u8 253)), none⟩,
       ⟨(some 4), .mov (.t 5), none⟩])
    (.cond (.t 4)
     (.seq (.ops [⟨(some 2), .mov (.c (.int .i64 2)), none⟩])
      (.ret))
     (.seq (.ops [⟨(some 7), .bin .eql .no (.t 3) (.c (.int .u8 254)), none⟩,
         ⟨(some 6), .mov (.t 7), none⟩])
      (.cond (.t 6)
       (.seq (.ops [⟨(some 2), .mov (.c (.int .i64 4)), none⟩])
        (.ret))
       (.seq (.ops [⟨(some 9), .bin .eql .no (.t 3) (.c (.int .u8 255)), none⟩,
           ⟨(some 8), .mov (.t 9), none⟩])
        (.cond (.t 8)
         (.seq (.ops [⟨(some 2), .mov (.c (.int .i64 8)), none⟩])
          (.ret))
         (.skip)))))))))
  (.seq (.ops [⟨(some 2), .mov (.c (.int .i64 0)), none⟩])
  (.ret)))⟩
def L_tx_scripts_1_0 : C := .seq (.ops [⟨(some 11), .bin .lss .no (.t 10) (.t 9), none⟩])
     (.seq (.cond (.t 11)
       (.skip)
       (.exit 0))
     (.seq (.block 1 (.seq (.ops [⟨(some 12), .idxAddrS 35 (.t 8) (.t 10), none⟩,
          ⟨(some 13), .load (some 35) (.t 12), none⟩,
          ⟨(some 4), .alloc [(.int .u8 0), (.int .u8 0), (.int .u8 0), (.int .u8 0), (.int .u8 0), (.int .u8 0), (.int .u8 0), (.int .u8 0), (.int .u8 0), (.int .u8 0), (.int .u8 0), (.int .u8 0), (.int .u8 0), (.int .u8 0), (.int .u8 0), (.int .u8 0), (.int .u8 0), (.int .u8 0), (.int .u8 0), (.int .u8 0), (.int .u8 0), (.int .u8 0), (.int .u8 0), (.int .u8 0), (.int .u8 0), (.int .u8 0), (.int .u8 0), (.int .u8 0), (.int .u8 0), (.int .u8 0), (.int .u8 0), (.int .u8 0), (.int .u32 0), (.slice none 0 (some 0) 0), (.int .u32 0)], none⟩,
          ⟨none, .store 35 (.t 4) (.t 13), none⟩])
       (.seq (.ops [⟨(some 14), .mov (.t 0), none⟩,
          ⟨(some 15), .fieldAddr 33 (.t 4), none⟩,
          ⟨(some 16), .load none (.t 15), none⟩,
          ⟨(some 17), .callv (.t 14) [(.t 16)], none⟩,
          ⟨(some 18), .un .not (.t 17), none⟩])
       (.cond (.t 18)
        (.ret)
        (.skip)))))
     (.ops [⟨(some 19), .bin .add .no (.t 10) (.c (.int .i64 1)), none⟩,
       ⟨(some 10), .mov (.t 19), none⟩])))
def L_tx_scripts_1_1 : C := .seq (.ops [⟨(some 24), .bin .lss .no (.t 23) (.t 22), none⟩])
    (.seq (.cond (.t 24)
      (.skip)
      (.exit 2))
    (.seq (.block 3 (.seq (.ops [⟨(some 25), .idxAddrS 2 (.t 21) (.t 23), none⟩,
         ⟨(some 26), .load (some 2) (.t 25), none⟩,
         ⟨(some 6), .alloc [(.int .i64 0), (.slice none 0 (some 0) 0)], none⟩,
         ⟨none, .store 2 (.t 6) (.t 26), none⟩])
      (.seq (.ops [⟨(some 27), .mov (.t 0), none⟩,
         ⟨(some 28), .fieldAddr 1 (.t 6), none⟩,
         ⟨(some 29), .load none (.t 28), none⟩,
         ⟨(some 30), .callv (.t 27) [(.t 29)], none⟩,
         ⟨(some 31), .un .not (.t 30), none⟩])
      (.cond (.t 31)
       (.ret)
       (.skip)))))
    (.ops [⟨(some 32), .bin .add .no (.t 23) (.c (.int .i64 1)), none⟩,
      ⟨(some 23), .mov (.t 32), none⟩])))
def R_tx_scripts_1_0 : C := .seq (.ops [⟨(some 20), .fieldAddr 2 (.t 1), none⟩,
     ⟨(some 21), .load none (.t 20), none⟩,
     ⟨(some 22), .len false (.t 21), none⟩,
     ⟨(some 23), .mov (.c (.int .i64 0)), none⟩])
  (.block 2 (.loop (L_tx_scripts_1_1)))
/-- purser/tx.scripts$1 -/
def f_tx_scripts_1 : Fn := ⟨33, [],
  .seq (.seq (.ops [⟨(some 7), .fieldAddr 1 (.t 1), none⟩,
      ⟨(some 8), .load none (.t 7), none⟩,
      ⟨(some 9), .len false (.t 8), none⟩,
      ⟨(some 10), .mov (.c (.int .i64 0)), none⟩])
   (.block 0 (.loop (L_tx_scripts_1_0))))
  (R_tx_scripts_1_0)⟩
/-- math/bits.Mul32 -/
def f_math_bits_Mul32 : Fn := ⟨17, [.tmp 4, .tmp 5],
  .seq (.ops [⟨(some 4), .mov (.c (.int .u32 0)), none⟩,
     ⟨(some 5), .mov (.c (.int .u32 0)), none⟩])
  (.seq (.ops [⟨(some 7), .mov (.t 0), none⟩,
     ⟨(some 8), .conv .u64 (.t 7), none⟩,
     ⟨(some 9), .mov (.t 1), none⟩,
     ⟨(some 10), .conv .u64 (.t 9), none⟩,
     ⟨(some 11), .bin .mul .no (.t 8) (.t 10), none⟩,
     ⟨(some 6), .mov (.t 11), none⟩])
  (.seq (.ops [⟨(some 12), .mov (.t 6), none⟩,
     ⟨(some 13), .bin .shr .no (.t 12) (.c (.int .u64 32)), none⟩,
     ⟨(some 14), .conv .u32 (.t 13), none⟩,
     ⟨(some 15), .mov (.t 6), none⟩,
     ⟨(some 16), .conv .u32 (.t 15), none⟩,
     ⟨(some 4), .mov (.t 14), none⟩,
     ⟨(some 5), .mov (.t 16), none⟩])
  (.ret)))⟩
/-- math/bits.Mul64 -/
def f_math_bits_Mul64 : Fn := ⟨51, [.tmp 4, .tmp 5],
  .seq (.ops [⟨(some 4), .mov (.c (.int .u64 0)), none⟩,
     ⟨(some 5), .mov (.c (.int .u64 0)), none⟩])
  (.seq (.ops [⟨(some 14), .mov (.t 0), none⟩,
     ⟨(some 15), .bin .and .no (.t 14) (.c (.int .u64 4294967295)), none⟩,
     ⟨(some 6), .mov (.t 15), none⟩])
  (.seq (.ops [⟨(some 16), .mov (.t 0), none⟩,
     ⟨(some 17), .bin .shr .no (.t 16) (.c (.int .u64 32)), none⟩,
     ⟨(some 7), .mov (.t 17), none⟩])
  (.seq (.ops [⟨(some 18), .mov (.t 1), none⟩,
     ⟨(some 19), .bin .and .no (.t 18) (.c (.int .u64 4294967295)), none⟩,
     ⟨(some 8), .mov (.t 19), none⟩])
  (.seq (.ops [⟨(some 20), .mov (.t 1), none⟩,
     ⟨(some 21), .bin .shr .no (.t 20) (.c (.int .u64 32)), none⟩,
     ⟨(some 9), .mov (.t 21), none⟩])
  (.seq (.ops [⟨(some 22), .mov (.t 6), none⟩,
     ⟨(some 23), .mov (.t 8), none⟩,
     ⟨(some 24), .bin .mul .no (.t 22) (.t 23), none⟩,
     ⟨(some 10), .mov (.t 24), none⟩])
  (.seq (.ops [⟨(some 25), .mov (.t 7), none⟩,
     ⟨(some 26), .mov (.t 8), none⟩,
     ⟨(some 27), .bin .mul .no (.t 25) (.t 26), none⟩,
     ⟨(some 28), .mov (.t 10), none⟩,
     ⟨(some 29), .bin .shr .no (.t 28) (.c (.int .u64 32)), none⟩,
     ⟨(some 30), .bin .add .no (.t 27) (.t 29), none⟩,
     ⟨(some 11), .mov (.t 30), none⟩])
  (.seq (.ops [⟨(some 31), .mov (.t 11), none⟩,
     ⟨(some 32), .bin .and .no (.t 31) (.c (.int .u64 4294967295)), none⟩,
     ⟨(some 12), .mov (.t 32), none⟩])
  (.seq (.ops [⟨(some 33), .mov (.t 11), none⟩,
     ⟨(some 34), .bin .shr .no (.t 33) (.c (.int .u64 32)), none⟩,
     ⟨(some 13), .mov (.t 34), none⟩])
  (.seq (.ops [⟨(some 35), .mov (.t 12), none⟩,
     ⟨(some 36), .mov (.t 6), none⟩,
     ⟨(some 37), .mov (.t 9), none⟩,
     ⟨(some 38), .bin .mul .no (.t 36) (.t 37), none⟩,
     ⟨(some 39), .bin .add .no (.t 35) (.t 38), none⟩,
     ⟨(some 12), .mov (.t 39), none⟩])
  (.seq (.ops [⟨(some 40), .mov (.t 7), none⟩,
     ⟨(some 41), .mov (.t 9), none⟩,
     ⟨(some 42), .bin .mul .no (.t 40) (.t 41), none⟩,
     ⟨(some 43), .mov (.t 13), none⟩,
     ⟨(some 44), .bin .add .no (.t 42) (.t 43), none⟩,
     ⟨(some 45), .mov (.t 12), none⟩,
     ⟨(some 46), .bin .shr .no (.t 45) (.c (.int .u64 32)), none⟩,
     ⟨(some 47), .bin .add .no (.t 44) (.t 46), none⟩,
     ⟨(some 4), .mov (.t 47), none⟩])
  (.seq (.ops [⟨(some 48), .mov (.t 0), none⟩,
     ⟨(some 49), .mov (.t 1), none⟩,
     ⟨(some 50), .bin .mul .no (.t 48) (.t 49), none⟩,
     ⟨(some 5), .mov (.t 50), none⟩])
  (.ret))))))))))))⟩
/-- internal/stringslite.HasPrefix -/
def f_internal_stringslite_HasPrefix : Fn := ⟨18, [.tmp 4],
  .seq (.ops [⟨(some 4), .mov (.c (.bool false)), none⟩])
  (.seq (.ops [⟨(some 5), .mov (.t 0), none⟩,
     ⟨(some 6), .len true (.t 5), none⟩,
     ⟨(some 7), .mov (.t 1), none⟩,
     ⟨(some 8), .len true (.t 7), none⟩,
     ⟨(some 9), .bin .geq .no (.t 6) (.t 8), none⟩,
     ⟨(some 10), .mov (.t 9), none⟩,
     ⟨(some 11), .mov (.t 0), (some (10, true))⟩,
     ⟨(some 12), .mov (.t 1), (some (10, true))⟩,
     ⟨(some 13), .len true (.t 12), (some (10, true))⟩,
     ⟨(some 14), .slcStr (.t 11) none (some (.t 13)), (some (10, true))⟩,
     ⟨(some 15), .mov (.t 1), (some (10, true))⟩,
     ⟨(some 16), .bin .eql .no (.t 14) (.t 15), (some (10, true))⟩,
     ⟨(some 17), .pick (.t 10) (.t 16) (.c (.bool false)), none⟩,
     ⟨(some 4), .mov (.t 17), none⟩])
  (.ret))⟩
/-- (*strings.Builder).copyCheck -/
def f_strings_Builder_copyCheck : Fn := ⟨20, [],
  .seq (.ops [⟨(some 2), .mov (.t 0), none⟩,
     ⟨(some 3), .nilchk (.t 2), none⟩,
     ⟨(some 4), .fieldAddr 0 (.t 3), none⟩,
     ⟨(some 5), .load none (.t 4), none⟩,
     ⟨(some 6), .bin .eql (.ref .p) (.t 5) (.c (.ptr none)), none⟩])
  (.cond (.t 6)
   (.ops [⟨(some 7), .mov (.t 0), none⟩,
      ⟨(some 8), .mov (.t 0), none⟩,
      ⟨(some 9), .bad "", none⟩,
      ⟨(some 10), .call k_internal_abi_NoEscape [(.t 9)], none⟩,
      ⟨(some 11), .bad "", none⟩,
      ⟨(some 12), .nilchk (.t 7), none⟩,
      ⟨(some 13), .fieldAddr 0 (.t 12), none⟩,
      ⟨none, .store 1 (.t 13) (.t 11), none⟩])
   (.seq (.ops [⟨(some 14), .mov (.t 0), none⟩,
       ⟨(some 15), .nilchk (.t 14), none⟩,
       ⟨(some 16), .fieldAddr 0 (.t 15), none⟩,
       ⟨(some 17), .load none (.t 16), none⟩,
       ⟨(some 18), .mov (.t 0), none⟩,
       ⟨(some 19), .bin .neq (.ref .p) (.t 17) (.t 18), none⟩])
    (.cond (.t 19)
     (.bad "")
     (.skip))))⟩
/-- (*strings.Builder).grow -/
def f_strings_Builder_grow : Fn := ⟨30, [],
  .seq (.dops 0 [] [(⟨(some 5), .mov (.t 0), none⟩, .L),
     (⟨(some 6), .nilchk (.t 5), none⟩, .L),
     (⟨(some 7), .fieldAddr 1 (.t 6), none⟩, .L),
     (⟨(some 8), .load none (.t 7), none⟩, .R [] []),
     (⟨(some 9), .cap (.t 8), none⟩, .L),
     (⟨(some 10), .bin .mul .no (.c (.int .i64 2)) (.t 9), none⟩, .L),
     (⟨(some 11), .mov (.t 1), none⟩, .L),
     (⟨(some 12), .bin .add .no (.t 10) (.t 11), none⟩, .L),
     (⟨(some 13), .call k_internal_bytealg_MakeNoZero [(.t 12)], none⟩, .B []),
     (⟨(some 14), .mov (.t 0), none⟩, .L),
     (⟨(some 15), .nilchk (.t 14), none⟩, .L),
     (⟨(some 16), .fieldAddr 1 (.t 15), none⟩, .L),
     (⟨(some 17), .load none (.t 16), none⟩, .R [] [(1, [])]),
     (⟨(some 18), .len false (.t 17), none⟩, .L),
     (⟨(some 19), .slcS 1 (.t 13) none (some (.t 18)) none, none⟩, .L),
     (⟨(some 4), .mov (.t 19), none⟩, .L)])
  (.seq (.ops [⟨(some 20), .mov (.t 4), none⟩,
     ⟨(some 21), .mov (.t 0), none⟩,
     ⟨(some 22), .nilchk (.t 21), none⟩,
     ⟨(some 23), .fieldAddr 1 (.t 22), none⟩,
     ⟨(some 24), .load none (.t 23), none⟩,
     ⟨(some 25), .copy 1 (.t 20) (.t 24), none⟩])
  (.ops [⟨(some 26), .mov (.t 0), none⟩,
    ⟨(some 27), .mov (.t 4), none⟩,
    ⟨(some 28), .nilchk (.t 26), none⟩,
    ⟨(some 29), .fieldAddr 1 (.t 28), none⟩,
    ⟨none, .store 1 (.t 29) (.t 27), none⟩]))⟩
-- no text: internal/abi.NoEscape
-- no text: internal/bytealg.MakeNoZero


end Go.Eng
