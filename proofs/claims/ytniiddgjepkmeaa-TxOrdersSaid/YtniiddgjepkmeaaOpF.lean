/- Functions of the program, as the evaluator takes them: printed by program. -/
import Derived.Test.YtniiddgjepkmeaaEngA
namespace Go.Eng
open Go
/-- purser/purserlaw06.TxOrders -/
abbrev k_purserlaw06_TxOrders : Nat := 6
/-- purser/purserlaw06.TxSorted -/
abbrev k_purserlaw06_TxSorted : Nat := 7
/-- purser/tx.Compare -/
abbrev k_tx_Compare : Nat := 30
/-- purser/purserref06.Compare -/
abbrev k_purserref06_Compare : Nat := 31
/-- purser/purserlaw06.alive -/
abbrev k_purserlaw06_alive : Nat := 32
/-- bytes.Compare -/
abbrev k_bytes_Compare : Nat := 60
/-- cmp.Compare[uint32] -/
abbrev k_cmp_Compare_uint32 : Nat := 61
/-- purser/tx.Encode -/
abbrev k_tx_Encode : Nat := 62
/-- purser/purserlaw06.some -/
abbrev k_purserlaw06_some : Nat := 63
/-- strings.Repeat -/
abbrev k_strings_Repeat : Nat := 64
/-- purser/tx.Coinbase -/
abbrev k_tx_Coinbase : Nat := 65
/-- internal/bytealg.Compare -/
abbrev k_internal_bytealg_Compare : Nat := 82
/-- cmp.isNaN[uint32] -/
abbrev k_cmp_isNaN_uint32 : Nat := 83
/-- purser/tx.Check -/
abbrev k_tx_Check : Nat := 84
/-- (*purser/octet.Pen).Fixed -/
abbrev k_octet_Pen_Fixed : Nat := 85
/-- (*purser/octet.Pen).Size -/
abbrev k_octet_Pen_Size : Nat := 86
/-- (*purser/octet.Pen).Raw -/
abbrev k_octet_Pen_Raw : Nat := 87
/-- (*purser/octet.Pen).Bytes -/
abbrev k_octet_Pen_Bytes : Nat := 88
/-- (*purser/octet.Pen).All -/
abbrev k_octet_Pen_All : Nat := 89
/-- math/bits.Mul -/
abbrev k_math_bits_Mul : Nat := 90
/-- strings.HasPrefix -/
abbrev k_strings_HasPrefix : Nat := 91
/-- (*strings.Builder).Grow -/
abbrev k_strings_Builder_Grow : Nat := 92
/-- (*strings.Builder).WriteString -/
abbrev k_strings_Builder_WriteString : Nat := 93
/-- (*strings.Builder).Len -/
abbrev k_strings_Builder_Len : Nat := 94
/-- (*strings.Builder).String -/
abbrev k_strings_Builder_String : Nat := 95
/-- purser/tx.counted -/
abbrev k_tx_counted : Nat := 118
/-- purser/tx.scripts -/
abbrev k_tx_scripts : Nat := 119
/-- purser/octet.sized -/
abbrev k_octet_sized : Nat := 120
/-- purser/octet.width -/
abbrev k_octet_width : Nat := 121
/-- (*purser/octet.Pen).put -/
abbrev k_octet_Pen_put : Nat := 122
/-- purser/octet.Compact -/
abbrev k_octet_Compact : Nat := 123
/-- purser/octet.mark -/
abbrev k_octet_mark : Nat := 124
/-- math/bits.Mul64 -/
abbrev k_math_bits_Mul64 : Nat := 81
/-- math/bits.Mul32 -/
abbrev k_math_bits_Mul32 : Nat := 125
/-- internal/stringslite.HasPrefix -/
abbrev k_internal_stringslite_HasPrefix : Nat := 126
/-- (*strings.Builder).copyCheck -/
abbrev k_strings_Builder_copyCheck : Nat := 127
/-- (*strings.Builder).grow -/
abbrev k_strings_Builder_grow : Nat := 128
/-- purser/tx.scripts$1 -/
abbrev k_tx_scripts_1 : Nat := 133
/-- purser/octet.highFirst -/
abbrev k_octet_highFirst : Nat := 134
/-- internal/abi.NoEscape -/
abbrev k_internal_abi_NoEscape : Nat := 135
/-- internal/bytealg.MakeNoZero -/
abbrev k_internal_bytealg_MakeNoZero : Nat := 136
/-- purser/octet.highFirst$1 -/
abbrev k_octet_highFirst_1 : Nat := 137
/-- purser/purserlaw06.TxOrders -/
def f_purserlaw06_TxOrders : Fn := ⟨18, [.tmp 4],
  .seq (.ops [⟨(some 2), .box (.t 0), none⟩,
     ⟨(some 3), .box (.t 1), none⟩,
     ⟨(some 4), .mov (.c (.bool false)), none⟩])
  (.seq (.dops 0 [] [(⟨(some 5), .load (some 33) (.t 2), none⟩, .R [] []),
     (⟨(some 6), .load (some 33) (.t 3), none⟩, .R [] []),
     (⟨(some 7), .call k_tx_Compare [(.t 5), (.t 6)], none⟩, .B []),
     (⟨(some 8), .load (some 33) (.t 2), none⟩, .R [] [(3, [])]),
     (⟨(some 9), .load (some 33) (.t 3), none⟩, .R [] [(3, [])]),
     (⟨(some 10), .call k_purserref06_Compare [(.t 8), (.t 9)], none⟩, .B []),
     (⟨(some 11), .bin .eql .no (.t 7) (.t 10), none⟩, .L),
     (⟨(some 12), .mov (.t 11), none⟩, .L),
     (⟨(some 13), .load (some 33) (.t 2), (some (12, true))⟩, .R [] []),
     (⟨(some 14), .load (some 33) (.t 2), (some (12, true))⟩, .R [] []),
     (⟨(some 15), .call k_tx_Compare [(.t 13), (.t 14)], (some (12, true))⟩, .B []),
     (⟨(some 16), .bin .eql .no (.t 15) (.c (.int .i64 0)), (some (12, true))⟩, .L),
     (⟨(some 17), .pick (.t 12) (.t 16) (.c (.bool false)), none⟩, .L),
     (⟨(some 4), .mov (.t 17), none⟩, .L)])
  (.ret))⟩
/-- purser/purserlaw06.TxSorted -/
def f_purserlaw06_TxSorted : Fn := ⟨86, [.tmp 6],
  .seq (.ops [⟨(some 3), .box (.t 0), none⟩,
     ⟨(some 4), .box (.t 1), none⟩,
     ⟨(some 5), .box (.t 2), none⟩,
     ⟨(some 6), .mov (.c (.bool false)), none⟩])
  (.seq (.ops [⟨(some 11), .call k_purserlaw06_alive [], none⟩,
     ⟨(some 7), .mov (.t 11), none⟩])
  (.seq (.dops 0 [] [(⟨(some 12), .load (some 33) (.t 3), none⟩, .R [] []),
     (⟨(some 13), .load (some 33) (.t 4), none⟩, .R [] []),
     (⟨(some 14), .call k_tx_Compare [(.t 12), (.t 13)], none⟩, .B []),
     (⟨(some 15), .load (some 33) (.t 4), none⟩, .R [] [(3, [])]),
     (⟨(some 16), .load (some 33) (.t 5), none⟩, .R [] [(3, [])]),
     (⟨(some 17), .call k_tx_Compare [(.t 15), (.t 16)], none⟩, .B []),
     (⟨(some 18), .load (some 33) (.t 3), none⟩, .R [] [(3, []), (2, [])]),
     (⟨(some 19), .load (some 33) (.t 5), none⟩, .R [] [(3, []), (2, [])]),
     (⟨(some 20), .call k_tx_Compare [(.t 18), (.t 19)], none⟩, .B []),
     (⟨(some 8), .mov (.t 14), none⟩, .L),
     (⟨(some 9), .mov (.t 17), none⟩, .L),
     (⟨(some 10), .mov (.t 20), none⟩, .L)])
  (.seq (.seq (.ops [⟨(some 21), .mov (.t 8), none⟩,
      ⟨(some 22), .bin .lss .no (.t 21) (.c (.int .i64 0)), none⟩,
      ⟨(some 23), .mov (.t 22), none⟩,
      ⟨(some 24), .mov (.t 9), (some (23, true))⟩,
      ⟨(some 25), .bin .lss .no (.t 24) (.c (.int .i64 0)), (some (23, true))⟩,
      ⟨(some 26), .pick (.t 23) (.t 25) (.c (.bool false)), none⟩,
      ⟨(some 27), .mov (.t 26), none⟩,
      ⟨(some 28), .mov (.t 10), (some (27, true))⟩,
      ⟨(some 29), .bin .geq .no (.t 28) (.c (.int .i64 0)), (some (27, true))⟩,
      ⟨(some 30), .pick (.t 27) (.t 29) (.c (.bool false)), none⟩,
      ⟨(some 31), .mov (.t 30), none⟩,
      ⟨(some 32), .mov (.t 8), (some (31, false))⟩,
      ⟨(some 33), .bin .gtr .no (.t 32) (.c (.int .i64 0)), (some (31, false))⟩,
      ⟨(some 34), .mov (.t 33), (some (31, false))⟩,
      ⟨(some 35), .mov (.t 9), (some (34, true))⟩,
      ⟨(some 36), .bin .gtr .no (.t 35) (.c (.int .i64 0)), (some (34, true))⟩,
      ⟨(some 37), .pick (.t 34) (.t 36) (.c (.bool false)), (some (31, false))⟩,
      ⟨(some 38), .mov (.t 37), (some (31, false))⟩,
      ⟨(some 39), .mov (.t 10), (some (38, true))⟩,
      ⟨(some 40), .bin .leq .no (.t 39) (.c (.int .i64 0)), (some (38, true))⟩,
      ⟨(some 41), .pick (.t 38) (.t 40) (.c (.bool false)), (some (31, false))⟩,
      ⟨(some 42), .pick (.t 31) (.c (.bool true)) (.t 41), none⟩,
      ⟨(some 43), .mov (.t 42), none⟩,
      ⟨(some 44), .mov (.t 8), (some (43, false))⟩,
      ⟨(some 45), .bin .eql .no (.t 44) (.c (.int .i64 0)), (some (43, false))⟩,
      ⟨(some 46), .mov (.t 45), (some (43, false))⟩,
      ⟨(some 47), .mov (.t 10), (some (46, true))⟩,
      ⟨(some 48), .mov (.t 9), (some (46, true))⟩,
      ⟨(some 49), .bin .neq .no (.t 47) (.t 48), (some (46, true))⟩,
      ⟨(some 50), .pick (.t 46) (.t 49) (.c (.bool false)), (some (43, false))⟩,
      ⟨(some 51), .pick (.t 43) (.c (.bool true)) (.t 50), none⟩])
   (.cond (.t 51)
    (.seq (.ops [⟨(some 6), .mov (.c (.bool false)), none⟩])
     (.ret))
    (.skip)))
  (.seq (.ops [⟨(some 52), .mov (.t 7), none⟩,
     ⟨(some 53), .mov (.t 52), none⟩,
     ⟨(some 54), .load (some 33) (.t 4), (some (53, true))⟩,
     ⟨(some 55), .load (some 33) (.t 3), (some (53, true))⟩,
     ⟨(some 56), .call k_tx_Compare [(.t 54), (.t 55)], (some (53, true))⟩,
     ⟨(some 57), .mov (.t 8), (some (53, true))⟩,
     ⟨(some 58), .un .neg (.t 57), (some (53, true))⟩,
     ⟨(some 59), .bin .eql .no (.t 56) (.t 58), (some (53, true))⟩,
     ⟨(some 60), .pick (.t 53) (.t 59) (.c (.bool false)), none⟩,
     ⟨(some 61), .mov (.t 60), none⟩,
     ⟨(some 62), .mov (.t 8), (some (61, true))⟩,
     ⟨(some 63), .bin .eql .no (.t 62) (.c (.int .i64 0)), (some (61, true))⟩,
     ⟨(some 64), .load (some 33) (.t 3), (some (61, true))⟩,
     ⟨(some 65), .load (some 33) (.t 4), (some (61, true))⟩,
     ⟨(some 66), .bin .eql (.flat [.i, .i, .i, .i, .i, .i, .i, .i, .i, .i, .i, .i, .i, .i, .i, .i, .i, .i, .i, .i, .i, .i, .i, .i, .i, .i, .i, .i, .i, .i, .i, .i, .i]) (.t 64) (.t 65), (some (61, true))⟩,
     ⟨(some 67), .bin .eql .bool (.t 63) (.t 66), (some (61, true))⟩,
     ⟨(some 68), .pick (.t 61) (.t 67) (.c (.bool false)), none⟩,
     ⟨(some 69), .mov (.t 68), none⟩,
     ⟨(some 70), .fieldAddr 0 (.t 3), (some (69, true))⟩,
     ⟨(some 71), .load (some 32) (.t 70), (some (69, true))⟩,
     ⟨(some 72), .fieldAddr 0 (.t 4), (some (69, true))⟩,
     ⟨(some 73), .load (some 32) (.t 72), (some (69, true))⟩,
     ⟨(some 74), .bin .neq (.flat [.i, .i, .i, .i, .i, .i, .i, .i, .i, .i, .i, .i, .i, .i, .i, .i, .i, .i, .i, .i, .i, .i, .i, .i, .i, .i, .i, .i, .i, .i, .i, .i]) (.t 71) (.t 73), (some (69, true))⟩,
     ⟨(some 75), .mov (.t 74), (some (69, true))⟩,
     ⟨(some 76), .mov (.t 8), (some (75, false))⟩,
     ⟨(some 77), .bin .lss .no (.t 76) (.c (.int .i64 0)), (some (75, false))⟩,
     ⟨(some 78), .fieldAddr 32 (.t 3), (some (75, false))⟩,
     ⟨(some 79), .load none (.t 78), (some (75, false))⟩,
     ⟨(some 80), .fieldAddr 32 (.t 4), (some (75, false))⟩,
     ⟨(some 81), .load none (.t 80), (some (75, false))⟩,
     ⟨(some 82), .bin .lss .no (.t 79) (.t 81), (some (75, false))⟩,
     ⟨(some 83), .bin .eql .bool (.t 77) (.t 82), (some (75, false))⟩,
     ⟨(some 84), .pick (.t 75) (.c (.bool true)) (.t 83), (some (69, true))⟩,
     ⟨(some 85), .pick (.t 69) (.t 84) (.c (.bool false)), none⟩,
     ⟨(some 6), .mov (.t 85), none⟩])
  (.ret)))))⟩
/-- purser/tx.Compare -/
def f_tx_Compare : Fn := ⟨19, [.tmp 4],
  .seq (.ops [⟨(some 2), .box (.t 0), none⟩,
     ⟨(some 3), .box (.t 1), none⟩,
     ⟨(some 4), .mov (.c (.int .i64 0)), none⟩])
  (.seq (.seq (.dops 0 [] [(⟨(some 6), .fieldAddr 0 (.t 2), none⟩, .L),
      (⟨(some 7), .slcA 32 1 (.t 6) none none none, none⟩, .R [] []),
      (⟨(some 8), .fieldAddr 0 (.t 3), none⟩, .L),
      (⟨(some 9), .slcA 32 1 (.t 8) none none none, none⟩, .R [] []),
      (⟨(some 10), .call k_bytes_Compare [(.t 7), (.t 9)], none⟩, .B []),
      (⟨(some 5), .mov (.t 10), none⟩, .L)])
   (.seq (.ops [⟨(some 11), .mov (.t 5), none⟩,
      ⟨(some 12), .bin .neq .no (.t 11) (.c (.int .i64 0)), none⟩])
   (.cond (.t 12)
    (.seq (.ops [⟨(some 13), .mov (.t 5), none⟩,
        ⟨(some 4), .mov (.t 13), none⟩])
     (.ret))
    (.skip))))
  (.seq (.ops [⟨(some 14), .fieldAddr 32 (.t 2), none⟩,
     ⟨(some 15), .load none (.t 14), none⟩,
     ⟨(some 16), .fieldAddr 32 (.t 3), none⟩,
     ⟨(some 17), .load none (.t 16), none⟩,
     ⟨(some 18), .call k_cmp_Compare_uint32 [(.t 15), (.t 17)], none⟩,
     ⟨(some 4), .mov (.t 18), none⟩])
  (.ret)))⟩
/-- purser/purserref06.Compare -/
def f_purserref06_Compare : Fn := ⟨38, [.tmp 4],
  .seq (.ops [⟨(some 2), .box (.t 0), none⟩,
     ⟨(some 3), .box (.t 1), none⟩,
     ⟨(some 4), .mov (.c (.int .i64 0)), none⟩])
  (.seq (.seq (.ops [⟨(some 5), .mov (.c (.int .i64 0)), none⟩])
   (.block 0 (.loop (.seq (.seq (.ops [⟨(some 6), .mov (.t 5), none⟩,
         ⟨(some 7), .bin .lss .no (.t 6) (.c (.int .i64 32)), none⟩])
      (.cond (.t 7)
       (.skip)
       (.exit 0)))
     (.seq (.block 1 (.seq (.seq (.dops 0 [] [(⟨(some 10), .mov (.t 5), none⟩, .L),
           (⟨(some 11), .fieldAddr 0 (.t 2), none⟩, .L),
           (⟨(some 12), .idxAddrA 32 1 (.t 11) (.t 10), none⟩, .L),
           (⟨(some 13), .load none (.t 12), none⟩, .R [] []),
           (⟨(some 14), .mov (.t 5), none⟩, .L),
           (⟨(some 15), .fieldAddr 0 (.t 3), none⟩, .L),
           (⟨(some 16), .idxAddrA 32 1 (.t 15) (.t 14), none⟩, .L),
           (⟨(some 17), .load none (.t 16), none⟩, .R [] []),
           (⟨(some 18), .bin .lss .no (.t 13) (.t 17), none⟩, .L)])
        (.cond (.t 18)
         (.seq (.ops [⟨(some 4), .mov (.c (.int .i64 (-1))), none⟩])
          (.ret))
         (.skip)))
       (.seq (.dops 0 [] [(⟨(some 19), .mov (.t 5), none⟩, .L),
          (⟨(some 20), .fieldAddr 0 (.t 2), none⟩, .L),
          (⟨(some 21), .idxAddrA 32 1 (.t 20) (.t 19), none⟩, .L),
          (⟨(some 22), .load none (.t 21), none⟩, .R [] []),
          (⟨(some 23), .mov (.t 5), none⟩, .L),
          (⟨(some 24), .fieldAddr 0 (.t 3), none⟩, .L),
          (⟨(some 25), .idxAddrA 32 1 (.t 24) (.t 23), none⟩, .L),
          (⟨(some 26), .load none (.t 25), none⟩, .R [] []),
          (⟨(some 27), .bin .gtr .no (.t 22) (.t 26), none⟩, .L)])
       (.cond (.t 27)
        (.seq (.ops [⟨(some 4), .mov (.c (.int .i64 1)), none⟩])
         (.ret))
        (.skip)))))
     (.ops [⟨(some 8), .mov (.t 5), none⟩,
       ⟨(some 9), .bin .add .no (.t 8) (.c (.int .i64 1)), none⟩,
       ⟨(some 5), .mov (.t 9), none⟩]))))))
  (.seq (.seq (.ops [⟨(some 28), .fieldAddr 32 (.t 2), none⟩,
      ⟨(some 29), .load none (.t 28), none⟩,
      ⟨(some 30), .fieldAddr 32 (.t 3), none⟩,
      ⟨(some 31), .load none (.t 30), none⟩,
      ⟨(some 32), .bin .lss .no (.t 29) (.t 31), none⟩])
   (.cond (.t 32)
    (.seq (.ops [⟨(some 4), .mov (.c (.int .i64 (-1))), none⟩])
     (.ret))
    (.skip)))
  (.seq (.seq (.ops [⟨(some 33), .fieldAddr 32 (.t 2), none⟩,
      ⟨(some 34), .load none (.t 33), none⟩,
      ⟨(some 35), .fieldAddr 32 (.t 3), none⟩,
      ⟨(some 36), .load none (.t 35), none⟩,
      ⟨(some 37), .bin .gtr .no (.t 34) (.t 36), none⟩])
   (.cond (.t 37)
    (.seq (.ops [⟨(some 4), .mov (.c (.int .i64 1)), none⟩])
     (.ret))
    (.skip)))
  (.seq (.ops [⟨(some 4), .mov (.c (.int .i64 0)), none⟩])
  (.ret)))))⟩
/-- purser/purserlaw06.alive -/
def f_purserlaw06_alive : Fn := ⟨22, [.tmp 0],
  .seq (.ops [⟨(some 0), .mov (.c (.bool false)), none⟩])
  (.seq (.ops [⟨(some 4), .call k_purserlaw06_some [], none⟩,
     ⟨(some 5), .call k_tx_Encode [(.t 4)], none⟩,
     ⟨(some 3), .mov (.t 5), none⟩,
     ⟨(some 6), .ext (.t 3) 0, none⟩,
     ⟨(some 7), .ext (.t 3) 1, none⟩,
     ⟨(some 1), .mov (.t 6), none⟩,
     ⟨(some 2), .mov (.t 7), none⟩])
  (.seq (.dops 0 [] [(⟨(some 8), .mov (.t 2), none⟩, .L),
     (⟨(some 9), .bin .eql .no (.t 8) (.c (.int .i64 0)), none⟩, .L),
     (⟨(some 10), .mov (.t 9), none⟩, .L),
     (⟨(some 11), .mov (.t 1), (some (10, true))⟩, .L),
     (⟨(some 12), .b2s (.t 11), (some (10, true))⟩, .R [] [(2, [])]),
     (⟨(some 13), .call k_strings_Repeat [(.c (.str [0])), (.c (.int .i64 32))], (some (10, true))⟩, .B []),
     (⟨(some 14), .bin .add .no (.c (.str [1, 0, 0, 0, 1])) (.t 13), (some (10, true))⟩, .L),
     (⟨(some 15), .bin .add .no (.t 14) (.c (.str [255, 255, 255, 255, 1, 42, 7, 0, 0, 0, 1, 5, 0, 0, 0, 0, 0, 0, 0, 1, 106, 0, 0, 0, 0])), (some (10, true))⟩, .L),
     (⟨(some 16), .bin .eql .no (.t 12) (.t 15), (some (10, true))⟩, .L),
     (⟨(some 17), .pick (.t 10) (.t 16) (.c (.bool false)), none⟩, .L),
     (⟨(some 18), .mov (.t 17), none⟩, .L),
     (⟨(some 19), .call k_purserlaw06_some [], (some (18, true))⟩, .B []),
     (⟨(some 20), .call k_tx_Coinbase [(.t 19)], (some (18, true))⟩, .B []),
     (⟨(some 21), .pick (.t 18) (.t 20) (.c (.bool false)), none⟩, .L),
     (⟨(some 0), .mov (.t 21), none⟩, .L)])
  (.ret)))⟩
/-- bytes.Compare -/
def f_bytes_Compare : Fn := ⟨8, [.tmp 4],
  .seq (.ops [⟨(some 4), .mov (.c (.int .i64 0)), none⟩])
  (.seq (.ops [⟨(some 5), .mov (.t 0), none⟩,
     ⟨(some 6), .mov (.t 1), none⟩,
     ⟨(some 7), .call k_internal_bytealg_Compare [(.t 5), (.t 6)], none⟩,
     ⟨(some 4), .mov (.t 7), none⟩])
  (.ret))⟩
/-- cmp.Compare[uint32] -/
def f_cmp_Compare_uint32 : Fn := ⟨20, [.tmp 4],
  .seq (.ops [⟨(some 4), .mov (.c (.int .i64 0)), none⟩])
  (.seq (.ops [⟨(some 7), .mov (.t 0), none⟩,
     ⟨(some 8), .call k_cmp_isNaN_uint32 [(.t 7)], none⟩,
     ⟨(some 5), .mov (.t 8), none⟩])
  (.seq (.ops [⟨(some 9), .mov (.t 1), none⟩,
     ⟨(some 10), .call k_cmp_isNaN_uint32 [(.t 9)], none⟩,
     ⟨(some 6), .mov (.t 10), none⟩])
  (.seq (.seq (.ops [⟨(some 11), .mov (.t 5), none⟩])
   (.cond (.t 11)
    (.seq (.seq (.ops [⟨(some 12), .mov (.t 6), none⟩])
      (.cond (.t 12)
       (.seq (.ops [⟨(some 4), .mov (.c (.int .i64 0)), none⟩])
        (.ret))
       (.skip)))
     (.seq (.ops [⟨(some 4), .mov (.c (.int .i64 (-1))), none⟩])
     (.ret)))
    (.skip)))
  (.seq (.seq (.ops [⟨(some 13), .mov (.t 6), none⟩])
   (.cond (.t 13)
    (.seq (.ops [⟨(some 4), .mov (.c (.int .i64 1)), none⟩])
     (.ret))
    (.skip)))
  (.seq (.seq (.ops [⟨(some 14), .mov (.t 0), none⟩,
      ⟨(some 15), .mov (.t 1), none⟩,
      ⟨(some 16), .bin .lss .no (.t 14) (.t 15), none⟩])
   (.cond (.t 16)
    (.seq (.ops [⟨(some 4), .mov (.c (.int .i64 (-1))), none⟩])
     (.ret))
    (.skip)))
  (.seq (.seq (.ops [⟨(some 17), .mov (.t 0), none⟩,
      ⟨(some 18), .mov (.t 1), none⟩,
      ⟨(some 19), .bin .gtr .no (.t 17) (.t 18), none⟩])
   (.cond (.t 19)
    (.seq (.ops [⟨(some 4), .mov (.c (.int .i64 1)), none⟩])
     (.ret))
    (.skip)))
  (.seq (.ops [⟨(some 4), .mov (.c (.int .i64 0)), none⟩])
  (.ret))))))))⟩
/-- purser/tx.Encode -/
def f_tx_Encode : Fn := ⟨71, [.tmp 2, .tmp 3],
  .seq (.ops [⟨(some 1), .box (.t 0), none⟩,
     ⟨(some 2), .mov (.c (.slice none 0 (some 0) 0)), none⟩,
     ⟨(some 3), .mov (.c (.int .i64 0)), none⟩])
  (.seq (.seq (.ops [⟨(some 9), .load (some 4) (.t 1), none⟩,
      ⟨(some 10), .call k_tx_Check [(.t 9)], none⟩,
      ⟨(some 11), .bin .neq .no (.t 10) (.c (.int .i64 0)), none⟩])
   (.cond (.t 11)
    (.seq (.ops [⟨(some 2), .mov (.c (.slice none 0 (some 0) 0)), none⟩,
        ⟨(some 3), .mov (.c (.int .i64 60)), none⟩])
     (.ret))
    (.skip)))
  (.seq (.ops [⟨(some 4), .alloc [(.slice none 0 (some 0) 0)], none⟩])
  (.seq (.ops [⟨(some 12), .fieldAddr 0 (.t 1), none⟩,
     ⟨(some 13), .load none (.t 12), none⟩,
     ⟨(some 14), .conv .u64 (.t 13), none⟩,
     ⟨(some 15), .call k_octet_Pen_Fixed [(.t 4), (.c (.int .i64 4)), (.t 14)], none⟩])
  (.seq (.ops [⟨(some 16), .fieldAddr 1 (.t 1), none⟩,
     ⟨(some 17), .load none (.t 16), none⟩,
     ⟨(some 18), .len false (.t 17), none⟩,
     ⟨(some 19), .conv .u64 (.t 18), none⟩,
     ⟨(some 20), .call k_octet_Pen_Size [(.t 4), (.t 19)], none⟩])
  (.seq (.seq (.ops [⟨(some 21), .fieldAddr 1 (.t 1), none⟩,
      ⟨(some 22), .load none (.t 21), none⟩,
      ⟨(some 23), .len false (.t 22), none⟩,
      ⟨(some 24), .mov (.c (.int .i64 0)), none⟩])
   (.block 0 (.loop (.seq (.ops [⟨(some 25), .bin .lss .no (.t 24) (.t 23), none⟩])
     (.seq (.cond (.t 25)
       (.skip)
       (.exit 0))
     (.seq (.block 1 (.seq (.ops [⟨(some 26), .idxAddrS 35 (.t 22) (.t 24), none⟩,
          ⟨(some 27), .load (some 35) (.t 26), none⟩,
          ⟨(some 6), .alloc [(.int .u8 0), (.int .u8 0), (.int .u8 0), (.int .u8 0), (.int .u8 0), (.int .u8 0), (.int .u8 0), (.int .u8 0), (.int .u8 0), (.int .u8 0), (.int .u8 0), (.int .u8 0), (.int .u8 0), (.int .u8 0), (.int .u8 0), (.int .u8 0), (.int .u8 0), (.int .u8 0), (.int .u8 0), (.int .u8 0), (.int .u8 0), (.int .u8 0), (.int .u8 0), (.int .u8 0), (.int .u8 0), (.int .u8 0), (.int .u8 0), (.int .u8 0), (.int .u8 0), (.int .u8 0), (.int .u8 0), (.int .u8 0), (.int .u32 0), (.slice none 0 (some 0) 0), (.int .u32 0)], none⟩,
          ⟨none, .store 35 (.t 6) (.t 27), none⟩])
       (.seq (.ops [⟨(some 28), .fieldAddr 0 (.t 6), none⟩,
          ⟨(some 29), .fieldAddr 0 (.t 28), none⟩,
          ⟨(some 30), .slcA 32 1 (.t 29) none none none, none⟩,
          ⟨(some 31), .buildS [(.slice none 0 (some 0) 0)] 1 1 [(0, 1, (.t 30))], none⟩,
          ⟨(some 32), .call k_octet_Pen_Raw [(.t 4), (.t 31)], none⟩])
       (.seq (.ops [⟨(some 33), .fieldAddr 0 (.t 6), none⟩,
          ⟨(some 34), .fieldAddr 32 (.t 33), none⟩,
          ⟨(some 35), .load none (.t 34), none⟩,
          ⟨(some 36), .conv .u64 (.t 35), none⟩,
          ⟨(some 37), .call k_octet_Pen_Fixed [(.t 4), (.c (.int .i64 4)), (.t 36)], none⟩])
       (.seq (.ops [⟨(some 38), .fieldAddr 33 (.t 6), none⟩,
          ⟨(some 39), .load none (.t 38), none⟩,
          ⟨(some 40), .call k_octet_Pen_Bytes [(.t 4), (.t 39)], none⟩])
       (.ops [⟨(some 41), .fieldAddr 34 (.t 6), none⟩,
         ⟨(some 42), .load none (.t 41), none⟩,
         ⟨(some 43), .conv .u64 (.t 42), none⟩,
         ⟨(some 44), .call k_octet_Pen_Fixed [(.t 4), (.c (.int .i64 4)), (.t 43)], none⟩]))))))
     (.ops [⟨(some 45), .bin .add .no (.t 24) (.c (.int .i64 1)), none⟩,
       ⟨(some 24), .mov (.t 45), none⟩])))))))
  (.seq (.ops [⟨(some 46), .fieldAddr 2 (.t 1), none⟩,
     ⟨(some 47), .load none (.t 46), none⟩,
     ⟨(some 48), .len false (.t 47), none⟩,
     ⟨(some 49), .conv .u64 (.t 48), none⟩,
     ⟨(some 50), .call k_octet_Pen_Size [(.t 4), (.t 49)], none⟩])
  (.seq (.seq (.ops [⟨(some 51), .fieldAddr 2 (.t 1), none⟩,
      ⟨(some 52), .load none (.t 51), none⟩,
      ⟨(some 53), .len false (.t 52), none⟩,
      ⟨(some 54), .mov (.c (.int .i64 0)), none⟩])
   (.block 2 (.loop (.seq (.ops [⟨(some 55), .bin .lss .no (.t 54) (.t 53), none⟩])
     (.seq (.cond (.t 55)
       (.skip)
       (.exit 2))
     (.seq (.block 3 (.seq (.ops [⟨(some 56), .idxAddrS 2 (.t 52) (.t 54), none⟩,
          ⟨(some 57), .load (some 2) (.t 56), none⟩,
          ⟨(some 8), .alloc [(.int .i64 0), (.slice none 0 (some 0) 0)], none⟩,
          ⟨none, .store 2 (.t 8) (.t 57), none⟩])
       (.seq (.ops [⟨(some 58), .fieldAddr 0 (.t 8), none⟩,
          ⟨(some 59), .load none (.t 58), none⟩,
          ⟨(some 60), .conv .u64 (.t 59), none⟩,
          ⟨(some 61), .call k_octet_Pen_Fixed [(.t 4), (.c (.int .i64 8)), (.t 60)], none⟩])
       (.ops [⟨(some 62), .fieldAddr 1 (.t 8), none⟩,
         ⟨(some 63), .load none (.t 62), none⟩,
         ⟨(some 64), .call k_octet_Pen_Bytes [(.t 4), (.t 63)], none⟩]))))
     (.ops [⟨(some 65), .bin .add .no (.t 54) (.c (.int .i64 1)), none⟩,
       ⟨(some 54), .mov (.t 65), none⟩])))))))
  (.seq (.ops [⟨(some 66), .fieldAddr 3 (.t 1), none⟩,
     ⟨(some 67), .load none (.t 66), none⟩,
     ⟨(some 68), .conv .u64 (.t 67), none⟩,
     ⟨(some 69), .call k_octet_Pen_Fixed [(.t 4), (.c (.int .i64 4)), (.t 68)], none⟩])
  (.seq (.ops [⟨(some 70), .call k_octet_Pen_All [(.t 4)], none⟩,
     ⟨(some 2), .mov (.t 70), none⟩,
     ⟨(some 3), .mov (.c (.int .i64 0)), none⟩])
  (.ret))))))))))⟩
/-- purser/purserlaw06.some -/
def f_purserlaw06_some : Fn := ⟨9, [.cell 0 (some 4)],
  .seq (.ops [⟨(some 0), .alloc [(.int .u32 0), (.slice none 0 (some 0) 0), (.slice none 0 (some 0) 0), (.int .u32 0)], none⟩])
  (.seq (.ops [⟨(some 1), .build [(.int .u8 0), (.int .u8 0), (.int .u8 0), (.int .u8 0), (.int .u8 0), (.int .u8 0), (.int .u8 0), (.int .u8 0), (.int .u8 0), (.int .u8 0), (.int .u8 0), (.int .u8 0), (.int .u8 0), (.int .u8 0), (.int .u8 0), (.int .u8 0), (.int .u8 0), (.int .u8 0), (.int .u8 0), (.int .u8 0), (.int .u8 0), (.int .u8 0), (.int .u8 0), (.int .u8 0), (.int .u8 0), (.int .u8 0), (.int .u8 0), (.int .u8 0), (.int .u8 0), (.int .u8 0), (.int .u8 0), (.int .u8 0), (.int .u32 0)] [(32, 1, (.c (.int .u32 4294967295)))], none⟩,
     ⟨(some 2), .buildS [(.int .u8 0)] 1 1 [(0, 1, (.c (.int .u8 42)))], none⟩,
     ⟨(some 3), .build [(.int .u8 0), (.int .u8 0), (.int .u8 0), (.int .u8 0), (.int .u8 0), (.int .u8 0), (.int .u8 0), (.int .u8 0), (.int .u8 0), (.int .u8 0), (.int .u8 0), (.int .u8 0), (.int .u8 0), (.int .u8 0), (.int .u8 0), (.int .u8 0), (.int .u8 0), (.int .u8 0), (.int .u8 0), (.int .u8 0), (.int .u8 0), (.int .u8 0), (.int .u8 0), (.int .u8 0), (.int .u8 0), (.int .u8 0), (.int .u8 0), (.int .u8 0), (.int .u8 0), (.int .u8 0), (.int .u8 0), (.int .u8 0), (.int .u32 0), (.slice none 0 (some 0) 0), (.int .u32 0)] [(0, 33, (.t 1)), (33, 1, (.t 2)), (34, 1, (.c (.int .u32 7)))], none⟩,
     ⟨(some 4), .buildS [(.int .u8 0), (.int .u8 0), (.int .u8 0), (.int .u8 0), (.int .u8 0), (.int .u8 0), (.int .u8 0), (.int .u8 0), (.int .u8 0), (.int .u8 0), (.int .u8 0), (.int .u8 0), (.int .u8 0), (.int .u8 0), (.int .u8 0), (.int .u8 0), (.int .u8 0), (.int .u8 0), (.int .u8 0), (.int .u8 0), (.int .u8 0), (.int .u8 0), (.int .u8 0), (.int .u8 0), (.int .u8 0), (.int .u8 0), (.int .u8 0), (.int .u8 0), (.int .u8 0), (.int .u8 0), (.int .u8 0), (.int .u8 0), (.int .u32 0), (.slice none 0 (some 0) 0), (.int .u32 0)] 1 35 [(0, 35, (.t 3))], none⟩,
     ⟨(some 5), .buildS [(.int .u8 0)] 1 1 [(0, 1, (.c (.int .u8 106)))], none⟩,
     ⟨(some 6), .build [(.int .i64 0), (.slice none 0 (some 0) 0)] [(0, 1, (.c (.int .i64 5))), (1, 1, (.t 5))], none⟩,
     ⟨(some 7), .buildS [(.int .i64 0), (.slice none 0 (some 0) 0)] 1 2 [(0, 2, (.t 6))], none⟩,
     ⟨(some 8), .build [(.int .u32 0), (.slice none 0 (some 0) 0), (.slice none 0 (some 0) 0), (.int .u32 0)] [(0, 1, (.c (.int .u32 1))), (1, 1, (.t 4)), (2, 1, (.t 7))], none⟩,
     ⟨none, .store 4 (.t 0) (.t 8), none⟩])
  (.ret))⟩
/-- strings.Repeat -/
def f_strings_Repeat : Fn := ⟨125, [.tmp 4],
  .seq (.ops [⟨(some 4), .mov (.c (.str [])), none⟩])
  (.seq (.seq (.ops [⟨(some 11), .mov (.t 1), none⟩])
   (.block 0 (.seq (.ops [⟨(some 13), .bin .eql .no (.t 11) (.c (.int .i64 0)), none⟩,
       ⟨(some 12), .mov (.t 13), none⟩])
    (.cond (.t 12)
     (.seq (.ops [⟨(some 4), .mov (.c (.str [])), none⟩])
      (.ret))
     (.seq (.ops [⟨(some 15), .bin .eql .no (.t 11) (.c (.int .i64 1)), none⟩,
         ⟨(some 14), .mov (.t 15), none⟩])
      (.cond (.t 14)
       (.seq (.ops [⟨(some 16), .mov (.t 0), none⟩,
           ⟨(some 4), .mov (.t 16), none⟩])
        (.ret))
       (.skip)))))))
  (.seq (.seq (.ops [⟨(some 17), .mov (.t 1), none⟩,
      ⟨(some 18), .bin .lss .no (.t 17) (.c (.int .i64 0)), none⟩])
   (.cond (.t 18)
    (.ops [⟨(some 19), .bad "", none⟩,
       ⟨none, .bad "", none⟩])
    (.skip)))
  (.seq (.ops [⟨(some 21), .mov (.t 0), none⟩,
     ⟨(some 22), .len true (.t 21), none⟩,
     ⟨(some 23), .conv .u64 (.t 22), none⟩,
     ⟨(some 24), .mov (.t 1), none⟩,
     ⟨(some 25), .conv .u64 (.t 24), none⟩,
     ⟨(some 26), .call k_math_bits_Mul [(.t 23), (.t 25)], none⟩,
     ⟨(some 20), .mov (.t 26), none⟩,
     ⟨(some 27), .ext (.t 20) 0, none⟩,
     ⟨(some 28), .ext (.t 20) 1, none⟩,
     ⟨(some 5), .mov (.t 27), none⟩,
     ⟨(some 6), .mov (.t 28), none⟩])
  (.seq (.seq (.ops [⟨(some 29), .mov (.t 5), none⟩,
      ⟨(some 30), .bin .gtr .no (.t 29) (.c (.int .u64 0)), none⟩,
      ⟨(some 31), .mov (.t 30), none⟩,
      ⟨(some 32), .mov (.t 6), (some (31, false))⟩,
      ⟨(some 33), .bin .gtr .no (.t 32) (.c (.int .u64 9223372036854775807)), (some (31, false))⟩,
      ⟨(some 34), .pick (.t 31) (.c (.bool true)) (.t 33), none⟩])
   (.cond (.t 34)
    (.ops [⟨(some 35), .bad "", none⟩,
       ⟨none, .bad "", none⟩])
    (.skip)))
  (.seq (.ops [⟨(some 36), .mov (.t 6), none⟩,
     ⟨(some 37), .conv .i64 (.t 36), none⟩,
     ⟨(some 7), .mov (.t 37), none⟩])
  (.seq (.seq (.ops [⟨(some 38), .mov (.t 0), none⟩,
      ⟨(some 39), .len true (.t 38), none⟩,
      ⟨(some 40), .bin .eql .no (.t 39) (.c (.int .i64 0)), none⟩])
   (.cond (.t 40)
    (.seq (.ops [⟨(some 4), .mov (.c (.str [])), none⟩])
     (.ret))
    (.skip)))
  (.seq (.seq (.ops [⟨(some 41), .mov (.t 0), none⟩,
      ⟨(some 42), .idxStr (.t 41) (.c (.int .i64 0)), none⟩])
   (.block 1 (.seq (.seq (.ops [⟨(some 44), .bin .eql .no (.t 42) (.c (.int .u8 32)), none⟩,
        ⟨(some 43), .mov (.t 44), none⟩])
     (.cond (.t 43)
      (.skip)
      (.seq (.ops [⟨(some 45), .bin .eql .no (.t 42) (.c (.int .u8 45)), none⟩,
          ⟨(some 43), .mov (.t 45), none⟩])
       (.cond (.t 43)
        (.skip)
        (.seq (.ops [⟨(some 46), .bin .eql .no (.t 42) (.c (.int .u8 48)), none⟩,
            ⟨(some 43), .mov (.t 46), none⟩])
         (.cond (.t 43)
          (.skip)
          (.seq (.ops [⟨(some 47), .bin .eql .no (.t 42) (.c (.int .u8 61)), none⟩,
              ⟨(some 43), .mov (.t 47), none⟩])
           (.cond (.t 43)
            (.skip)
            (.ops [⟨(some 48), .bin .eql .no (.t 42) (.c (.int .u8 9)), none⟩,
               ⟨(some 43), .mov (.t 48), none⟩])))))))))
    (.cond (.t 43)
     (.block 2 (.seq (.ops [⟨(some 50), .mov (.t 7), none⟩,
          ⟨(some 51), .bin .leq .no (.t 50) (.c (.int .i64 128)), none⟩,
          ⟨(some 52), .mov (.t 51), none⟩,
          ⟨(some 53), .mov (.t 0), (some (52, true))⟩,
          ⟨(some 54), .call k_strings_HasPrefix [(.c (.str [32, 32, 32, 32, 32, 32, 32, 32, 32, 32, 32, 32, 32, 32, 32, 32, 32, 32, 32, 32, 32, 32, 32, 32, 32, 32, 32, 32, 32, 32, 32, 32, 32, 32, 32, 32, 32, 32, 32, 32, 32, 32, 32, 32, 32, 32, 32, 32, 32, 32, 32, 32, 32, 32, 32, 32, 32, 32, 32, 32, 32, 32, 32, 32, 32, 32, 32, 32, 32, 32, 32, 32, 32, 32, 32, 32, 32, 32, 32, 32, 32, 32, 32, 32, 32, 32, 32, 32, 32, 32, 32, 32, 32, 32, 32, 32, 32, 32, 32, 32, 32, 32, 32, 32, 32, 32, 32, 32, 32, 32, 32, 32, 32, 32, 32, 32, 32, 32, 32, 32, 32, 32, 32, 32, 32, 32, 32, 32])), (.t 53)], (some (52, true))⟩,
          ⟨(some 55), .pick (.t 52) (.t 54) (.c (.bool false)), none⟩,
          ⟨(some 49), .mov (.t 55), none⟩])
       (.cond (.t 49)
        (.seq (.ops [⟨(some 56), .mov (.t 7), none⟩,
            ⟨(some 57), .slcStr (.c (.str [32, 32, 32, 32, 32, 32, 32, 32, 32, 32, 32, 32, 32, 32, 32, 32, 32, 32, 32, 32, 32, 32, 32, 32, 32, 32, 32, 32, 32, 32, 32, 32, 32, 32, 32, 32, 32, 32, 32, 32, 32, 32, 32, 32, 32, 32, 32, 32, 32, 32, 32, 32, 32, 32, 32, 32, 32, 32, 32, 32, 32, 32, 32, 32, 32, 32, 32, 32, 32, 32, 32, 32, 32, 32, 32, 32, 32, 32, 32, 32, 32, 32, 32, 32, 32, 32, 32, 32, 32, 32, 32, 32, 32, 32, 32, 32, 32, 32, 32, 32, 32, 32, 32, 32, 32, 32, 32, 32, 32, 32, 32, 32, 32, 32, 32, 32, 32, 32, 32, 32, 32, 32, 32, 32, 32, 32, 32, 32])) none (some (.t 56)), none⟩,
            ⟨(some 4), .mov (.t 57), none⟩])
         (.ret))
        (.seq (.ops [⟨(some 59), .mov (.t 7), none⟩,
            ⟨(some 60), .bin .leq .no (.t 59) (.c (.int .i64 128)), none⟩,
            ⟨(some 61), .mov (.t 60), none⟩,
            ⟨(some 62), .mov (.t 0), (some (61, true))⟩,
            ⟨(some 63), .call k_strings_HasPrefix [(.c (.str [45, 45, 45, 45, 45, 45, 45, 45, 45, 45, 45, 45, 45, 45, 45, 45, 45, 45, 45, 45, 45, 45, 45, 45, 45, 45, 45, 45, 45, 45, 45, 45, 45, 45, 45, 45, 45, 45, 45, 45, 45, 45, 45, 45, 45, 45, 45, 45, 45, 45, 45, 45, 45, 45, 45, 45, 45, 45, 45, 45, 45, 45, 45, 45, 45, 45, 45, 45, 45, 45, 45, 45, 45, 45, 45, 45, 45, 45, 45, 45, 45, 45, 45, 45, 45, 45, 45, 45, 45, 45, 45, 45, 45, 45, 45, 45, 45, 45, 45, 45, 45, 45, 45, 45, 45, 45, 45, 45, 45, 45, 45, 45, 45, 45, 45, 45, 45, 45, 45, 45, 45, 45, 45, 45, 45, 45, 45, 45])), (.t 62)], (some (61, true))⟩,
            ⟨(some 64), .pick (.t 61) (.t 63) (.c (.bool false)), none⟩,
            ⟨(some 58), .mov (.t 64), none⟩])
         (.cond (.t 58)
          (.seq (.ops [⟨(some 65), .mov (.t 7), none⟩,
              ⟨(some 66), .slcStr (.c (.str [45, 45, 45, 45, 45, 45, 45, 45, 45, 45, 45, 45, 45, 45, 45, 45, 45, 45, 45, 45, 45, 45, 45, 45, 45, 45, 45, 45, 45, 45, 45, 45, 45, 45, 45, 45, 45, 45, 45, 45, 45, 45, 45, 45, 45, 45, 45, 45, 45, 45, 45, 45, 45, 45, 45, 45, 45, 45, 45, 45, 45, 45, 45, 45, 45, 45, 45, 45, 45, 45, 45, 45, 45, 45, 45, 45, 45, 45, 45, 45, 45, 45, 45, 45, 45, 45, 45, 45, 45, 45, 45, 45, 45, 45, 45, 45, 45, 45, 45, 45, 45, 45, 45, 45, 45, 45, 45, 45, 45, 45, 45, 45, 45, 45, 45, 45, 45, 45, 45, 45, 45, 45, 45, 45, 45, 45, 45, 45])) none (some (.t 65)), none⟩,
              ⟨(some 4), .mov (.t 66), none⟩])
           (.ret))
          (.seq (.ops [⟨(some 68), .mov (.t 7), none⟩,
              ⟨(some 69), .bin .leq .no (.t 68) (.c (.int .i64 64)), none⟩,
              ⟨(some 70), .mov (.t 69), none⟩,
              ⟨(some 71), .mov (.t 0), (some (70, true))⟩,
              ⟨(some 72), .call k_strings_HasPrefix [(.c (.str [48, 48, 48, 48, 48, 48, 48, 48, 48, 48, 48, 48, 48, 48, 48, 48, 48, 48, 48, 48, 48, 48, 48, 48, 48, 48, 48, 48, 48, 48, 48, 48, 48, 48, 48, 48, 48, 48, 48, 48, 48, 48, 48, 48, 48, 48, 48, 48, 48, 48, 48, 48, 48, 48, 48, 48, 48, 48, 48, 48, 48, 48, 48, 48])), (.t 71)], (some (70, true))⟩,
              ⟨(some 73), .pick (.t 70) (.t 72) (.c (.bool false)), none⟩,
              ⟨(some 67), .mov (.t 73), none⟩])
           (.cond (.t 67)
            (.seq (.ops [⟨(some 74), .mov (.t 7), none⟩,
                ⟨(some 75), .slcStr (.c (.str [48, 48, 48, 48, 48, 48, 48, 48, 48, 48, 48, 48, 48, 48, 48, 48, 48, 48, 48, 48, 48, 48, 48, 48, 48, 48, 48, 48, 48, 48, 48, 48, 48, 48, 48, 48, 48, 48, 48, 48, 48, 48, 48, 48, 48, 48, 48, 48, 48, 48, 48, 48, 48, 48, 48, 48, 48, 48, 48, 48, 48, 48, 48, 48])) none (some (.t 74)), none⟩,
                ⟨(some 4), .mov (.t 75), none⟩])
             (.ret))
            (.seq (.ops [⟨(some 77), .mov (.t 7), none⟩,
                ⟨(some 78), .bin .leq .no (.t 77) (.c (.int .i64 128)), none⟩,
                ⟨(some 79), .mov (.t 78), none⟩,
                ⟨(some 80), .mov (.t 0), (some (79, true))⟩,
                ⟨(some 81), .call k_strings_HasPrefix [(.c (.str [61, 61, 61, 61, 61, 61, 61, 61, 61, 61, 61, 61, 61, 61, 61, 61, 61, 61, 61, 61, 61, 61, 61, 61, 61, 61, 61, 61, 61, 61, 61, 61, 61, 61, 61, 61, 61, 61, 61, 61, 61, 61, 61, 61, 61, 61, 61, 61, 61, 61, 61, 61, 61, 61, 61, 61, 61, 61, 61, 61, 61, 61, 61, 61, 61, 61, 61, 61, 61, 61, 61, 61, 61, 61, 61, 61, 61, 61, 61, 61, 61, 61, 61, 61, 61, 61, 61, 61, 61, 61, 61, 61, 61, 61, 61, 61, 61, 61, 61, 61, 61, 61, 61, 61, 61, 61, 61, 61, 61, 61, 61, 61, 61, 61, 61, 61, 61, 61, 61, 61, 61, 61, 61, 61, 61, 61, 61, 61])), (.t 80)], (some (79, true))⟩,
                ⟨(some 82), .pick (.t 79) (.t 81) (.c (.bool false)), none⟩,
                ⟨(some 76), .mov (.t 82), none⟩])
             (.cond (.t 76)
              (.seq (.ops [⟨(some 83), .mov (.t 7), none⟩,
                  ⟨(some 84), .slcStr (.c (.str [61, 61, 61, 61, 61, 61, 61, 61, 61, 61, 61, 61, 61, 61, 61, 61, 61, 61, 61, 61, 61, 61, 61, 61, 61, 61, 61, 61, 61, 61, 61, 61, 61, 61, 61, 61, 61, 61, 61, 61, 61, 61, 61, 61, 61, 61, 61, 61, 61, 61, 61, 61, 61, 61, 61, 61, 61, 61, 61, 61, 61, 61, 61, 61, 61, 61, 61, 61, 61, 61, 61, 61, 61, 61, 61, 61, 61, 61, 61, 61, 61, 61, 61, 61, 61, 61, 61, 61, 61, 61, 61, 61, 61, 61, 61, 61, 61, 61, 61, 61, 61, 61, 61, 61, 61, 61, 61, 61, 61, 61, 61, 61, 61, 61, 61, 61, 61, 61, 61, 61, 61, 61, 61, 61, 61, 61, 61, 61])) none (some (.t 83)), none⟩,
                  ⟨(some 4), .mov (.t 84), none⟩])
               (.ret))
              (.seq (.ops [⟨(some 86), .mov (.t 7), none⟩,
                  ⟨(some 87), .bin .leq .no (.t 86) (.c (.int .i64 64)), none⟩,
                  ⟨(some 88), .mov (.t 87), none⟩,
                  ⟨(some 89), .mov (.t 0), (some (88, true))⟩,
                  ⟨(some 90), .call k_strings_HasPrefix [(.c (.str [9, 9, 9, 9, 9, 9, 9, 9, 9, 9, 9, 9, 9, 9, 9, 9, 9, 9, 9, 9, 9, 9, 9, 9, 9, 9, 9, 9, 9, 9, 9, 9, 9, 9, 9, 9, 9, 9, 9, 9, 9, 9, 9, 9, 9, 9, 9, 9, 9, 9, 9, 9, 9, 9, 9, 9, 9, 9, 9, 9, 9, 9, 9, 9])), (.t 89)], (some (88, true))⟩,
                  ⟨(some 91), .pick (.t 88) (.t 90) (.c (.bool false)), none⟩,
                  ⟨(some 85), .mov (.t 91), none⟩])
               (.cond (.t 85)
                (.seq (.ops [⟨(some 92), .mov (.t 7), none⟩,
                    ⟨(some 93), .slcStr (.c (.str [9, 9, 9, 9, 9, 9, 9, 9, 9, 9, 9, 9, 9, 9, 9, 9, 9, 9, 9, 9, 9, 9, 9, 9, 9, 9, 9, 9, 9, 9, 9, 9, 9, 9, 9, 9, 9, 9, 9, 9, 9, 9, 9, 9, 9, 9, 9, 9, 9, 9, 9, 9, 9, 9, 9, 9, 9, 9, 9, 9, 9, 9, 9, 9])) none (some (.t 92)), none⟩,
                    ⟨(some 4), .mov (.t 93), none⟩])
                 (.ret))
                (.skip))))))))))))
     (.skip)))))
  (.seq (.ops [⟨(some 94), .mov (.t 7), none⟩,
     ⟨(some 8), .mov (.t 94), none⟩])
  (.seq (.seq (.ops [⟨(some 95), .mov (.t 7), none⟩,
      ⟨(some 96), .bin .gtr .no (.t 95) (.c (.int .i64 8192)), none⟩])
   (.cond (.t 96)
    (.seq (.ops [⟨(some 97), .mov (.t 0), none⟩,
        ⟨(some 98), .len true (.t 97), none⟩,
        ⟨(some 99), .bin .quo .no (.c (.int .i64 8192)) (.t 98), none⟩,
        ⟨(some 100), .mov (.t 0), none⟩,
        ⟨(some 101), .len true (.t 100), none⟩,
        ⟨(some 102), .bin .mul .no (.t 99) (.t 101), none⟩,
        ⟨(some 8), .mov (.t 102), none⟩])
     (.seq (.ops [⟨(some 103), .mov (.t 8), none⟩,
        ⟨(some 104), .bin .eql .no (.t 103) (.c (.int .i64 0)), none⟩])
     (.cond (.t 104)
      (.ops [⟨(some 105), .mov (.t 0), none⟩,
         ⟨(some 106), .len true (.t 105), none⟩,
         ⟨(some 8), .mov (.t 106), none⟩])
      (.skip))))
    (.skip)))
  (.seq (.ops [⟨(some 9), .alloc [(.ptr none), (.slice none 0 (some 0) 0)], none⟩])
  (.seq (.ops [⟨(some 107), .mov (.t 7), none⟩,
     ⟨(some 108), .call k_strings_Builder_Grow [(.t 9), (.t 107)], none⟩])
  (.seq (.ops [⟨(some 109), .mov (.t 0), none⟩,
     ⟨(some 110), .call k_strings_Builder_WriteString [(.t 9), (.t 109)], none⟩])
  (.seq (.block 3 (.loop (.seq (.seq (.ops [⟨(some 111), .call k_strings_Builder_Len [(.t 9)], none⟩,
         ⟨(some 112), .mov (.t 7), none⟩,
         ⟨(some 113), .bin .lss .no (.t 111) (.t 112), none⟩])
      (.cond (.t 113)
       (.skip)
       (.exit 3)))
     (.block 4 (.seq (.ops [⟨(some 114), .mov (.t 7), none⟩,
         ⟨(some 115), .call k_strings_Builder_Len [(.t 9)], none⟩,
         ⟨(some 116), .bin .sub .no (.t 114) (.t 115), none⟩,
         ⟨(some 117), .call k_strings_Builder_Len [(.t 9)], none⟩,
         ⟨(some 118), .mov (.t 8), none⟩,
         ⟨(some 119), .minmax true [(.t 116), (.t 117), (.t 118)], none⟩,
         ⟨(some 10), .mov (.t 119), none⟩])
      (.ops [⟨(some 120), .call k_strings_Builder_String [(.t 9)], none⟩,
        ⟨(some 121), .mov (.t 10), none⟩,
        ⟨(some 122), .slcStr (.t 120) none (some (.t 121)), none⟩,
        ⟨(some 123), .call k_strings_Builder_WriteString [(.t 9), (.t 122)], none⟩]))))))
  (.seq (.ops [⟨(some 124), .call k_strings_Builder_String [(.t 9)], none⟩,
     ⟨(some 4), .mov (.t 124), none⟩])
  (.ret)))))))))))))))⟩
/-- purser/tx.Coinbase -/
def f_tx_Coinbase : Fn := ⟨16, [.tmp 2],
  .seq (.ops [⟨(some 1), .box (.t 0), none⟩,
     ⟨(some 2), .mov (.c (.bool false)), none⟩])
  (.seq (.ops [⟨(some 3), .fieldAddr 1 (.t 1), none⟩,
     ⟨(some 4), .load none (.t 3), none⟩,
     ⟨(some 5), .len false (.t 4), none⟩,
     ⟨(some 6), .bin .eql .no (.t 5) (.c (.int .i64 1)), none⟩,
     ⟨(some 7), .mov (.t 6), none⟩,
     ⟨(some 8), .fieldAddr 1 (.t 1), (some (7, true))⟩,
     ⟨(some 9), .load none (.t 8), (some (7, true))⟩,
     ⟨(some 10), .idxAddrS 35 (.t 9) (.c (.int .i64 0)), (some (7, true))⟩,
     ⟨(some 11), .fieldAddr 0 (.t 10), (some (7, true))⟩,
     ⟨(some 12), .load (some 33) (.t 11), (some (7, true))⟩,
     ⟨(some 13), .build [(.int .u8 0), (.int .u8 0), (.int .u8 0), (.int .u8 0), (.int .u8 0), (.int .u8 0), (.int .u8 0), (.int .u8 0), (.int .u8 0), (.int .u8 0), (.int .u8 0), (.int .u8 0), (.int .u8 0), (.int .u8 0), (.int .u8 0), (.int .u8 0), (.int .u8 0), (.int .u8 0), (.int .u8 0), (.int .u8 0), (.int .u8 0), (.int .u8 0), (.int .u8 0), (.int .u8 0), (.int .u8 0), (.int .u8 0), (.int .u8 0), (.int .u8 0), (.int .u8 0), (.int .u8 0), (.int .u8 0), (.int .u8 0), (.int .u32 0)] [(32, 1, (.c (.int .u32 4294967295)))], (some (7, true))⟩,
     ⟨(some 14), .bin .eql (.flat [.i, .i, .i, .i, .i, .i, .i, .i, .i, .i, .i, .i, .i, .i, .i, .i, .i, .i, .i, .i, .i, .i, .i, .i, .i, .i, .i, .i, .i, .i, .i, .i, .i]) (.t 12) (.t 13), (some (7, true))⟩,
     ⟨(some 15), .pick (.t 7) (.t 14) (.c (.bool false)), none⟩,
     ⟨(some 2), .mov (.t 15), none⟩])
  (.ret))⟩
-- no text: internal/bytealg.Compare
/-- cmp.isNaN[uint32] -/
def f_cmp_isNaN_uint32 : Fn := ⟨6, [.tmp 2],
  .seq (.ops [⟨(some 2), .mov (.c (.bool false)), none⟩])
  (.seq (.ops [⟨(some 3), .mov (.t 0), none⟩,
     ⟨(some 4), .mov (.t 0), none⟩,
     ⟨(some 5), .bin .neq .no (.t 3) (.t 4), none⟩,
     ⟨(some 2), .mov (.t 5), none⟩])
  (.ret))⟩
/-- purser/tx.Check -/
def f_tx_Check : Fn := ⟨24, [.tmp 2],
  .seq (.ops [⟨(some 1), .box (.t 0), none⟩,
     ⟨(some 2), .mov (.c (.int .i64 0)), none⟩])
  (.scope (.seq (.seq (.ops [⟨(some 5), .fieldAddr 1 (.t 1), none⟩,
       ⟨(some 6), .load none (.t 5), none⟩,
       ⟨(some 7), .len false (.t 6), none⟩,
       ⟨(some 8), .call k_tx_counted [(.t 7)], none⟩,
       ⟨(some 9), .un .not (.t 8), none⟩,
       ⟨(some 10), .mov (.t 9), none⟩,
       ⟨(some 11), .fieldAddr 2 (.t 1), (some (10, false))⟩,
       ⟨(some 12), .load none (.t 11), (some (10, false))⟩,
       ⟨(some 13), .len false (.t 12), (some (10, false))⟩,
       ⟨(some 14), .call k_tx_counted [(.t 13)], (some (10, false))⟩,
       ⟨(some 15), .un .not (.t 14), (some (10, false))⟩,
       ⟨(some 16), .pick (.t 10) (.c (.bool true)) (.t 15), none⟩])
    (.cond (.t 16)
     (.seq (.ops [⟨(some 2), .mov (.c (.int .i64 60)), none⟩])
      (.ret))
     (.skip)))
   (.seq (.ops [⟨(some 3), .alloc [(.int .i64 0)], none⟩,
      ⟨none, .store 1 (.t 3) (.c (.int .i64 0)), none⟩])
   (.seq (.skip)
   (.seq (.seq (.ops [⟨(some 17), .load (some 4) (.t 1), none⟩,
       ⟨(some 18), .call k_tx_scripts [(.t 17)], none⟩])
    (.block 0 (.rangeF (.t 18) [19] (.ops [⟨(some 4), .mov (.t 19), none⟩])
     (.block 1 (.seq (.ops [⟨(some 20), .mov (.t 4), none⟩,
          ⟨(some 21), .len false (.t 20), none⟩,
          ⟨(some 22), .bin .gtr .no (.t 21) (.c (.int .i64 2000)), none⟩])
       (.cond (.t 22)
        (.seq (.ops [⟨none, .store 1 (.t 3) (.c (.int .i64 60)), none⟩])
         (.exit 0))
        (.skip)))))))
   (.seq (.ops [⟨(some 23), .load none (.t 3), none⟩,
      ⟨(some 2), .mov (.t 23), none⟩])
   (.ret)))))))⟩
/-- (*purser/octet.Pen).Fixed -/
def f_octet_Pen_Fixed : Fn := ⟨20, [.tmp 6],
  .seq (.ops [⟨(some 6), .mov (.c (.int .i64 0)), none⟩])
  (.seq (.seq (.ops [⟨(some 7), .mov (.t 0), none⟩,
      ⟨(some 8), .bin .eql (.ref .p) (.t 7) (.c (.ptr none)), none⟩])
   (.cond (.t 8)
    (.seq (.ops [⟨(some 6), .mov (.c (.int .i64 1)), none⟩])
     (.ret))
    (.skip)))
  (.seq (.seq (.ops [⟨(some 9), .mov (.t 1), none⟩,
      ⟨(some 10), .call k_octet_sized [(.t 9)], none⟩,
      ⟨(some 11), .un .not (.t 10), none⟩])
   (.cond (.t 11)
    (.seq (.ops [⟨(some 6), .mov (.c (.int .i64 2)), none⟩])
     (.ret))
    (.skip)))
  (.seq (.seq (.ops [⟨(some 12), .mov (.t 2), none⟩,
      ⟨(some 13), .call k_octet_width [(.t 12)], none⟩,
      ⟨(some 14), .mov (.t 1), none⟩,
      ⟨(some 15), .bin .gtr .no (.t 13) (.t 14), none⟩])
   (.cond (.t 15)
    (.seq (.ops [⟨(some 6), .mov (.c (.int .i64 10)), none⟩])
     (.ret))
    (.skip)))
  (.seq (.ops [⟨(some 16), .mov (.t 0), none⟩,
     ⟨(some 17), .mov (.t 1), none⟩,
     ⟨(some 18), .mov (.t 2), none⟩,
     ⟨(some 19), .call k_octet_Pen_put [(.t 16), (.t 17), (.t 18)], none⟩])
  (.seq (.ops [⟨(some 6), .mov (.c (.int .i64 0)), none⟩])
  (.ret))))))⟩
/-- (*purser/octet.Pen).Size -/
def f_octet_Pen_Size : Fn := ⟨25, [.tmp 4],
  .seq (.ops [⟨(some 4), .mov (.c (.int .i64 0)), none⟩])
  (.seq (.seq (.ops [⟨(some 6), .mov (.t 0), none⟩,
      ⟨(some 7), .bin .eql (.ref .p) (.t 6) (.c (.ptr none)), none⟩])
   (.cond (.t 7)
    (.seq (.ops [⟨(some 4), .mov (.c (.int .i64 1)), none⟩])
     (.ret))
    (.skip)))
  (.seq (.ops [⟨(some 8), .mov (.t 1), none⟩,
     ⟨(some 9), .call k_octet_Compact [(.t 8)], none⟩,
     ⟨(some 10), .bin .sub .no (.t 9) (.c (.int .i64 1)), none⟩,
     ⟨(some 5), .mov (.t 10), none⟩])
  (.seq (.seq (.ops [⟨(some 11), .mov (.t 5), none⟩,
      ⟨(some 12), .bin .eql .no (.t 11) (.c (.int .i64 0)), none⟩])
   (.cond (.t 12)
    (.seq (.ops [⟨(some 13), .mov (.t 0), none⟩,
        ⟨(some 14), .mov (.t 1), none⟩,
        ⟨(some 15), .call k_octet_Pen_put [(.t 13), (.c (.int .i64 1)), (.t 14)], none⟩])
     (.seq (.ops [⟨(some 4), .mov (.c (.int .i64 0)), none⟩])
     (.ret)))
    (.skip)))
  (.seq (.ops [⟨(some 16), .mov (.t 0), none⟩,
     ⟨(some 17), .mov (.t 5), none⟩,
     ⟨(some 18), .call k_octet_mark [(.t 17)], none⟩,
     ⟨(some 19), .conv .u64 (.t 18), none⟩,
     ⟨(some 20), .call k_octet_Pen_put [(.t 16), (.c (.int .i64 1)), (.t 19)], none⟩])
  (.seq (.ops [⟨(some 21), .mov (.t 0), none⟩,
     ⟨(some 22), .mov (.t 5), none⟩,
     ⟨(some 23), .mov (.t 1), none⟩,
     ⟨(some 24), .call k_octet_Pen_put [(.t 21), (.t 22), (.t 23)], none⟩])
  (.seq (.ops [⟨(some 4), .mov (.c (.int .i64 0)), none⟩])
  (.ret)))))))⟩
/-- (*purser/octet.Pen).Raw -/
def f_octet_Pen_Raw : Fn := ⟨25, [.tmp 4],
  .seq (.ops [⟨(some 4), .mov (.c (.int .i64 0)), none⟩])
  (.seq (.seq (.ops [⟨(some 7), .mov (.t 0), none⟩,
      ⟨(some 8), .bin .eql (.ref .p) (.t 7) (.c (.ptr none)), none⟩])
   (.cond (.t 8)
    (.seq (.ops [⟨(some 4), .mov (.c (.int .i64 1)), none⟩])
     (.ret))
    (.skip)))
  (.seq (.seq (.ops [⟨(some 9), .mov (.t 1), none⟩,
      ⟨(some 10), .len false (.t 9), none⟩,
      ⟨(some 11), .mov (.c (.int .i64 0)), none⟩])
   (.block 0 (.loop (.seq (.ops [⟨(some 12), .bin .lss .no (.t 11) (.t 10), none⟩])
     (.seq (.cond (.t 12)
       (.skip)
       (.exit 0))
     (.seq (.block 1 (.seq (.ops [⟨(some 13), .idxAddrS 1 (.t 9) (.t 11), none⟩,
          ⟨(some 14), .load none (.t 13), none⟩,
          ⟨(some 6), .mov (.t 14), none⟩])
       (.ops [⟨(some 15), .mov (.t 0), none⟩,
         ⟨(some 16), .mov (.t 0), none⟩,
         ⟨(some 17), .nilchk (.t 16), none⟩,
         ⟨(some 18), .fieldAddr 0 (.t 17), none⟩,
         ⟨(some 19), .load none (.t 18), none⟩,
         ⟨(some 20), .mov (.t 6), none⟩,
         ⟨(some 21), .append 1 1 (.t 19) (.t 20), none⟩,
         ⟨(some 22), .nilchk (.t 15), none⟩,
         ⟨(some 23), .fieldAddr 0 (.t 22), none⟩,
         ⟨none, .store 1 (.t 23) (.t 21), none⟩])))
     (.ops [⟨(some 24), .bin .add .no (.t 11) (.c (.int .i64 1)), none⟩,
       ⟨(some 11), .mov (.t 24), none⟩])))))))
  (.seq (.ops [⟨(some 4), .mov (.c (.int .i64 0)), none⟩])
  (.ret))))⟩
/-- (*purser/octet.Pen).Bytes -/
def f_octet_Pen_Bytes : Fn := ⟨18, [.tmp 4],
  .seq (.ops [⟨(some 4), .mov (.c (.int .i64 0)), none⟩])
  (.seq (.seq (.ops [⟨(some 6), .mov (.t 0), none⟩,
      ⟨(some 7), .mov (.t 1), none⟩,
      ⟨(some 8), .len false (.t 7), none⟩,
      ⟨(some 9), .conv .u64 (.t 8), none⟩,
      ⟨(some 10), .call k_octet_Pen_Size [(.t 6), (.t 9)], none⟩,
      ⟨(some 5), .mov (.t 10), none⟩])
   (.seq (.ops [⟨(some 11), .mov (.t 5), none⟩,
      ⟨(some 12), .bin .neq .no (.t 11) (.c (.int .i64 0)), none⟩])
   (.cond (.t 12)
    (.seq (.ops [⟨(some 13), .mov (.t 5), none⟩,
        ⟨(some 4), .mov (.t 13), none⟩])
     (.ret))
    (.skip))))
  (.seq (.ops [⟨(some 14), .mov (.t 0), none⟩,
     ⟨(some 15), .mov (.t 1), none⟩,
     ⟨(some 16), .buildS [(.slice none 0 (some 0) 0)] 1 1 [(0, 1, (.t 15))], none⟩,
     ⟨(some 17), .call k_octet_Pen_Raw [(.t 14), (.t 16)], none⟩,
     ⟨(some 4), .mov (.t 17), none⟩])
  (.ret)))⟩
/-- (*purser/octet.Pen).All -/
def f_octet_Pen_All : Fn := ⟨10, [.tmp 2],
  .seq (.ops [⟨(some 2), .mov (.c (.slice none 0 (some 0) 0)), none⟩])
  (.seq (.seq (.ops [⟨(some 3), .mov (.t 0), none⟩,
      ⟨(some 4), .bin .eql (.ref .p) (.t 3) (.c (.ptr none)), none⟩])
   (.cond (.t 4)
    (.seq (.ops [⟨(some 2), .mov (.c (.slice none 0 (some 0) 0)), none⟩])
     (.ret))
    (.skip)))
  (.seq (.ops [⟨(some 5), .mov (.t 0), none⟩,
     ⟨(some 6), .nilchk (.t 5), none⟩,
     ⟨(some 7), .fieldAddr 0 (.t 6), none⟩,
     ⟨(some 8), .load none (.t 7), none⟩,
     ⟨(some 9), .append 1 1 (.c (.slice none 0 (some 0) 0)) (.t 8), none⟩,
     ⟨(some 2), .mov (.t 9), none⟩])
  (.ret)))⟩
/-- math/bits.Mul -/
def f_math_bits_Mul : Fn := ⟨30, [.tmp 4, .tmp 5],
  .seq (.ops [⟨(some 4), .mov (.c (.int .u64 0)), none⟩,
     ⟨(some 5), .mov (.c (.int .u64 0)), none⟩])
  (.seq (.cond (.c (.bool false))
    (.seq (.ops [⟨(some 11), .mov (.t 0), none⟩,
        ⟨(some 12), .conv .u32 (.t 11), none⟩,
        ⟨(some 13), .mov (.t 1), none⟩,
        ⟨(some 14), .conv .u32 (.t 13), none⟩,
        ⟨(some 15), .call k_math_bits_Mul32 [(.t 12), (.t 14)], none⟩,
        ⟨(some 10), .mov (.t 15), none⟩,
        ⟨(some 16), .ext (.t 10) 0, none⟩,
        ⟨(some 17), .ext (.t 10) 1, none⟩,
        ⟨(some 6), .mov (.t 16), none⟩,
        ⟨(some 7), .mov (.t 17), none⟩])
     (.seq (.ops [⟨(some 18), .mov (.t 6), none⟩,
        ⟨(some 19), .conv .u64 (.t 18), none⟩,
        ⟨(some 20), .mov (.t 7), none⟩,
        ⟨(some 21), .conv .u64 (.t 20), none⟩,
        ⟨(some 4), .mov (.t 19), none⟩,
        ⟨(some 5), .mov (.t 21), none⟩])
     (.ret)))
    (.skip))
  (.seq (.ops [⟨(some 23), .mov (.t 0), none⟩,
     ⟨(some 24), .mov (.t 1), none⟩,
     ⟨(some 25), .call k_math_bits_Mul64 [(.t 23), (.t 24)], none⟩,
     ⟨(some 22), .mov (.t 25), none⟩,
     ⟨(some 26), .ext (.t 22) 0, none⟩,
     ⟨(some 27), .ext (.t 22) 1, none⟩,
     ⟨(some 8), .mov (.t 26), none⟩,
     ⟨(some 9), .mov (.t 27), none⟩])
  (.seq (.ops [⟨(some 28), .mov (.t 8), none⟩,
     ⟨(some 29), .mov (.t 9), none⟩,
     ⟨(some 4), .mov (.t 28), none⟩,
     ⟨(some 5), .mov (.t 29), none⟩])
  (.ret))))⟩
/-- strings.HasPrefix -/
def f_strings_HasPrefix : Fn := ⟨8, [.tmp 4],
  .seq (.ops [⟨(some 4), .mov (.c (.bool false)), none⟩])
  (.seq (.ops [⟨(some 5), .mov (.t 0), none⟩,
     ⟨(some 6), .mov (.t 1), none⟩,
     ⟨(some 7), .call k_internal_stringslite_HasPrefix [(.t 5), (.t 6)], none⟩,
     ⟨(some 4), .mov (.t 7), none⟩])
  (.ret))⟩
/-- (*strings.Builder).Grow -/
def f_strings_Builder_Grow : Fn := ⟨25, [],
  .seq (.ops [⟨(some 4), .mov (.t 0), none⟩,
     ⟨(some 5), .call k_strings_Builder_copyCheck [(.t 4)], none⟩])
  (.seq (.seq (.ops [⟨(some 6), .mov (.t 1), none⟩,
      ⟨(some 7), .bin .lss .no (.t 6) (.c (.int .i64 0)), none⟩])
   (.cond (.t 7)
    (.ops [⟨(some 8), .bad "", none⟩,
       ⟨none, .bad "", none⟩])
    (.skip)))
  (.seq (.dops 0 [] [(⟨(some 9), .mov (.t 0), none⟩, .L),
     (⟨(some 10), .nilchk (.t 9), none⟩, .L),
     (⟨(some 11), .fieldAddr 1 (.t 10), none⟩, .L),
     (⟨(some 12), .load none (.t 11), none⟩, .R [] []),
     (⟨(some 13), .cap (.t 12), none⟩, .L),
     (⟨(some 14), .mov (.t 0), none⟩, .L),
     (⟨(some 15), .nilchk (.t 14), none⟩, .L),
     (⟨(some 16), .fieldAddr 1 (.t 15), none⟩, .L),
     (⟨(some 17), .load none (.t 16), none⟩, .R [] []),
     (⟨(some 18), .len false (.t 17), none⟩, .L),
     (⟨(some 19), .bin .sub .no (.t 13) (.t 18), none⟩, .L),
     (⟨(some 20), .mov (.t 1), none⟩, .L),
     (⟨(some 21), .bin .lss .no (.t 19) (.t 20), none⟩, .L)])
  (.cond (.t 21)
   (.ops [⟨(some 22), .mov (.t 0), none⟩,
      ⟨(some 23), .mov (.t 1), none⟩,
      ⟨(some 24), .call k_strings_Builder_grow [(.t 22), (.t 23)], none⟩])
   (.skip))))⟩
/-- (*strings.Builder).WriteString -/
def f_strings_Builder_WriteString : Fn := ⟨19, [.tmp 4, .tmp 5],
  .seq (.ops [⟨(some 4), .mov (.c (.int .i64 0)), none⟩,
     ⟨(some 5), .mov (.c .nilIface), none⟩])
  (.seq (.ops [⟨(some 6), .mov (.t 0), none⟩,
     ⟨(some 7), .call k_strings_Builder_copyCheck [(.t 6)], none⟩])
  (.seq (.ops [⟨(some 8), .mov (.t 0), none⟩,
     ⟨(some 9), .mov (.t 0), none⟩,
     ⟨(some 10), .nilchk (.t 9), none⟩,
     ⟨(some 11), .fieldAddr 1 (.t 10), none⟩,
     ⟨(some 12), .load none (.t 11), none⟩,
     ⟨(some 13), .mov (.t 1), none⟩,
     ⟨(some 14), .append 1 1 (.t 12) (.t 13), none⟩,
     ⟨(some 15), .nilchk (.t 8), none⟩,
     ⟨(some 16), .fieldAddr 1 (.t 15), none⟩,
     ⟨none, .store 1 (.t 16) (.t 14), none⟩])
  (.seq (.ops [⟨(some 17), .mov (.t 1), none⟩,
     ⟨(some 18), .len true (.t 17), none⟩,
     ⟨(some 4), .mov (.t 18), none⟩,
     ⟨(some 5), .mov (.c .nilIface), none⟩])
  (.ret))))⟩
/-- (*strings.Builder).Len -/
def f_strings_Builder_Len : Fn := ⟨8, [.tmp 2],
  .seq (.ops [⟨(some 2), .mov (.c (.int .i64 0)), none⟩])
  (.seq (.ops [⟨(some 3), .mov (.t 0), none⟩,
     ⟨(some 4), .nilchk (.t 3), none⟩,
     ⟨(some 5), .fieldAddr 1 (.t 4), none⟩,
     ⟨(some 6), .load none (.t 5), none⟩,
     ⟨(some 7), .len false (.t 6), none⟩,
     ⟨(some 2), .mov (.t 7), none⟩])
  (.ret))⟩
/-- (*strings.Builder).String -/
def f_strings_Builder_String : Fn := ⟨14, [.tmp 2],
  .seq (.ops [⟨(some 2), .mov (.c (.str [])), none⟩])
  (.seq (.dops 0 [] [(⟨(some 3), .mov (.t 0), none⟩, .L),
     (⟨(some 4), .nilchk (.t 3), none⟩, .L),
     (⟨(some 5), .fieldAddr 1 (.t 4), none⟩, .L),
     (⟨(some 6), .load none (.t 5), none⟩, .R [] []),
     (⟨(some 7), .bad "", none⟩, .B []),
     (⟨(some 8), .mov (.t 0), none⟩, .L),
     (⟨(some 9), .nilchk (.t 8), none⟩, .L),
     (⟨(some 10), .fieldAddr 1 (.t 9), none⟩, .L),
     (⟨(some 11), .load none (.t 10), none⟩, .R [] [(2, [])]),
     (⟨(some 12), .len false (.t 11), none⟩, .L),
     (⟨(some 13), .bad "", none⟩, .B []),
     (⟨(some 2), .mov (.t 13), none⟩, .L)])
  (.ret))⟩
/-- purser/tx.counted -/
def f_tx_counted : Fn := ⟨9, [.tmp 2],
  .seq (.ops [⟨(some 2), .mov (.c (.bool false)), none⟩])
  (.seq (.ops [⟨(some 3), .mov (.t 0), none⟩,
     ⟨(some 4), .bin .geq .no (.t 3) (.c (.int .i64 1)), none⟩,
     ⟨(some 5), .mov (.t 4), none⟩,
     ⟨(some 6), .mov (.t 0), (some (5, true))⟩,
     ⟨(some 7), .bin .leq .no (.t 6) (.c (.int .i64 50)), (some (5, true))⟩,
     ⟨(some 8), .pick (.t 5) (.t 7) (.c (.bool false)), none⟩,
     ⟨(some 2), .mov (.t 8), none⟩])
  (.ret))⟩
/-- purser/tx.scripts -/
def f_tx_scripts : Fn := ⟨4, [.tmp 2],
  .seq (.ops [⟨(some 1), .box (.t 0), none⟩,
     ⟨(some 2), .mov (.c .nilFn), none⟩])
  (.seq (.ops [⟨(some 3), .mkfn k_tx_scripts_1 [] [(.t 1)], none⟩,
     ⟨(some 2), .mov (.t 3), none⟩])
  (.ret))⟩
/-- purser/octet.sized -/
def f_octet_sized : Fn := ⟨17, [.tmp 2],
  .seq (.ops [⟨(some 2), .mov (.c (.bool false)), none⟩])
  (.seq (.ops [⟨(some 3), .mov (.t 0), none⟩,
     ⟨(some 4), .bin .eql .no (.t 3) (.c (.int .i64 1)), none⟩,
     ⟨(some 5), .mov (.t 4), none⟩,
     ⟨(some 6), .mov (.t 0), (some (5, false))⟩,
     ⟨(some 7), .bin .eql .no (.t 6) (.c (.int .i64 2)), (some (5, false))⟩,
     ⟨(some 8), .pick (.t 5) (.c (.bool true)) (.t 7), none⟩,
     ⟨(some 9), .mov (.t 8), none⟩,
     ⟨(some 10), .mov (.t 0), (some (9, false))⟩,
     ⟨(some 11), .bin .eql .no (.t 10) (.c (.int .i64 4)), (some (9, false))⟩,
     ⟨(some 12), .pick (.t 9) (.c (.bool true)) (.t 11), none⟩,
     ⟨(some 13), .mov (.t 12), none⟩,
     ⟨(some 14), .mov (.t 0), (some (13, false))⟩,
     ⟨(some 15), .bin .eql .no (.t 14) (.c (.int .i64 8)), (some (13, false))⟩,
     ⟨(some 16), .pick (.t 13) (.c (.bool true)) (.t 15), none⟩,
     ⟨(some 2), .mov (.t 16), none⟩])
  (.ret))⟩
/-- purser/octet.width -/
def f_octet_width : Fn := ⟨15, [.tmp 2],
  .seq (.ops [⟨(some 2), .mov (.c (.int .i64 0)), none⟩])
  (.scope (.seq (.ops [⟨(some 3), .alloc [(.int .i64 0)], none⟩,
      ⟨none, .store 1 (.t 3) (.c (.int .i64 1)), none⟩])
   (.seq (.skip)
   (.seq (.seq (.ops [⟨(some 6), .mov (.t 0), none⟩,
       ⟨(some 7), .call k_octet_highFirst [(.t 6), (.c (.int .i64 8))], none⟩])
    (.block 0 (.rangeF (.t 7) [8, 9] (.seq (.ops [⟨(some 4), .mov (.t 8), none⟩])
      (.ops [⟨(some 5), .mov (.t 9), none⟩]))
     (.block 1 (.seq (.ops [⟨(some 10), .mov (.t 5), none⟩,
          ⟨(some 11), .bin .neq .no (.t 10) (.c (.int .u8 0)), none⟩])
       (.cond (.t 11)
        (.seq (.ops [⟨(some 12), .mov (.t 4), none⟩,
            ⟨(some 13), .bin .add .no (.t 12) (.c (.int .i64 1)), none⟩,
            ⟨none, .store 1 (.t 3) (.t 13), none⟩])
         (.exit 0))
        (.skip)))))))
   (.seq (.ops [⟨(some 14), .load none (.t 3), none⟩,
      ⟨(some 2), .mov (.t 14), none⟩])
   (.ret))))))⟩
/-- (*purser/octet.Pen).put -/
def f_octet_Pen_put : Fn := ⟨37, [],
  .seq (.ops [⟨(some 3), .box (.t 0), none⟩])
  (.seq (.ops [⟨(some 9), .load none (.t 3), none⟩,
     ⟨(some 10), .nilchk (.t 9), none⟩,
     ⟨(some 11), .fieldAddr 0 (.t 10), none⟩,
     ⟨(some 12), .load none (.t 11), none⟩,
     ⟨(some 13), .len false (.t 12), none⟩,
     ⟨(some 6), .alloc [(.int .i64 0)], none⟩,
     ⟨none, .store 1 (.t 6) (.t 13), none⟩])
  (.seq (.dops 0 [] [(⟨(some 14), .load none (.t 3), none⟩, .R [] [(1, [])]),
     (⟨(some 15), .load none (.t 3), none⟩, .R [] []),
     (⟨(some 16), .nilchk (.t 15), none⟩, .L),
     (⟨(some 17), .fieldAddr 0 (.t 16), none⟩, .L),
     (⟨(some 18), .load none (.t 17), none⟩, .R [] []),
     (⟨(some 19), .mov (.t 1), none⟩, .L),
     (⟨(some 20), .appendZ [(.int .u8 0)] 1 (.t 18) (.t 19), none⟩, .B []),
     (⟨(some 21), .nilchk (.t 14), none⟩, .L),
     (⟨(some 22), .fieldAddr 0 (.t 21), none⟩, .L),
     (⟨none, .store 1 (.t 22) (.t 20), none⟩, .B [])])
  (.seq (.ops [⟨(some 23), .mov (.t 2), none⟩,
     ⟨(some 24), .mov (.t 1), none⟩,
     ⟨(some 25), .call k_octet_highFirst [(.t 23), (.t 24)], none⟩])
  (.block 0 (.rangeF (.t 25) [26, 27] (.seq (.ops [⟨(some 7), .mov (.t 26), none⟩])
    (.ops [⟨(some 8), .mov (.t 27), none⟩]))
   (.block 1 (.dops 0 [] [(⟨(some 28), .load none (.t 3), none⟩, .R [] []),
       (⟨(some 29), .nilchk (.t 28), none⟩, .L),
       (⟨(some 30), .fieldAddr 0 (.t 29), none⟩, .L),
       (⟨(some 31), .load none (.t 30), none⟩, .R [] []),
       (⟨(some 32), .load none (.t 6), none⟩, .R [] []),
       (⟨(some 33), .mov (.t 7), none⟩, .L),
       (⟨(some 34), .bin .add .no (.t 32) (.t 33), none⟩, .L),
       (⟨(some 35), .mov (.t 8), none⟩, .L),
       (⟨(some 36), .idxAddrS 1 (.t 31) (.t 34), none⟩, .L),
       (⟨none, .store 1 (.t 36) (.t 35), none⟩, .B [])])))))))⟩
/-- purser/octet.Compact -/
def f_octet_Compact : Fn := ⟨14, [.tmp 2],
  .seq (.ops [⟨(some 2), .mov (.c (.int .i64 0)), none⟩])
  (.seq (.seq (.ops [⟨(some 4), .mov (.t 0), none⟩,
      ⟨(some 5), .bin .lss .no (.t 4) (.c (.int .u64 253)), none⟩])
   (.cond (.t 5)
    (.seq (.ops [⟨(some 2), .mov (.c (.int .i64 1)), none⟩])
     (.ret))
    (.skip)))
  (.seq (.seq (.ops [⟨(some 6), .mov (.t 0), none⟩,
      ⟨(some 7), .call k_octet_width [(.t 6)], none⟩,
      ⟨(some 3), .mov (.t 7), none⟩])
   (.block 0 (.seq (.ops [⟨(some 9), .mov (.t 3), none⟩,
       ⟨(some 10), .bin .leq .no (.t 9) (.c (.int .i64 2)), none⟩,
       ⟨(some 8), .mov (.t 10), none⟩])
    (.cond (.t 8)
     (.seq (.ops [⟨(some 2), .mov (.c (.int .i64 3)), none⟩])
      (.ret))
     (.seq (.ops [⟨(some 12), .mov (.t 3), none⟩,
         ⟨(some 13), .bin .leq .no (.t 12) (.c (.int .i64 4)), none⟩,
         ⟨(some 11), .mov (.t 13), none⟩])
      (.cond (.t 11)
       (.seq (.ops [⟨(some 2), .mov (.c (.int .i64 5)), none⟩])
        (.ret))
       (.skip)))))))
  (.seq (.ops [⟨(some 2), .mov (.c (.int .i64 9)), none⟩])
  (.ret))))⟩
/-- purser/octet.mark -/
def f_octet_mark : Fn := ⟨8, [.tmp 2],
  .seq (.ops [⟨(some 2), .mov (.c (.int .u8 0)), none⟩])
  (.seq (.seq (.ops [⟨(some 3), .mov (.t 0), none⟩])
   (.block 0 (.seq (.ops [⟨(some 5), .bin .eql .no (.t 3) (.c (.int .i64 2)), none⟩,
       ⟨(some 4), .mov (.t 5), none⟩])
    (.cond (.t 4)
     (.seq (.ops [⟨(some 2), .mov (.c (.int .u8 253)), none⟩])
      (.ret))
     (.seq (.ops [⟨(some 7), .bin .eql .no (.t 3) (.c (.int .i64 4)), none⟩,
         ⟨(some 6), .mov (.t 7), none⟩])
      (.cond (.t 6)
       (.seq (.ops [⟨(some 2), .mov (.c (.int .u8 254)), none⟩])
        (.ret))
       (.skip)))))))
  (.seq (.ops [⟨(some 2), .mov (.c (.int .u8 255)), none⟩])
  (.ret)))⟩
/-- math/bits.Mul64 -/
def f_math_bits_Mul64 : Fn := ⟨51, [.tmp 4, .tmp 5],
  .seq (.ops [⟨(some 4), .mov (.c (.int .u64 0)), none⟩,
     ⟨(some 5), .mov (.c (.int .u64 0)), none⟩])
  (.seq (.ops [⟨(some 14), .mov (.t 0), none⟩,
     ⟨(some 15), .bin .and .no (.t 14) (.c (.int .u64 4294967295)), none⟩,
     ⟨(some 6), .mov (.t 15), none⟩])
  (.seq (.ops [⟨(some 16), .mov (.t 0), none⟩,
     ⟨(some 17), .bin .shr .no (.t 16) (.c (.int .u64 32)), none⟩,
     ⟨(some 7), .mov (.t 17), none⟩])
  (.seq (.ops [⟨(some 18), .mov (.t 1), none⟩,
     ⟨(some 19), .bin .and .no (.t 18) (.c (.int .u64 4294967295)), none⟩,
     ⟨(some 8), .mov (.t 19), none⟩])
  (.seq (.ops [⟨(some 20), .mov (.t 1), none⟩,
     ⟨(some 21), .bin .shr .no (.t 20) (.c (.int .u64 32)), none⟩,
     ⟨(some 9), .mov (.t 21), none⟩])
  (.seq (.ops [⟨(some 22), .mov (.t 6), none⟩,
     ⟨(some 23), .mov (.t 8), none⟩,
     ⟨(some 24), .bin .mul .no (.t 22) (.t 23), none⟩,
     ⟨(some 10), .mov (.t 24), none⟩])
  (.seq (.ops [⟨(some 25), .mov (.t 7), none⟩,
     ⟨(some 26), .mov (.t 8), none⟩,
     ⟨(some 27), .bin .mul .no (.t 25) (.t 26), none⟩,
     ⟨(some 28), .mov (.t 10), none⟩,
     ⟨(some 29), .bin .shr .no (.t 28) (.c (.int .u64 32)), none⟩,
     ⟨(some 30), .bin .add .no (.t 27) (.t 29), none⟩,
     ⟨(some 11), .mov (.t 30), none⟩])
  (.seq (.ops [⟨(some 31), .mov (.t 11), none⟩,
     ⟨(some 32), .bin .and .no (.t 31) (.c (.int .u64 4294967295)), none⟩,
     ⟨(some 12), .mov (.t 32), none⟩])
  (.seq (.ops [⟨(some 33), .mov (.t 11), none⟩,
     ⟨(some 34), .bin .shr .no (.t 33) (.c (.int .u64 32)), none⟩,
     ⟨(some 13), .mov (.t 34), none⟩])
  (.seq (.ops [⟨(some 35), .mov (.t 12), none⟩,
     ⟨(some 36), .mov (.t 6), none⟩,
     ⟨(some 37), .mov (.t 9), none⟩,
     ⟨(some 38), .bin .mul .no (.t 36) (.t 37), none⟩,
     ⟨(some 39), .bin .add .no (.t 35) (.t 38), none⟩,
     ⟨(some 12), .mov (.t 39), none⟩])
  (.seq (.ops [⟨(some 40), .mov (.t 7), none⟩,
     ⟨(some 41), .mov (.t 9), none⟩,
     ⟨(some 42), .bin .mul .no (.t 40) (.t 41), none⟩,
     ⟨(some 43), .mov (.t 13), none⟩,
     ⟨(some 44), .bin .add .no (.t 42) (.t 43), none⟩,
     ⟨(some 45), .mov (.t 12), none⟩,
     ⟨(some 46), .bin .shr .no (.t 45) (.c (.int .u64 32)), none⟩,
     ⟨(some 47), .bin .add .no (.t 44) (.t 46), none⟩,
     ⟨(some 4), .mov (.t 47), none⟩])
  (.seq (.ops [⟨(some 48), .mov (.t 0), none⟩,
     ⟨(some 49), .mov (.t 1), none⟩,
     ⟨(some 50), .bin .mul .no (.t 48) (.t 49), none⟩,
     ⟨(some 5), .mov (.t 50), none⟩])
  (.ret))))))))))))⟩
/-- math/bits.Mul32 -/
def f_math_bits_Mul32 : Fn := ⟨17, [.tmp 4, .tmp 5],
  .seq (.ops [⟨(some 4), .mov (.c (.int .u32 0)), none⟩,
     ⟨(some 5), .mov (.c (.int .u32 0)), none⟩])
  (.seq (.ops [⟨(some 7), .mov (.t 0), none⟩,
     ⟨(some 8), .conv .u64 (.t 7), none⟩,
     ⟨(some 9), .mov (.t 1), none⟩,
     ⟨(some 10), .conv .u64 (.t 9), none⟩,
     ⟨(some 11), .bin .mul .no (.t 8) (.t 10), none⟩,
     ⟨(some 6), .mov (.t 11), none⟩])
  (.seq (.ops [⟨(some 12), .mov (.t 6), none⟩,
     ⟨(some 13), .bin .shr .no (.t 12) (.c (.int .u64 32)), none⟩,
     ⟨(some 14), .conv .u32 (.t 13), none⟩,
     ⟨(some 15), .mov (.t 6), none⟩,
     ⟨(some 16), .conv .u32 (.t 15), none⟩,
     ⟨(some 4), .mov (.t 14), none⟩,
     ⟨(some 5), .mov (.t 16), none⟩])
  (.ret)))⟩
/-- internal/stringslite.HasPrefix -/
def f_internal_stringslite_HasPrefix : Fn := ⟨18, [.tmp 4],
  .seq (.ops [⟨(some 4), .mov (.c (.bool false)), none⟩])
  (.seq (.ops [⟨(some 5), .mov (.t 0), none⟩,
     ⟨(some 6), .len true (.t 5), none⟩,
     ⟨(some 7), .mov (.t 1), none⟩,
     ⟨(some 8), .len true (.t 7), none⟩,
     ⟨(some 9), .bin .geq .no (.t 6) (.t 8), none⟩,
     ⟨(some 10), .mov (.t 9), none⟩,
     ⟨(some 11), .mov (.t 0), (some (10, true))⟩,
     ⟨(some 12), .mov (.t 1), (some (10, true))⟩,
     ⟨(some 13), .len true (.t 12), (some (10, true))⟩,
     ⟨(some 14), .slcStr (.t 11) none (some (.t 13)), (some (10, true))⟩,
     ⟨(some 15), .mov (.t 1), (some (10, true))⟩,
     ⟨(some 16), .bin .eql .no (.t 14) (.t 15), (some (10, true))⟩,
     ⟨(some 17), .pick (.t 10) (.t 16) (.c (.bool false)), none⟩,
     ⟨(some 4), .mov (.t 17), none⟩])
  (.ret))⟩
/-- (*strings.Builder).copyCheck -/
def f_strings_Builder_copyCheck : Fn := ⟨20, [],
  .seq (.ops [⟨(some 2), .mov (.t 0), none⟩,
     ⟨(some 3), .nilchk (.t 2), none⟩,
     ⟨(some 4), .fieldAddr 0 (.t 3), none⟩,
     ⟨(some 5), .load none (.t 4), none⟩,
     ⟨(some 6), .bin .eql (.ref .p) (.t 5) (.c (.ptr none)), none⟩])
  (.cond (.t 6)
   (.ops [⟨(some 7), .mov (.t 0), none⟩,
      ⟨(some 8), .mov (.t 0), none⟩,
      ⟨(some 9), .bad "", none⟩,
      ⟨(some 10), .call k_internal_abi_NoEscape [(.t 9)], none⟩,
      ⟨(some 11), .bad "", none⟩,
      ⟨(some 12), .nilchk (.t 7), none⟩,
      ⟨(some 13), .fieldAddr 0 (.t 12), none⟩,
      ⟨none, .store 1 (.t 13) (.t 11), none⟩])
   (.seq (.ops [⟨(some 14), .mov (.t 0), none⟩,
       ⟨(some 15), .nilchk (.t 14), none⟩,
       ⟨(some 16), .fieldAddr 0 (.t 15), none⟩,
       ⟨(some 17), .load none (.t 16), none⟩,
       ⟨(some 18), .mov (.t 0), none⟩,
       ⟨(some 19), .bin .neq (.ref .p) (.t 17) (.t 18), none⟩])
    (.cond (.t 19)
     (.bad "")
     (.skip))))⟩
/-- (*strings.Builder).grow -/
def f_strings_Builder_grow : Fn := ⟨30, [],
  .seq (.dops 0 [] [(⟨(some 5), .mov (.t 0), none⟩, .L),
     (⟨(some 6), .nilchk (.t 5), none⟩, .L),
     (⟨(some 7), .fieldAddr 1 (.t 6), none⟩, .L),
     (⟨(some 8), .load none (.t 7), none⟩, .R [] []),
     (⟨(some 9), .cap (.t 8), none⟩, .L),
     (⟨(some 10), .bin .mul .no (.c (.int .i64 2)) (.t 9), none⟩, .L),
     (⟨(some 11), .mov (.t 1), none⟩, .L),
     (⟨(some 12), .bin .add .no (.t 10) (.t 11), none⟩, .L),
     (⟨(some 13), .call k_internal_bytealg_MakeNoZero [(.t 12)], none⟩, .B []),
     (⟨(some 14), .mov (.t 0), none⟩, .L),
     (⟨(some 15), .nilchk (.t 14), none⟩, .L),
     (⟨(some 16), .fieldAddr 1 (.t 15), none⟩, .L),
     (⟨(some 17), .load none (.t 16), none⟩, .R [] [(1, [])]),
     (⟨(some 18), .len false (.t 17), none⟩, .L),
     (⟨(some 19), .slcS 1 (.t 13) none (some (.t 18)) none, none⟩, .L),
     (⟨(some 4), .mov (.t 19), none⟩, .L)])
  (.seq (.ops [⟨(some 20), .mov (.t 4), none⟩,
     ⟨(some 21), .mov (.t 0), none⟩,
     ⟨(some 22), .nilchk (.t 21), none⟩,
     ⟨(some 23), .fieldAddr 1 (.t 22), none⟩,
     ⟨(some 24), .load none (.t 23), none⟩,
     ⟨(some 25), .copy 1 (.t 20) (.t 24), none⟩])
  (.ops [⟨(some 26), .mov (.t 0), none⟩,
    ⟨(some 27), .mov (.t 4), none⟩,
    ⟨(some 28), .nilchk (.t 26), none⟩,
    ⟨(some 29), .fieldAddr 1 (.t 28), none⟩,
    ⟨none, .store 1 (.t 29) (.t 27), none⟩]))⟩
/-- purser/tx.scripts$1 -/
def f_tx_scripts_1 : Fn := ⟨33, [],
  .seq (.seq (.ops [⟨(some 7), .fieldAddr 1 (.t 1), none⟩,
      ⟨(some 8), .load none (.t 7), none⟩,
      ⟨(some 9), .len false (.t 8), none⟩,
      ⟨(some 10), .mov (.c (.int .i64 0)), none⟩])
   (.block 0 (.loop (.seq (.ops [⟨(some 11), .bin .lss .no (.t 10) (.t 9), none⟩])
     (.seq (.cond (.t 11)
       (.skip)
       (.exit 0))
     (.seq (.block 1 (.seq (.ops [⟨(some 12), .idxAddrS 35 (.t 8) (.t 10), none⟩,
          ⟨(some 13), .load (some 35) (.t 12), none⟩,
          ⟨(some 4), .alloc [(.int .u8 0), (.int .u8 0), (.int .u8 0), (.int .u8 0), (.int .u8 0), (.int .u8 0), (.int .u8 0), (.int .u8 0), (.int .u8 0), (.int .u8 0), (.int .u8 0), (.int .u8 0), (.int .u8 0), (.int .u8 0), (.int .u8 0), (.int .u8 0), (.int .u8 0), (.int .u8 0), (.int .u8 0), (.int .u8 0), (.int .u8 0), (.int .u8 0), (.int .u8 0), (.int .u8 0), (.int .u8 0), (.int .u8 0), (.int .u8 0), (.int .u8 0), (.int .u8 0), (.int .u8 0), (.int .u8 0), (.int .u8 0), (.int .u32 0), (.slice none 0 (some 0) 0), (.int .u32 0)], none⟩,
          ⟨none, .store 35 (.t 4) (.t 13), none⟩])
       (.seq (.ops [⟨(some 14), .mov (.t 0), none⟩,
          ⟨(some 15), .fieldAddr 33 (.t 4), none⟩,
          ⟨(some 16), .load none (.t 15), none⟩,
          ⟨(some 17), .callv (.t 14) [(.t 16)], none⟩,
          ⟨(some 18), .un .not (.t 17), none⟩])
       (.cond (.t 18)
        (.ret)
        (.skip)))))
     (.ops [⟨(some 19), .bin .add .no (.t 10) (.c (.int .i64 1)), none⟩,
       ⟨(some 10), .mov (.t 19), none⟩])))))))
  (.seq (.ops [⟨(some 20), .fieldAddr 2 (.t 1), none⟩,
     ⟨(some 21), .load none (.t 20), none⟩,
     ⟨(some 22), .len false (.t 21), none⟩,
     ⟨(some 23), .mov (.c (.int .i64 0)), none⟩])
  (.block 2 (.loop (.seq (.ops [⟨(some 24), .bin .lss .no (.t 23) (.t 22), none⟩])
    (.seq (.cond (.t 24)
      (.skip)
      (.exit 2))
    (.seq (.block 3 (.seq (.ops [⟨(some 25), .idxAddrS 2 (.t 21) (.t 23), none⟩,
         ⟨(some 26), .load (some 2) (.t 25), none⟩,
         ⟨(some 6), .alloc [(.int .i64 0), (.slice none 0 (some 0) 0)], none⟩,
         ⟨none, .store 2 (.t 6) (.t 26), none⟩])
      (.seq (.ops [⟨(some 27), .mov (.t 0), none⟩,
         ⟨(some 28), .fieldAddr 1 (.t 6), none⟩,
         ⟨(some 29), .load none (.t 28), none⟩,
         ⟨(some 30), .callv (.t 27) [(.t 29)], none⟩,
         ⟨(some 31), .un .not (.t 30), none⟩])
      (.cond (.t 31)
       (.ret)
       (.skip)))))
    (.ops [⟨(some 32), .bin .add .no (.t 23) (.c (.int .i64 1)), none⟩,
      ⟨(some 23), .mov (.t 32), none⟩])))))))⟩
/-- purser/octet.highFirst -/
def f_octet_highFirst : Fn := ⟨6, [.tmp 4],
  .seq (.ops [⟨(some 2), .box (.t 0), none⟩,
     ⟨(some 3), .box (.t 1), none⟩,
     ⟨(some 4), .mov (.c .nilFn), none⟩])
  (.seq (.ops [⟨(some 5), .mkfn k_octet_highFirst_1 [] [(.t 3), (.t 2)], none⟩,
     ⟨(some 4), .mov (.t 5), none⟩])
  (.ret))⟩
-- no text: internal/abi.NoEscape
-- no text: internal/bytealg.MakeNoZero
/-- purser/octet.highFirst$1 -/
def f_octet_highFirst_1 : Fn := ⟨20, [],
  .seq (.ops [⟨(some 5), .load none (.t 1), none⟩,
     ⟨(some 6), .bin .sub .no (.t 5) (.c (.int .i64 1)), none⟩,
     ⟨(some 4), .mov (.t 6), none⟩])
  (.block 0 (.loop (.seq (.seq (.ops [⟨(some 7), .mov (.t 4), none⟩,
        ⟨(some 8), .bin .geq .no (.t 7) (.c (.int .i64 0)), none⟩])
     (.cond (.t 8)
      (.skip)
      (.exit 0)))
    (.seq (.block 1 (.seq (.ops [⟨(some 11), .mov (.t 0), none⟩,
         ⟨(some 12), .mov (.t 4), none⟩,
         ⟨(some 13), .load none (.t 2), none⟩,
         ⟨(some 14), .mov (.t 4), none⟩,
         ⟨(some 15), .bin .mul .no (.c (.int .i64 8)) (.t 14), none⟩,
         ⟨(some 16), .bin .shr .no (.t 13) (.t 15), none⟩,
         ⟨(some 17), .conv .u8 (.t 16), none⟩,
         ⟨(some 18), .callv (.t 11) [(.t 12), (.t 17)], none⟩,
         ⟨(some 19), .un .not (.t 18), none⟩])
      (.cond (.t 19)
       (.ret)
       (.skip))))
    (.ops [⟨(some 9), .mov (.t 4), none⟩,
      ⟨(some 10), .bin .sub .no (.t 9) (.c (.int .i64 1)), none⟩,
      ⟨(some 4), .mov (.t 10), none⟩])))))⟩


def lp_purserref06_Compare : C := (.seq (.seq (.ops [⟨(some 6), .mov (.t 5), none⟩,
         ⟨(some 7), .bin .lss .no (.t 6) (.c (.int .i64 32)), none⟩])
      (.cond (.t 7)
       (.skip)
       (.exit 0)))
     (.seq (.block 1 (.seq (.seq (.dops 0 [] [(⟨(some 10), .mov (.t 5), none⟩, .L),
           (⟨(some 11), .fieldAddr 0 (.t 2), none⟩, .L),
           (⟨(some 12), .idxAddrA 32 1 (.t 11) (.t 10), none⟩, .L),
           (⟨(some 13), .load none (.t 12), none⟩, .R [] []),
           (⟨(some 14), .mov (.t 5), none⟩, .L),
           (⟨(some 15), .fieldAddr 0 (.t 3), none⟩, .L),
           (⟨(some 16), .idxAddrA 32 1 (.t 15) (.t 14), none⟩, .L),
           (⟨(some 17), .load none (.t 16), none⟩, .R [] []),
           (⟨(some 18), .bin .lss .no (.t 13) (.t 17), none⟩, .L)])
        (.cond (.t 18)
         (.seq (.ops [⟨(some 4), .mov (.c (.int .i64 (-1))), none⟩])
          (.ret))
         (.skip)))
       (.seq (.dops 0 [] [(⟨(some 19), .mov (.t 5), none⟩, .L),
          (⟨(some 20), .fieldAddr 0 (.t 2), none⟩, .L),
          (⟨(some 21), .idxAddrA 32 1 (.t 20) (.t 19), none⟩, .L),
          (⟨(some 22), .load none (.t 21), none⟩, .R [] []),
          (⟨(some 23), .mov (.t 5), none⟩, .L),
          (⟨(some 24), .fieldAddr 0 (.t 3), none⟩, .L),
          (⟨(some 25), .idxAddrA 32 1 (.t 24) (.t 23), none⟩, .L),
          (⟨(some 26), .load none (.t 25), none⟩, .R [] []),
          (⟨(some 27), .bin .gtr .no (.t 22) (.t 26), none⟩, .L)])
       (.cond (.t 27)
        (.seq (.ops [⟨(some 4), .mov (.c (.int .i64 1)), none⟩])
         (.ret))
        (.skip)))))
     (.ops [⟨(some 8), .mov (.t 5), none⟩,
       ⟨(some 9), .bin .add .no (.t 8) (.c (.int .i64 1)), none⟩,
       ⟨(some 5), .mov (.t 9), none⟩])))
end Go.Eng
