/- Functions of the program, as the evaluator takes them: printed by program. -/
import Derived.Test.YtfopajklnakmpaaEngI
namespace Go.Eng
open Go
/-- (*purser/octet.Pen).All -/
abbrev k_octet_Pen_All : Nat := 17
/-- purser/octet.Compact -/
abbrev k_octet_Compact : Nat := 18
/-- purser/purserref01.Size -/
abbrev k_purserref01_Size : Nat := 19
/-- purser/octet.Look -/
abbrev k_octet_Look : Nat := 22
/-- (*purser/octet.Eye).End -/
abbrev k_octet_Eye_End : Nat := 24
/-- purser/purserref06.Great -/
abbrev k_purserref06_Great : Nat := 25
/-- purser/tx.Encode -/
abbrev k_tx_Encode : Nat := 27
/-- purser/tx.Same -/
abbrev k_tx_Same : Nat := 37
/-- purser/tx.First -/
abbrev k_tx_First : Nat := 38
/-- purser/tx.Decode -/
abbrev k_tx_Decode : Nat := 40
/-- purser/purserlaw06.alive -/
abbrev k_purserlaw06_alive : Nat := 42
/-- purser/purserlaw06.size -/
abbrev k_purserlaw06_size : Nat := 44
/-- purser/block.DecodeHeader -/
abbrev k_block_DecodeHeader : Nat := 46
/-- purser/block.Read -/
abbrev k_block_Read : Nat := 48
/-- purser/block.EncodeHeader -/
abbrev k_block_EncodeHeader : Nat := 50
/-- purser/block.Show -/
abbrev k_block_Show : Nat := 54
/-- purser/purserlaw07.alive -/
abbrev k_purserlaw07_alive : Nat := 56
/-- purser/purserref07.Great -/
abbrev k_purserref07_Great : Nat := 57
/-- purser/block.Encode -/
abbrev k_block_Encode : Nat := 58
/-- purser/block.Decode -/
abbrev k_block_Decode : Nat := 59
/-- purser/purserref07.Same -/
abbrev k_purserref07_Same : Nat := 60
/-- purser/purserref01.Twin -/
abbrev k_purserref01_Twin : Nat := 45
/-- (*purser/octet.Pen).Fixed -/
abbrev k_octet_Pen_Fixed : Nat := 61
/-- purser/purserref01.Fixed -/
abbrev k_purserref01_Fixed : Nat := 62
/-- (*purser/octet.Pen).Size -/
abbrev k_octet_Pen_Size : Nat := 63
/-- (*purser/octet.Pen).Bytes -/
abbrev k_octet_Pen_Bytes : Nat := 64
/-- purser/purserref01.Bytes -/
abbrev k_purserref01_Bytes : Nat := 65
/-- (*purser/octet.Pen).Raw -/
abbrev k_octet_Pen_Raw : Nat := 66
/-- purser/octet.width -/
abbrev k_octet_width : Nat := 67
/-- (*purser/octet.Eye).Fixed -/
abbrev k_octet_Eye_Fixed : Nat := 68
/-- (*purser/octet.Eye).Size -/
abbrev k_octet_Eye_Size : Nat := 69
/-- (*purser/octet.Eye).Bytes -/
abbrev k_octet_Eye_Bytes : Nat := 70
/-- (*purser/octet.Eye).Raw -/
abbrev k_octet_Eye_Raw : Nat := 71
/-- (*purser/octet.Eye).looks -/
abbrev k_octet_Eye_looks : Nat := 72
/-- (*purser/octet.Eye).Left -/
abbrev k_octet_Eye_Left : Nat := 73
/-- purser/tx.Check -/
abbrev k_tx_Check : Nat := 31
/-- slices.EqualFunc[[]purser/api.In,[]purser/api.In,purser/api.In,purser/api.In] -/
abbrev k_slices_EqualFunc_api_In_api_In_api_In_api_In : Nat := 81
/-- purser/tx.sameIn -/
abbrev k_tx_sameIn : Nat := 82
/-- slices.EqualFunc[[]purser/api.Out,[]purser/api.Out,purser/api.Out,purser/api.Out] -/
abbrev k_slices_EqualFunc_api_Out_api_Out_api_Out_api_Out : Nat := 83
/-- purser/tx.sameOut -/
abbrev k_tx_sameOut : Nat := 84
/-- purser/tx.read -/
abbrev k_tx_read : Nat := 85
/-- purser/block.word -/
abbrev k_block_word : Nat := 93
/-- purser/block.hash -/
abbrev k_block_hash : Nat := 94
/-- purser/block.valueOf -/
abbrev k_block_valueOf : Nat := 96
/-- purser/block.reversed -/
abbrev k_block_reversed : Nat := 97
/-- purser/block.size -/
abbrev k_block_size : Nat := 101
/-- purser/block.txs -/
abbrev k_block_txs : Nat := 102
/-- purser/purserref06.Same -/
abbrev k_purserref06_Same : Nat := 34
/-- purser/octet.sized -/
abbrev k_octet_sized : Nat := 103
/-- (*purser/octet.Pen).put -/
abbrev k_octet_Pen_put : Nat := 104
/-- purser/purserref01.power -/
abbrev k_purserref01_power : Nat := 105
/-- purser/octet.mark -/
abbrev k_octet_mark : Nat := 106
/-- purser/octet.highFirst -/
abbrev k_octet_highFirst : Nat := 107
/-- purser/octet.number -/
abbrev k_octet_number : Nat := 108
/-- purser/octet.compact -/
abbrev k_octet_compact : Nat := 109
/-- (*purser/octet.Eye).take -/
abbrev k_octet_Eye_take : Nat := 110
/-- purser/tx.counted -/
abbrev k_tx_counted : Nat := 76
/-- purser/tx.scripts -/
abbrev k_tx_scripts : Nat := 77
/-- bytes.Equal -/
abbrev k_bytes_Equal : Nat := 114
/-- (*purser/tx.reader).word -/
abbrev k_tx_reader_word : Nat := 115
/-- purser/tx.list[purser/api.In] -/
abbrev k_tx_list_api_In : Nat := 116
/-- (*purser/tx.reader).in -/
abbrev k_tx_reader_in : Nat := 117
/-- purser/tx.list[purser/api.Out] -/
abbrev k_tx_list_api_Out : Nat := 118
/-- (*purser/tx.reader).out -/
abbrev k_tx_reader_out : Nat := 119
/-- slices.Reverse[[]byte,byte] -/
abbrev k_slices_Reverse_byte_byte : Nat := 131
/-- purser/sha.Twice -/
abbrev k_sha_Twice : Nat := 43
/-- purser/block.txs$1 -/
abbrev k_block_txs_1 : Nat := 132
/-- purser/purserref06.Bytes -/
abbrev k_purserref06_Bytes : Nat := 74
/-- purser/octet.highFirst$1 -/
abbrev k_octet_highFirst_1 : Nat := 133
/-- purser/octet.following -/
abbrev k_octet_following : Nat := 134
/-- purser/tx.scripts$1 -/
abbrev k_tx_scripts_1 : Nat := 113
/-- (*purser/tx.reader).note -/
abbrev k_tx_reader_note : Nat := 139
/-- (*purser/tx.reader).hash -/
abbrev k_tx_reader_hash : Nat := 140
/-- (*purser/tx.reader).script -/
abbrev k_tx_reader_script : Nat := 141
/-- purser/sha.Of -/
abbrev k_sha_Of : Nat := 92
/-- purser/purserref06.num -/
abbrev k_purserref06_num : Nat := 111
/-- purser/sha.New -/
abbrev k_sha_New : Nat := 128
/-- (*purser/sha.Sum).Write -/
abbrev k_sha_Sum_Write : Nat := 129
/-- (*purser/sha.Sum).End -/
abbrev k_sha_Sum_End : Nat := 130
/-- purser/sha.squareTable -/
abbrev k_sha_squareTable : Nat := 147
/-- (*purser/sha.Sum).sums -/
abbrev k_sha_Sum_sums : Nat := 148
/-- (*purser/sha.Sum).fill -/
abbrev k_sha_Sum_fill : Nat := 149
/-- (*purser/sha.Sum).mix -/
abbrev k_sha_Sum_mix : Nat := 150
/-- purser/sha.padding -/
abbrev k_sha_padding : Nat := 151
/-- (*purser/sha.Sum).fill$1 -/
abbrev k_sha_Sum_fill_1 : Nat := 154
/-- purser/sha.cubeTable -/
abbrev k_sha_cubeTable : Nat := 155
/-- (*purser/sha.Sum).schedule -/
abbrev k_sha_Sum_schedule : Nat := 156
/-- purser/sha.turned -/
abbrev k_sha_turned : Nat := 157
/-- math/bits.RotateLeft32 -/
abbrev k_math_bits_RotateLeft32 : Nat := 158
/-- (*purser/octet.Pen).All -/
def f_octet_Pen_All : Fn := ⟨10, [.tmp 2],
  .seq (.ops [⟨(some 2), .mov (.c (.slice none 0 (some 0) 0)), none⟩])
  (.seq (.seq (.ops [⟨(some 3), .mov (.t 0), none⟩,
      ⟨(some 4), .bin .eql (.ref .p) (.t 3) (.c (.ptr none)), none⟩])
   (.cond (.t 4)
    (.seq (.ops [⟨(some 2), .mov (.c (.slice none 0 (some 0) 0)), none⟩])
     (.ret))
    (.skip)))
  (.seq (.ops [⟨(some 5), .mov (.t 0), none⟩,
     ⟨(some 6), .nilchk (.t 5), none⟩,
     ⟨(some 7), .fieldAddr 0 (.t 6), none⟩,
     ⟨(some 8), .load none (.t 7), none⟩,
     ⟨(some 9), .append 1 1 (.c (.slice none 0 (some 0) 0)) (.t 8), none⟩,
     ⟨(some 2), .mov (.t 9), none⟩])
  (.ret)))⟩
/-- purser/octet.Compact -/
def f_octet_Compact : Fn := ⟨14, [.tmp 2],
  .seq (.ops [⟨(some 2), .mov (.c (.int .i64 0)), none⟩])
  (.seq (.seq (.ops [⟨(some 4), .mov (.t 0), none⟩,
      ⟨(some 5), .bin .lss .no (.t 4) (.c (.int .u64 253)), none⟩])
   (.cond (.t 5)
    (.seq (.ops [⟨(some 2), .mov (.c (.int .i64 1)), none⟩])
     (.ret))
    (.skip)))
  (.seq (.seq (.ops [⟨(some 6), .mov (.t 0), none⟩,
      ⟨(some 7), .call k_octet_width [(.t 6)], none⟩,
      ⟨(some 3), .mov (.t 7), none⟩])
   (.block 0 (.seq (.ops [⟨(some 9), .mov (.t 3), none⟩,
       ⟨(some 10), .bin .leq .no (.t 9) (.c (.int .i64 2)), none⟩,
       ⟨(some 8), .mov (.t 10), none⟩])
    (.cond (.t 8)
     (.seq (.ops [⟨(some 2), .mov (.c (.int .i64 3)), none⟩])
      (.ret))
     (.seq (.ops [⟨(some 12), .mov (.t 3), none⟩,
         ⟨(some 13), .bin .leq .no (.t 12) (.c (.int .i64 4)), none⟩,
         ⟨(some 11), .mov (.t 13), none⟩])
      (.cond (.t 11)
       (.seq (.ops [⟨(some 2), .mov (.c (.int .i64 5)), none⟩])
        (.ret))
       (.skip)))))))
  (.seq (.ops [⟨(some 2), .mov (.c (.int .i64 9)), none⟩])
  (.ret))))⟩
/-- purser/purserref01.Size -/
def f_purserref01_Size : Fn := ⟨26, [.tmp 2],
  .seq (.ops [⟨(some 2), .mov (.c (.slice none 0 (some 0) 0)), none⟩])
  (.seq (.seq (.ops [⟨(some 7), .mov (.t 0), none⟩,
      ⟨(some 8), .bin .lss .no (.t 7) (.c (.int .u64 253)), none⟩])
   (.cond (.t 8)
    (.seq (.ops [⟨(some 9), .mov (.t 0), none⟩,
        ⟨(some 10), .conv .u8 (.t 9), none⟩,
        ⟨(some 11), .buildS [(.int .u8 0)] 1 1 [(0, 1, (.t 10))], none⟩,
        ⟨(some 2), .mov (.t 11), none⟩])
     (.ret))
    (.skip)))
  (.seq (.ops [⟨(some 3), .mov (.c (.int .u8 253)), none⟩])
  (.seq (.ops [⟨(some 4), .mov (.c (.int .i64 2)), none⟩])
  (.seq (.seq (.ops [⟨(some 12), .mov (.t 0), none⟩,
      ⟨(some 13), .bin .gtr .no (.t 12) (.c (.int .u64 65535)), none⟩])
   (.cond (.t 13)
    (.seq (.ops [⟨(some 3), .mov (.c (.int .u8 254)), none⟩])
     (.ops [⟨(some 4), .mov (.c (.int .i64 4)), none⟩]))
    (.skip)))
  (.seq (.seq (.ops [⟨(some 14), .mov (.t 0), none⟩,
      ⟨(some 15), .bin .gtr .no (.t 14) (.c (.int .u64 4294967295)), none⟩])
   (.cond (.t 15)
    (.seq (.ops [⟨(some 3), .mov (.c (.int .u8 255)), none⟩])
     (.ops [⟨(some 4), .mov (.c (.int .i64 8)), none⟩]))
    (.skip)))
  (.seq (.ops [⟨(some 17), .mov (.t 4), none⟩,
     ⟨(some 18), .mov (.t 0), none⟩,
     ⟨(some 19), .call k_purserref01_Fixed [(.t 17), (.t 18)], none⟩,
     ⟨(some 16), .mov (.t 19), none⟩,
     ⟨(some 20), .ext (.t 16) 0, none⟩,
     ⟨(some 21), .ext (.t 16) 1, none⟩,
     ⟨(some 5), .mov (.t 20), none⟩,
     ⟨(some 6), .mov (.t 21), none⟩])
  (.seq (.ops [⟨(some 22), .mov (.t 3), none⟩,
     ⟨(some 23), .buildS [(.int .u8 0)] 1 1 [(0, 1, (.t 22))], none⟩,
     ⟨(some 24), .mov (.t 5), none⟩,
     ⟨(some 25), .append 1 1 (.t 23) (.t 24), none⟩,
     ⟨(some 2), .mov (.t 25), none⟩])
  (.ret))))))))⟩
/-- purser/octet.Look -/
def f_octet_Look : Fn := ⟨7, [.tmp 2],
  .seq (.ops [⟨(some 2), .mov (.c (.ptr none)), none⟩])
  (.seq (.ops [⟨(some 3), .mov (.t 0), none⟩,
     ⟨(some 4), .append 1 1 (.c (.slice none 0 (some 0) 0)) (.t 3), none⟩,
     ⟨(some 5), .build [(.slice none 0 (some 0) 0), (.int .i64 0), (.bool false)] [(0, 1, (.t 4)), (2, 1, (.c (.bool true)))], none⟩,
     ⟨(some 6), .box (.t 5), none⟩,
     ⟨(some 2), .mov (.t 6), none⟩])
  (.ret))⟩
/-- (*purser/octet.Eye).End -/
def f_octet_Eye_End : Fn := ⟨9, [.tmp 2],
  .seq (.ops [⟨(some 2), .mov (.c (.int .i64 0)), none⟩])
  (.seq (.seq (.ops [⟨(some 3), .mov (.t 0), none⟩,
      ⟨(some 4), .call k_octet_Eye_looks [(.t 3)], none⟩,
      ⟨(some 5), .un .not (.t 4), none⟩])
   (.cond (.t 5)
    (.seq (.ops [⟨(some 2), .mov (.c (.int .i64 1)), none⟩])
     (.ret))
    (.skip)))
  (.seq (.seq (.ops [⟨(some 6), .mov (.t 0), none⟩,
      ⟨(some 7), .call k_octet_Eye_Left [(.t 6)], none⟩,
      ⟨(some 8), .bin .gtr .no (.t 7) (.c (.int .i64 0)), none⟩])
   (.cond (.t 8)
    (.seq (.ops [⟨(some 2), .mov (.c (.int .i64 10)), none⟩])
     (.ret))
    (.skip)))
  (.seq (.ops [⟨(some 2), .mov (.c (.int .i64 0)), none⟩])
  (.ret))))⟩
def L_tx_First_0 : C := .seq (.seq (.ops [⟨(some 6), .mov (.t 5), none⟩,
         ⟨(some 7), .mov (.t 0), none⟩,
         ⟨(some 8), .len false (.t 7), none⟩,
         ⟨(some 9), .bin .lss .no (.t 6) (.t 8), none⟩])
      (.cond (.t 9)
       (.skip)
       (.exit 0)))
     (.seq (.block 1 (.seq (.ops [⟨(some 13), .mov (.t 0), none⟩,
          ⟨(some 14), .mov (.t 5), none⟩,
          ⟨(some 15), .slcS 1 (.t 13) none (some (.t 14)) none, none⟩,
          ⟨(some 16), .call k_tx_read [(.t 15)], none⟩,
          ⟨(some 12), .mov (.t 16), none⟩,
          ⟨(some 17), .ext (.t 12) 0, none⟩,
          ⟨(some 18), .ext (.t 12) 1, none⟩,
          ⟨(some 19), .ext (.t 12) 2, none⟩,
          ⟨none, .store 4 (.t 2) (.t 17), none⟩,
          ⟨(some 3), .mov (.t 18), none⟩,
          ⟨(some 4), .mov (.t 19), none⟩])
       (.seq (.ops [⟨(some 20), .mov (.t 4), none⟩,
          ⟨(some 21), .bin .eql .no (.t 20) (.c (.int .i64 0)), none⟩])
       (.cond (.t 21)
        (.seq (.ops [⟨(some 22), .load (some 4) (.t 2), none⟩,
            ⟨(some 23), .mov (.t 3), none⟩,
            ⟨(some 24), .mov (.t 4), none⟩,
            ⟨none, .store 4 (.t 2) (.t 22), none⟩,
            ⟨(some 3), .mov (.t 23), none⟩,
            ⟨(some 4), .mov (.t 24), none⟩])
         (.ret))
        (.skip)))))
     (.ops [⟨(some 10), .mov (.t 5), none⟩,
       ⟨(some 11), .bin .mul .no (.t 10) (.c (.int .i64 2)), none⟩,
       ⟨(some 5), .mov (.t 11), none⟩]))
def R_tx_First_0 : C := .seq (.ops [⟨(some 25), .mov (.t 0), none⟩,
     ⟨(some 26), .call k_tx_read [(.t 25)], none⟩,
     ⟨(some 27), .ext (.t 26) 0, none⟩,
     ⟨(some 28), .ext (.t 26) 1, none⟩,
     ⟨(some 29), .ext (.t 26) 2, none⟩,
     ⟨none, .store 4 (.t 2) (.t 27), none⟩,
     ⟨(some 3), .mov (.t 28), none⟩,
     ⟨(some 4), .mov (.t 29), none⟩])
  (.ret)
/-- purser/tx.First -/
def f_tx_First : Fn := ⟨30, [.cell 2 (some 4), .tmp 3, .tmp 4],
  .seq (.ops [⟨(some 2), .alloc [(.int .u32 0), (.slice none 0 (some 0) 0), (.slice none 0 (some 0) 0), (.int .u32 0)], none⟩,
     ⟨(some 3), .mov (.c (.int .i64 0)), none⟩,
     ⟨(some 4), .mov (.c (.int .i64 0)), none⟩])
  (.seq (.seq (.ops [⟨(some 5), .mov (.c (.int .i64 512)), none⟩])
   (.block 0 (.loop (L_tx_First_0))))
  (R_tx_First_0))⟩
/-- purser/tx.Decode -/
def f_tx_Decode : Fn := ⟨23, [.cell 2 (some 4), .tmp 3],
  .seq (.ops [⟨(some 2), .alloc [(.int .u32 0), (.slice none 0 (some 0) 0), (.slice none 0 (some 0) 0), (.int .u32 0)], none⟩,
     ⟨(some 3), .mov (.c (.int .i64 0)), none⟩])
  (.seq (.ops [⟨(some 8), .mov (.t 0), none⟩,
     ⟨(some 9), .call k_tx_First [(.t 8)], none⟩,
     ⟨(some 7), .mov (.t 9), none⟩,
     ⟨(some 10), .ext (.t 7) 0, none⟩,
     ⟨(some 11), .ext (.t 7) 1, none⟩,
     ⟨(some 12), .ext (.t 7) 2, none⟩,
     ⟨(some 4), .alloc [(.int .u32 0), (.slice none 0 (some 0) 0), (.slice none 0 (some 0) 0), (.int .u32 0)], none⟩,
     ⟨none, .store 4 (.t 4) (.t 10), none⟩,
     ⟨(some 5), .mov (.t 11), none⟩,
     ⟨(some 6), .mov (.t 12), none⟩])
  (.seq (.seq (.ops [⟨(some 13), .mov (.t 6), none⟩,
      ⟨(some 14), .bin .neq .no (.t 13) (.c (.int .i64 0)), none⟩,
      ⟨(some 15), .mov (.t 14), none⟩,
      ⟨(some 16), .mov (.t 5), (some (15, false))⟩,
      ⟨(some 17), .mov (.t 0), (some (15, false))⟩,
      ⟨(some 18), .len false (.t 17), (some (15, false))⟩,
      ⟨(some 19), .bin .lss .no (.t 16) (.t 18), (some (15, false))⟩,
      ⟨(some 20), .pick (.t 15) (.c (.bool true)) (.t 19), none⟩])
   (.cond (.t 20)
    (.seq (.ops [⟨(some 21), .build [(.int .u32 0), (.slice none 0 (some 0) 0), (.slice none 0 (some 0) 0), (.int .u32 0)] [], none⟩,
        ⟨none, .store 4 (.t 2) (.t 21), none⟩,
        ⟨(some 3), .mov (.c (.int .i64 60)), none⟩])
     (.ret))
    (.skip)))
  (.seq (.ops [⟨(some 22), .load (some 4) (.t 4), none⟩,
     ⟨none, .store 4 (.t 2) (.t 22), none⟩,
     ⟨(some 3), .mov (.c (.int .i64 0)), none⟩])
  (.ret))))⟩
/-- purser/purserref01.Twin -/
def f_purserref01_Twin : Fn := ⟨7, [.tmp 2],
  .seq (.ops [⟨(some 2), .mov (.c (.slice none 0 (some 0) 0)), none⟩])
  (.seq (.ops [⟨(some 3), .mov (.c (.slice none 0 (some 0) 0)), none⟩])
  (.seq (.ops [⟨(some 4), .mov (.t 3), none⟩,
     ⟨(some 5), .mov (.t 0), none⟩,
     ⟨(some 6), .append 1 1 (.t 4) (.t 5), none⟩,
     ⟨(some 2), .mov (.t 6), none⟩])
  (.ret)))⟩
/-- (*purser/octet.Pen).Fixed -/
def f_octet_Pen_Fixed : Fn := ⟨20, [.tmp 6],
  .seq (.ops [⟨(some 6), .mov (.c (.int .i64 0)), none⟩])
  (.seq (.seq (.ops [⟨(some 7), .mov (.t 0), none⟩,
      ⟨(some 8), .bin .eql (.ref .p) (.t 7) (.c (.ptr none)), none⟩])
   (.cond (.t 8)
    (.seq (.ops [⟨(some 6), .mov (.c (.int .i64 1)), none⟩])
     (.ret))
    (.skip)))
  (.seq (.seq (.ops [⟨(some 9), .mov (.t 1), none⟩,
      ⟨(some 10), .call k_octet_sized [(.t 9)], none⟩,
      ⟨(some 11), .un .not (.t 10), none⟩])
   (.cond (.t 11)
    (.seq (.ops [⟨(some 6), .mov (.c (.int .i64 2)), none⟩])
     (.ret))
    (.skip)))
  (.seq (.seq (.ops [⟨(some 12), .mov (.t 2), none⟩,
      ⟨(some 13), .call k_octet_width [(.t 12)], none⟩,
      ⟨(some 14), .mov (.t 1), none⟩,
      ⟨(some 15), .bin .gtr .no (.t 13) (.t 14), none⟩])
   (.cond (.t 15)
    (.seq (.ops [⟨(some 6), .mov (.c (.int .i64 10)), none⟩])
     (.ret))
    (.skip)))
  (.seq (.ops [⟨(some 16), .mov (.t 0), none⟩,
     ⟨(some 17), .mov (.t 1), none⟩,
     ⟨(some 18), .mov (.t 2), none⟩,
     ⟨(some 19), .call k_octet_Pen_put [(.t 16), (.t 17), (.t 18)], none⟩])
  (.seq (.ops [⟨(some 6), .mov (.c (.int .i64 0)), none⟩])
  (.ret))))))⟩
def L_purserref01_Fixed_0 : C := .seq (.seq (.ops [⟨(some 30), .mov (.t 7), none⟩,
         ⟨(some 31), .mov (.t 0), none⟩,
         ⟨(some 32), .bin .lss .no (.t 30) (.t 31), none⟩])
      (.cond (.t 32)
       (.skip)
       (.exit 0)))
     (.seq (.block 1 (.ops [⟨(some 35), .mov (.t 6), none⟩,
         ⟨(some 36), .mov (.t 1), none⟩,
         ⟨(some 37), .mov (.t 7), none⟩,
         ⟨(some 38), .call k_purserref01_power [(.t 37)], none⟩,
         ⟨(some 39), .bin .quo .no (.t 36) (.t 38), none⟩,
         ⟨(some 40), .bin .rem .no (.t 39) (.c (.int .u64 256)), none⟩,
         ⟨(some 41), .conv .u8 (.t 40), none⟩,
         ⟨(some 42), .buildS [(.int .u8 0)] 1 1 [(0, 1, (.t 41))], none⟩,
         ⟨(some 43), .append 1 1 (.t 35) (.t 42), none⟩,
         ⟨(some 6), .mov (.t 43), none⟩]))
     (.ops [⟨(some 33), .mov (.t 7), none⟩,
       ⟨(some 34), .bin .add .no (.t 33) (.c (.int .i64 1)), none⟩,
       ⟨(some 7), .mov (.t 34), none⟩]))
def R_purserref01_Fixed_0 : C := .seq (.ops [⟨(some 44), .mov (.t 6), none⟩,
     ⟨(some 4), .mov (.t 44), none⟩,
     ⟨(some 5), .mov (.c (.int .i64 0)), none⟩])
  (.ret)
/-- purser/purserref01.Fixed -/
def f_purserref01_Fixed : Fn := ⟨45, [.tmp 4, .tmp 5],
  .seq (.ops [⟨(some 4), .mov (.c (.slice none 0 (some 0) 0)), none⟩,
     ⟨(some 5), .mov (.c (.int .i64 0)), none⟩])
  (.seq (.seq (.ops [⟨(some 8), .mov (.t 0), none⟩,
      ⟨(some 9), .bin .neq .no (.t 8) (.c (.int .i64 1)), none⟩,
      ⟨(some 10), .mov (.t 9), none⟩,
      ⟨(some 11), .mov (.t 0), (some (10, true))⟩,
      ⟨(some 12), .bin .neq .no (.t 11) (.c (.int .i64 2)), (some (10, true))⟩,
      ⟨(some 13), .pick (.t 10) (.t 12) (.c (.bool false)), none⟩,
      ⟨(some 14), .mov (.t 13), none⟩,
      ⟨(some 15), .mov (.t 0), (some (14, true))⟩,
      ⟨(some 16), .bin .neq .no (.t 15) (.c (.int .i64 4)), (some (14, true))⟩,
      ⟨(some 17), .pick (.t 14) (.t 16) (.c (.bool false)), none⟩,
      ⟨(some 18), .mov (.t 17), none⟩,
      ⟨(some 19), .mov (.t 0), (some (18, true))⟩,
      ⟨(some 20), .bin .neq .no (.t 19) (.c (.int .i64 8)), (some (18, true))⟩,
      ⟨(some 21), .pick (.t 18) (.t 20) (.c (.bool false)), none⟩])
   (.cond (.t 21)
    (.seq (.ops [⟨(some 4), .mov (.c (.slice none 0 (some 0) 0)), none⟩,
        ⟨(some 5), .mov (.c (.int .i64 2)), none⟩])
     (.ret))
    (.skip)))
  (.seq (.seq (.ops [⟨(some 22), .mov (.t 0), none⟩,
      ⟨(some 23), .bin .lss .no (.t 22) (.c (.int .i64 8)), none⟩,
      ⟨(some 24), .mov (.t 23), none⟩,
      ⟨(some 25), .mov (.t 1), (some (24, true))⟩,
      ⟨(some 26), .mov (.t 0), (some (24, true))⟩,
      ⟨(some 27), .call k_purserref01_power [(.t 26)], (some (24, true))⟩,
      ⟨(some 28), .bin .geq .no (.t 25) (.t 27), (some (24, true))⟩,
      ⟨(some 29), .pick (.t 24) (.t 28) (.c (.bool false)), none⟩])
   (.cond (.t 29)
    (.seq (.ops [⟨(some 4), .mov (.c (.slice none 0 (some 0) 0)), none⟩,
        ⟨(some 5), .mov (.c (.int .i64 10)), none⟩])
     (.ret))
    (.skip)))
  (.seq (.ops [⟨(some 6), .mov (.c (.slice none 0 (some 0) 0)), none⟩])
  (.seq (.seq (.ops [⟨(some 7), .mov (.c (.int .i64 0)), none⟩])
   (.block 0 (.loop (L_purserref01_Fixed_0))))
  (R_purserref01_Fixed_0)))))⟩
/-- (*purser/octet.Pen).Size -/
def f_octet_Pen_Size : Fn := ⟨25, [.tmp 4],
  .seq (.ops [⟨(some 4), .mov (.c (.int .i64 0)), none⟩])
  (.seq (.seq (.ops [⟨(some 6), .mov (.t 0), none⟩,
      ⟨(some 7), .bin .eql (.ref .p) (.t 6) (.c (.ptr none)), none⟩])
   (.cond (.t 7)
    (.seq (.ops [⟨(some 4), .mov (.c (.int .i64 1)), none⟩])
     (.ret))
    (.skip)))
  (.seq (.ops [⟨(some 8), .mov (.t 1), none⟩,
     ⟨(some 9), .call k_octet_Compact [(.t 8)], none⟩,
     ⟨(some 10), .bin .sub .no (.t 9) (.c (.int .i64 1)), none⟩,
     ⟨(some 5), .mov (.t 10), none⟩])
  (.seq (.seq (.ops [⟨(some 11), .mov (.t 5), none⟩,
      ⟨(some 12), .bin .eql .no (.t 11) (.c (.int .i64 0)), none⟩])
   (.cond (.t 12)
    (.seq (.ops [⟨(some 13), .mov (.t 0), none⟩,
        ⟨(some 14), .mov (.t 1), none⟩,
        ⟨(some 15), .call k_octet_Pen_put [(.t 13), (.c (.int .i64 1)), (.t 14)], none⟩])
     (.seq (.ops [⟨(some 4), .mov (.c (.int .i64 0)), none⟩])
     (.ret)))
    (.skip)))
  (.seq (.ops [⟨(some 16), .mov (.t 0), none⟩,
     ⟨(some 17), .mov (.t 5), none⟩,
     ⟨(some 18), .call k_octet_mark [(.t 17)], none⟩,
     ⟨(some 19), .conv .u64 (.t 18), none⟩,
     ⟨(some 20), .call k_octet_Pen_put [(.t 16), (.c (.int .i64 1)), (.t 19)], none⟩])
  (.seq (.ops [⟨(some 21), .mov (.t 0), none⟩,
     ⟨(some 22), .mov (.t 5), none⟩,
     ⟨(some 23), .mov (.t 1), none⟩,
     ⟨(some 24), .call k_octet_Pen_put [(.t 21), (.t 22), (.t 23)], none⟩])
  (.seq (.ops [⟨(some 4), .mov (.c (.int .i64 0)), none⟩])
  (.ret)))))))⟩
/-- (*purser/octet.Pen).Bytes -/
def f_octet_Pen_Bytes : Fn := ⟨18, [.tmp 4],
  .seq (.ops [⟨(some 4), .mov (.c (.int .i64 0)), none⟩])
  (.seq (.seq (.ops [⟨(some 6), .mov (.t 0), none⟩,
      ⟨(some 7), .mov (.t 1), none⟩,
      ⟨(some 8), .len false (.t 7), none⟩,
      ⟨(some 9), .conv .u64 (.t 8), none⟩,
      ⟨(some 10), .call k_octet_Pen_Size [(.t 6), (.t 9)], none⟩,
      ⟨(some 5), .mov (.t 10), none⟩])
   (.seq (.ops [⟨(some 11), .mov (.t 5), none⟩,
      ⟨(some 12), .bin .neq .no (.t 11) (.c (.int .i64 0)), none⟩])
   (.cond (.t 12)
    (.seq (.ops [⟨(some 13), .mov (.t 5), none⟩,
        ⟨(some 4), .mov (.t 13), none⟩])
     (.ret))
    (.skip))))
  (.seq (.ops [⟨(some 14), .mov (.t 0), none⟩,
     ⟨(some 15), .mov (.t 1), none⟩,
     ⟨(some 16), .buildS [(.slice none 0 (some 0) 0)] 1 1 [(0, 1, (.t 15))], none⟩,
     ⟨(some 17), .call k_octet_Pen_Raw [(.t 14), (.t 16)], none⟩,
     ⟨(some 4), .mov (.t 17), none⟩])
  (.ret)))⟩
/-- purser/purserref01.Bytes -/
def f_purserref01_Bytes : Fn := ⟨9, [.tmp 2],
  .seq (.ops [⟨(some 2), .mov (.c (.slice none 0 (some 0) 0)), none⟩])
  (.seq (.ops [⟨(some 3), .mov (.t 0), none⟩,
     ⟨(some 4), .len false (.t 3), none⟩,
     ⟨(some 5), .conv .u64 (.t 4), none⟩,
     ⟨(some 6), .call k_purserref01_Size [(.t 5)], none⟩,
     ⟨(some 7), .mov (.t 0), none⟩,
     ⟨(some 8), .append 1 1 (.t 6) (.t 7), none⟩,
     ⟨(some 2), .mov (.t 8), none⟩])
  (.ret))⟩
def L_octet_Pen_Raw_0 : C := .seq (.ops [⟨(some 12), .bin .lss .no (.t 11) (.t 10), none⟩])
     (.seq (.cond (.t 12)
       (.skip)
       (.exit 0))
     (.seq (.block 1 (.seq (.ops [⟨(some 13), .idxAddrS 1 (.t 9) (.t 11), none⟩,
          ⟨(some 14), .load none (.t 13), none⟩,
          ⟨(some 6), .mov (.t 14), none⟩])
       (.ops [⟨(some 15), .mov (.t 0), none⟩,
         ⟨(some 16), .mov (.t 0), none⟩,
         ⟨(some 17), .nilchk (.t 16), none⟩,
         ⟨(some 18), .fieldAddr 0 (.t 17), none⟩,
         ⟨(some 19), .load none (.t 18), none⟩,
         ⟨(some 20), .mov (.t 6), none⟩,
         ⟨(some 21), .append 1 1 (.t 19) (.t 20), none⟩,
         ⟨(some 22), .nilchk (.t 15), none⟩,
         ⟨(some 23), .fieldAddr 0 (.t 22), none⟩,
         ⟨none, .store 1 (.t 23) (.t 21), none⟩])))
     (.ops [⟨(some 24), .bin .add .no (.t 11) (.c (.int .i64 1)), none⟩,
       ⟨(some 11), .mov (.t 24), none⟩])))
def R_octet_Pen_Raw_0 : C := .seq (.ops [⟨(some 4), .mov (.c (.int .i64 0)), none⟩])
  (.ret)
/-- (*purser/octet.Pen).Raw -/
def f_octet_Pen_Raw : Fn := ⟨25, [.tmp 4],
  .seq (.ops [⟨(some 4), .mov (.c (.int .i64 0)), none⟩])
  (.seq (.seq (.ops [⟨(some 7), .mov (.t 0), none⟩,
      ⟨(some 8), .bin .eql (.ref .p) (.t 7) (.c (.ptr none)), none⟩])
   (.cond (.t 8)
    (.seq (.ops [⟨(some 4), .mov (.c (.int .i64 1)), none⟩])
     (.ret))
    (.skip)))
  (.seq (.seq (.ops [⟨(some 9), .mov (.t 1), none⟩,
      ⟨(some 10), .len false (.t 9), none⟩,
      ⟨(some 11), .mov (.c (.int .i64 0)), none⟩])
   (.block 0 (.loop (L_octet_Pen_Raw_0))))
  (R_octet_Pen_Raw_0)))⟩
def A_octet_width_0 : C := .seq (.ops [⟨(some 4), .mov (.t 8), none⟩])
      (.ops [⟨(some 5), .mov (.t 9), none⟩])
theorem u_A_octet_width_0 (Q : Orc) (N n : Nat) (r : Option Nat) (st : St) : evC Q N n r A_octet_width_0 st = evC Q N n r (.seq (.ops [⟨(some 4), .mov (.t 8), none⟩])
      (.ops [⟨(some 5), .mov (.t 9), none⟩])) st := _root_.id rfl
def B_octet_width_0 : C := .block 1 (.seq (.ops [⟨(some 10), .mov (.t 5), none⟩,
          ⟨(some 11), .bin .neq .no (.t 10) (.c (.int .u8 0)), none⟩])
       (.cond (.t 11)
        (.seq (.ops [⟨(some 12), .mov (.t 4), none⟩,
            ⟨(some 13), .bin .add .no (.t 12) (.c (.int .i64 1)), none⟩,
            ⟨none, .store 1 (.t 3) (.t 13), none⟩])
         (.exit 0))
        (.skip)))
theorem u_B_octet_width_0 (Q : Orc) (N n : Nat) (r : Option Nat) (st : St) : evC Q N n r B_octet_width_0 st = evC Q N n r (.block 1 (.seq (.ops [⟨(some 10), .mov (.t 5), none⟩,
          ⟨(some 11), .bin .neq .no (.t 10) (.c (.int .u8 0)), none⟩])
       (.cond (.t 11)
        (.seq (.ops [⟨(some 12), .mov (.t 4), none⟩,
            ⟨(some 13), .bin .add .no (.t 12) (.c (.int .i64 1)), none⟩,
            ⟨none, .store 1 (.t 3) (.t 13), none⟩])
         (.exit 0))
        (.skip)))) st := _root_.id rfl
def R_octet_width_0 : C := .seq (.ops [⟨(some 14), .load none (.t 3), none⟩,
      ⟨(some 2), .mov (.t 14), none⟩])
   (.ret)
/-- purser/octet.width -/
def f_octet_width : Fn := ⟨15, [.tmp 2],
  .seq (.ops [⟨(some 2), .mov (.c (.int .i64 0)), none⟩])
  (.scope (.seq (.ops [⟨(some 3), .alloc [(.int .i64 0)], none⟩,
      ⟨none, .store 1 (.t 3) (.c (.int .i64 1)), none⟩])
   (.seq (.skip)
   (.seq (.seq (.ops [⟨(some 6), .mov (.t 0), none⟩,
       ⟨(some 7), .call k_octet_highFirst [(.t 6), (.c (.int .i64 8))], none⟩])
    (.block 0 (.rangeF (.t 7) [8, 9] (A_octet_width_0)
     (B_octet_width_0))))
   (R_octet_width_0)))))⟩
/-- (*purser/octet.Eye).Fixed -/
def f_octet_Eye_Fixed : Fn := ⟨42, [.tmp 4, .tmp 5],
  .seq (.ops [⟨(some 4), .mov (.c (.int .u64 0)), none⟩,
     ⟨(some 5), .mov (.c (.int .i64 0)), none⟩])
  (.seq (.seq (.ops [⟨(some 7), .mov (.t 0), none⟩,
      ⟨(some 8), .call k_octet_Eye_looks [(.t 7)], none⟩,
      ⟨(some 9), .un .not (.t 8), none⟩])
   (.cond (.t 9)
    (.seq (.ops [⟨(some 4), .mov (.c (.int .u64 0)), none⟩,
        ⟨(some 5), .mov (.c (.int .i64 1)), none⟩])
     (.ret))
    (.skip)))
  (.seq (.seq (.ops [⟨(some 10), .mov (.t 1), none⟩,
      ⟨(some 11), .call k_octet_sized [(.t 10)], none⟩,
      ⟨(some 12), .un .not (.t 11), none⟩])
   (.cond (.t 12)
    (.seq (.ops [⟨(some 4), .mov (.c (.int .u64 0)), none⟩,
        ⟨(some 5), .mov (.c (.int .i64 2)), none⟩])
     (.ret))
    (.skip)))
  (.seq (.seq (.ops [⟨(some 13), .mov (.t 1), none⟩,
      ⟨(some 14), .mov (.t 0), none⟩,
      ⟨(some 15), .call k_octet_Eye_Left [(.t 14)], none⟩,
      ⟨(some 16), .bin .gtr .no (.t 13) (.t 15), none⟩])
   (.cond (.t 16)
    (.seq (.ops [⟨(some 4), .mov (.c (.int .u64 0)), none⟩,
        ⟨(some 5), .mov (.c (.int .i64 10)), none⟩])
     (.ret))
    (.skip)))
  (.seq (.dops 0 [] [(⟨(some 17), .mov (.t 0), none⟩, .L),
     (⟨(some 18), .nilchk (.t 17), none⟩, .L),
     (⟨(some 19), .fieldAddr 0 (.t 18), none⟩, .L),
     (⟨(some 20), .load none (.t 19), none⟩, .R [] []),
     (⟨(some 21), .mov (.t 0), none⟩, .L),
     (⟨(some 22), .nilchk (.t 21), none⟩, .L),
     (⟨(some 23), .fieldAddr 1 (.t 22), none⟩, .L),
     (⟨(some 24), .load none (.t 23), none⟩, .R [] []),
     (⟨(some 25), .mov (.t 0), none⟩, .L),
     (⟨(some 26), .nilchk (.t 25), none⟩, .L),
     (⟨(some 27), .fieldAddr 1 (.t 26), none⟩, .L),
     (⟨(some 28), .load none (.t 27), none⟩, .R [] []),
     (⟨(some 29), .mov (.t 1), none⟩, .L),
     (⟨(some 30), .bin .add .no (.t 28) (.t 29), none⟩, .L),
     (⟨(some 31), .slcS 1 (.t 20) (some (.t 24)) (some (.t 30)) none, none⟩, .L),
     (⟨(some 32), .call k_octet_number [(.t 31)], none⟩, .B []),
     (⟨(some 6), .mov (.t 32), none⟩, .L)])
  (.seq (.ops [⟨(some 33), .mov (.t 0), none⟩,
     ⟨(some 34), .nilchk (.t 33), none⟩,
     ⟨(some 35), .fieldAddr 1 (.t 34), none⟩,
     ⟨(some 36), .load none (.t 35), none⟩,
     ⟨(some 37), .mov (.t 1), none⟩,
     ⟨(some 38), .bin .add .no (.t 36) (.t 37), none⟩,
     ⟨(some 39), .nilchk (.t 33), none⟩,
     ⟨(some 40), .fieldAddr 1 (.t 39), none⟩,
     ⟨none, .store 1 (.t 40) (.t 38), none⟩])
  (.seq (.ops [⟨(some 41), .mov (.t 6), none⟩,
     ⟨(some 4), .mov (.t 41), none⟩,
     ⟨(some 5), .mov (.c (.int .i64 0)), none⟩])
  (.ret)))))))⟩
/-- (*purser/octet.Eye).Size -/
def f_octet_Eye_Size : Fn := ⟨35, [.tmp 2, .tmp 3],
  .seq (.ops [⟨(some 2), .mov (.c (.int .u64 0)), none⟩,
     ⟨(some 3), .mov (.c (.int .i64 0)), none⟩])
  (.seq (.seq (.ops [⟨(some 7), .mov (.t 0), none⟩,
      ⟨(some 8), .call k_octet_Eye_looks [(.t 7)], none⟩,
      ⟨(some 9), .un .not (.t 8), none⟩])
   (.cond (.t 9)
    (.seq (.ops [⟨(some 2), .mov (.c (.int .u64 0)), none⟩,
        ⟨(some 3), .mov (.c (.int .i64 1)), none⟩])
     (.ret))
    (.skip)))
  (.seq (.dops 0 [] [(⟨(some 11), .mov (.t 0), none⟩, .L),
     (⟨(some 12), .nilchk (.t 11), none⟩, .L),
     (⟨(some 13), .fieldAddr 0 (.t 12), none⟩, .L),
     (⟨(some 14), .load none (.t 13), none⟩, .R [] []),
     (⟨(some 15), .mov (.t 0), none⟩, .L),
     (⟨(some 16), .nilchk (.t 15), none⟩, .L),
     (⟨(some 17), .fieldAddr 1 (.t 16), none⟩, .L),
     (⟨(some 18), .load none (.t 17), none⟩, .R [] []),
     (⟨(some 19), .slcS 1 (.t 14) (some (.t 18)) none none, none⟩, .L),
     (⟨(some 20), .call k_octet_compact [(.t 19)], none⟩, .B []),
     (⟨(some 10), .mov (.t 20), none⟩, .L),
     (⟨(some 21), .ext (.t 10) 0, none⟩, .L),
     (⟨(some 22), .ext (.t 10) 1, none⟩, .L),
     (⟨(some 23), .ext (.t 10) 2, none⟩, .L),
     (⟨(some 4), .mov (.t 21), none⟩, .L),
     (⟨(some 5), .mov (.t 22), none⟩, .L),
     (⟨(some 6), .mov (.t 23), none⟩, .L)])
  (.seq (.seq (.ops [⟨(some 24), .mov (.t 6), none⟩,
      ⟨(some 25), .un .not (.t 24), none⟩])
   (.cond (.t 25)
    (.seq (.ops [⟨(some 2), .mov (.c (.int .u64 0)), none⟩,
        ⟨(some 3), .mov (.c (.int .i64 10)), none⟩])
     (.ret))
    (.skip)))
  (.seq (.ops [⟨(some 26), .mov (.t 0), none⟩,
     ⟨(some 27), .nilchk (.t 26), none⟩,
     ⟨(some 28), .fieldAddr 1 (.t 27), none⟩,
     ⟨(some 29), .load none (.t 28), none⟩,
     ⟨(some 30), .mov (.t 5), none⟩,
     ⟨(some 31), .bin .add .no (.t 29) (.t 30), none⟩,
     ⟨(some 32), .nilchk (.t 26), none⟩,
     ⟨(some 33), .fieldAddr 1 (.t 32), none⟩,
     ⟨none, .store 1 (.t 33) (.t 31), none⟩])
  (.seq (.ops [⟨(some 34), .mov (.t 4), none⟩,
     ⟨(some 2), .mov (.t 34), none⟩,
     ⟨(some 3), .mov (.c (.int .i64 0)), none⟩])
  (.ret))))))⟩
/-- (*purser/octet.Eye).Bytes -/
def f_octet_Eye_Bytes : Fn := ⟨59, [.tmp 4, .tmp 5],
  .seq (.ops [⟨(some 4), .mov (.c (.slice none 0 (some 0) 0)), none⟩,
     ⟨(some 5), .mov (.c (.int .i64 0)), none⟩])
  (.seq (.seq (.ops [⟨(some 9), .mov (.t 0), none⟩,
      ⟨(some 10), .call k_octet_Eye_looks [(.t 9)], none⟩,
      ⟨(some 11), .un .not (.t 10), none⟩])
   (.cond (.t 11)
    (.seq (.ops [⟨(some 4), .mov (.c (.slice none 0 (some 0) 0)), none⟩,
        ⟨(some 5), .mov (.c (.int .i64 1)), none⟩])
     (.ret))
    (.skip)))
  (.seq (.dops 0 [] [(⟨(some 13), .mov (.t 0), none⟩, .L),
     (⟨(some 14), .nilchk (.t 13), none⟩, .L),
     (⟨(some 15), .fieldAddr 0 (.t 14), none⟩, .L),
     (⟨(some 16), .load none (.t 15), none⟩, .R [] []),
     (⟨(some 17), .mov (.t 0), none⟩, .L),
     (⟨(some 18), .nilchk (.t 17), none⟩, .L),
     (⟨(some 19), .fieldAddr 1 (.t 18), none⟩, .L),
     (⟨(some 20), .load none (.t 19), none⟩, .R [] []),
     (⟨(some 21), .slcS 1 (.t 16) (some (.t 20)) none none, none⟩, .L),
     (⟨(some 22), .call k_octet_compact [(.t 21)], none⟩, .B []),
     (⟨(some 12), .mov (.t 22), none⟩, .L),
     (⟨(some 23), .ext (.t 12) 0, none⟩, .L),
     (⟨(some 24), .ext (.t 12) 1, none⟩, .L),
     (⟨(some 25), .ext (.t 12) 2, none⟩, .L),
     (⟨(some 6), .mov (.t 23), none⟩, .L),
     (⟨(some 7), .mov (.t 24), none⟩, .L),
     (⟨(some 8), .mov (.t 25), none⟩, .L)])
  (.seq (.seq (.ops [⟨(some 26), .mov (.t 8), none⟩,
      ⟨(some 27), .un .not (.t 26), none⟩,
      ⟨(some 28), .mov (.t 27), none⟩,
      ⟨(some 29), .mov (.t 1), (some (28, false))⟩,
      ⟨(some 30), .bin .lss .no (.t 29) (.c (.int .i64 0)), (some (28, false))⟩,
      ⟨(some 31), .pick (.t 28) (.c (.bool true)) (.t 30), none⟩,
      ⟨(some 32), .mov (.t 31), none⟩,
      ⟨(some 33), .mov (.t 6), (some (32, false))⟩,
      ⟨(some 34), .mov (.t 1), (some (32, false))⟩,
      ⟨(some 35), .conv .u64 (.t 34), (some (32, false))⟩,
      ⟨(some 36), .bin .gtr .no (.t 33) (.t 35), (some (32, false))⟩,
      ⟨(some 37), .pick (.t 32) (.c (.bool true)) (.t 36), none⟩,
      ⟨(some 38), .mov (.t 37), none⟩,
      ⟨(some 39), .mov (.t 6), (some (38, false))⟩,
      ⟨(some 40), .mov (.t 0), (some (38, false))⟩,
      ⟨(some 41), .call k_octet_Eye_Left [(.t 40)], (some (38, false))⟩,
      ⟨(some 42), .mov (.t 7), (some (38, false))⟩,
      ⟨(some 43), .bin .sub .no (.t 41) (.t 42), (some (38, false))⟩,
      ⟨(some 44), .conv .u64 (.t 43), (some (38, false))⟩,
      ⟨(some 45), .bin .gtr .no (.t 39) (.t 44), (some (38, false))⟩,
      ⟨(some 46), .pick (.t 38) (.c (.bool true)) (.t 45), none⟩])
   (.cond (.t 46)
    (.seq (.ops [⟨(some 4), .mov (.c (.slice none 0 (some 0) 0)), none⟩,
        ⟨(some 5), .mov (.c (.int .i64 10)), none⟩])
     (.ret))
    (.skip)))
  (.seq (.ops [⟨(some 47), .mov (.t 0), none⟩,
     ⟨(some 48), .nilchk (.t 47), none⟩,
     ⟨(some 49), .fieldAddr 1 (.t 48), none⟩,
     ⟨(some 50), .load none (.t 49), none⟩,
     ⟨(some 51), .mov (.t 7), none⟩,
     ⟨(some 52), .bin .add .no (.t 50) (.t 51), none⟩,
     ⟨(some 53), .nilchk (.t 47), none⟩,
     ⟨(some 54), .fieldAddr 1 (.t 53), none⟩,
     ⟨none, .store 1 (.t 54) (.t 52), none⟩])
  (.seq (.ops [⟨(some 55), .mov (.t 0), none⟩,
     ⟨(some 56), .mov (.t 6), none⟩,
     ⟨(some 57), .conv .i64 (.t 56), none⟩,
     ⟨(some 58), .call k_octet_Eye_take [(.t 55), (.t 57)], none⟩,
     ⟨(some 4), .mov (.t 58), none⟩,
     ⟨(some 5), .mov (.c (.int .i64 0)), none⟩])
  (.ret))))))⟩
/-- (*purser/octet.Eye).Raw -/
def f_octet_Eye_Raw : Fn := ⟨18, [.tmp 4, .tmp 5],
  .seq (.ops [⟨(some 4), .mov (.c (.slice none 0 (some 0) 0)), none⟩,
     ⟨(some 5), .mov (.c (.int .i64 0)), none⟩])
  (.seq (.seq (.ops [⟨(some 6), .mov (.t 0), none⟩,
      ⟨(some 7), .call k_octet_Eye_looks [(.t 6)], none⟩,
      ⟨(some 8), .un .not (.t 7), none⟩])
   (.cond (.t 8)
    (.seq (.ops [⟨(some 4), .mov (.c (.slice none 0 (some 0) 0)), none⟩,
        ⟨(some 5), .mov (.c (.int .i64 1)), none⟩])
     (.ret))
    (.skip)))
  (.seq (.seq (.ops [⟨(some 9), .mov (.t 1), none⟩,
      ⟨(some 10), .bin .lss .no (.t 9) (.c (.int .i64 0)), none⟩])
   (.cond (.t 10)
    (.seq (.ops [⟨(some 4), .mov (.c (.slice none 0 (some 0) 0)), none⟩,
        ⟨(some 5), .mov (.c (.int .i64 2)), none⟩])
     (.ret))
    (.skip)))
  (.seq (.seq (.ops [⟨(some 11), .mov (.t 1), none⟩,
      ⟨(some 12), .mov (.t 0), none⟩,
      ⟨(some 13), .call k_octet_Eye_Left [(.t 12)], none⟩,
      ⟨(some 14), .bin .gtr .no (.t 11) (.t 13), none⟩])
   (.cond (.t 14)
    (.seq (.ops [⟨(some 4), .mov (.c (.slice none 0 (some 0) 0)), none⟩,
        ⟨(some 5), .mov (.c (.int .i64 10)), none⟩])
     (.ret))
    (.skip)))
  (.seq (.ops [⟨(some 15), .mov (.t 0), none⟩,
     ⟨(some 16), .mov (.t 1), none⟩,
     ⟨(some 17), .call k_octet_Eye_take [(.t 15), (.t 16)], none⟩,
     ⟨(some 4), .mov (.t 17), none⟩,
     ⟨(some 5), .mov (.c (.int .i64 0)), none⟩])
  (.ret)))))⟩
/-- (*purser/octet.Eye).looks -/
def f_octet_Eye_looks : Fn := ⟨11, [.tmp 2],
  .seq (.ops [⟨(some 2), .mov (.c (.bool false)), none⟩])
  (.seq (.ops [⟨(some 3), .mov (.t 0), none⟩,
     ⟨(some 4), .bin .neq (.ref .p) (.t 3) (.c (.ptr none)), none⟩,
     ⟨(some 5), .mov (.t 4), none⟩,
     ⟨(some 6), .mov (.t 0), (some (5, true))⟩,
     ⟨(some 7), .nilchk (.t 6), (some (5, true))⟩,
     ⟨(some 8), .fieldAddr 2 (.t 7), (some (5, true))⟩,
     ⟨(some 9), .load none (.t 8), (some (5, true))⟩,
     ⟨(some 10), .pick (.t 5) (.t 9) (.c (.bool false)), none⟩,
     ⟨(some 2), .mov (.t 10), none⟩])
  (.ret))⟩
/-- (*purser/octet.Eye).Left -/
def f_octet_Eye_Left : Fn := ⟨16, [.tmp 2],
  .seq (.ops [⟨(some 2), .mov (.c (.int .i64 0)), none⟩])
  (.seq (.seq (.ops [⟨(some 3), .mov (.t 0), none⟩,
      ⟨(some 4), .call k_octet_Eye_looks [(.t 3)], none⟩,
      ⟨(some 5), .un .not (.t 4), none⟩])
   (.cond (.t 5)
    (.seq (.ops [⟨(some 2), .mov (.c (.int .i64 0)), none⟩])
     (.ret))
    (.skip)))
  (.seq (.dops 0 [] [(⟨(some 6), .mov (.t 0), none⟩, .L),
     (⟨(some 7), .nilchk (.t 6), none⟩, .L),
     (⟨(some 8), .fieldAddr 0 (.t 7), none⟩, .L),
     (⟨(some 9), .load none (.t 8), none⟩, .R [] []),
     (⟨(some 10), .len false (.t 9), none⟩, .L),
     (⟨(some 11), .mov (.t 0), none⟩, .L),
     (⟨(some 12), .nilchk (.t 11), none⟩, .L),
     (⟨(some 13), .fieldAddr 1 (.t 12), none⟩, .L),
     (⟨(some 14), .load none (.t 13), none⟩, .R [] []),
     (⟨(some 15), .bin .sub .no (.t 10) (.t 14), none⟩, .L),
     (⟨(some 2), .mov (.t 15), none⟩, .L)])
  (.ret)))⟩
/-- purser/tx.read -/
def f_tx_read : Fn := ⟨29, [.cell 2 (some 4), .tmp 3, .tmp 4],
  .seq (.ops [⟨(some 2), .alloc [(.int .u32 0), (.slice none 0 (some 0) 0), (.slice none 0 (some 0) 0), (.int .u32 0)], none⟩,
     ⟨(some 3), .mov (.c (.int .i64 0)), none⟩,
     ⟨(some 4), .mov (.c (.int .i64 0)), none⟩])
  (.seq (.ops [⟨(some 6), .mov (.t 0), none⟩,
     ⟨(some 7), .call k_octet_Look [(.t 6)], none⟩,
     ⟨(some 8), .build [(.ptr none), (.bool false)] [(0, 1, (.t 7))], none⟩,
     ⟨(some 5), .alloc [(.ptr none), (.bool false)], none⟩,
     ⟨none, .store 2 (.t 5) (.t 8), none⟩])
  (.seq (.ops [⟨(some 9), .call k_tx_reader_word [(.t 5)], none⟩,
     ⟨(some 10), .fieldAddr 0 (.t 2), none⟩,
     ⟨none, .store 1 (.t 10) (.t 9), none⟩])
  (.seq (.ops [⟨(some 11), .mkfn k_tx_reader_in [(.t 5)] [], none⟩,
     ⟨(some 12), .call k_tx_list_api_In [(.t 5), (.t 11)], none⟩,
     ⟨(some 13), .fieldAddr 1 (.t 2), none⟩,
     ⟨none, .store 1 (.t 13) (.t 12), none⟩])
  (.seq (.ops [⟨(some 14), .mkfn k_tx_reader_out [(.t 5)] [], none⟩,
     ⟨(some 15), .call k_tx_list_api_Out [(.t 5), (.t 14)], none⟩,
     ⟨(some 16), .fieldAddr 2 (.t 2), none⟩,
     ⟨none, .store 1 (.t 16) (.t 15), none⟩])
  (.seq (.ops [⟨(some 17), .call k_tx_reader_word [(.t 5)], none⟩,
     ⟨(some 18), .fieldAddr 3 (.t 2), none⟩,
     ⟨none, .store 1 (.t 18) (.t 17), none⟩])
  (.seq (.seq (.ops [⟨(some 19), .fieldAddr 1 (.t 5), none⟩,
      ⟨(some 20), .load none (.t 19), none⟩])
   (.cond (.t 20)
    (.seq (.ops [⟨(some 21), .build [(.int .u32 0), (.slice none 0 (some 0) 0), (.slice none 0 (some 0) 0), (.int .u32 0)] [], none⟩,
        ⟨none, .store 4 (.t 2) (.t 21), none⟩,
        ⟨(some 3), .mov (.c (.int .i64 0)), none⟩,
        ⟨(some 4), .mov (.c (.int .i64 60)), none⟩])
     (.ret))
    (.skip)))
  (.seq (.dops 0 [] [(⟨(some 22), .load (some 4) (.t 2), none⟩, .R [] [(1, [])]),
     (⟨(some 23), .mov (.t 0), none⟩, .L),
     (⟨(some 24), .len false (.t 23), none⟩, .L),
     (⟨(some 25), .fieldAddr 0 (.t 5), none⟩, .L),
     (⟨(some 26), .load none (.t 25), none⟩, .R [] []),
     (⟨(some 27), .call k_octet_Eye_Left [(.t 26)], none⟩, .B []),
     (⟨(some 28), .bin .sub .no (.t 24) (.t 27), none⟩, .L),
     (⟨none, .store 4 (.t 2) (.t 22), none⟩, .B []),
     (⟨(some 3), .mov (.t 28), none⟩, .L),
     (⟨(some 4), .mov (.c (.int .i64 0)), none⟩, .L)])
  (.ret))))))))⟩
/-- purser/purserref06.Same -/
def f_purserref06_Same : Fn := ⟨12, [.tmp 4],
  .seq (.ops [⟨(some 2), .box (.t 0), none⟩,
     ⟨(some 3), .box (.t 1), none⟩,
     ⟨(some 4), .mov (.c (.bool false)), none⟩])
  (.seq (.dops 0 [] [(⟨(some 5), .load (some 4) (.t 2), none⟩, .R [] []),
     (⟨(some 6), .call k_purserref06_Bytes [(.t 5)], none⟩, .B []),
     (⟨(some 7), .b2s (.t 6), none⟩, .R [] [(0, [])]),
     (⟨(some 8), .load (some 4) (.t 3), none⟩, .R [] [(2, [])]),
     (⟨(some 9), .call k_purserref06_Bytes [(.t 8)], none⟩, .B []),
     (⟨(some 10), .b2s (.t 9), none⟩, .R [] []),
     (⟨(some 11), .bin .eql .no (.t 7) (.t 10), none⟩, .L),
     (⟨(some 4), .mov (.t 11), none⟩, .L)])
  (.ret))⟩
/-- purser/octet.sized -/
def f_octet_sized : Fn := ⟨17, [.tmp 2],
  .seq (.ops [⟨(some 2), .mov (.c (.bool false)), none⟩])
  (.seq (.ops [⟨(some 3), .mov (.t 0), none⟩,
     ⟨(some 4), .bin .eql .no (.t 3) (.c (.int .i64 1)), none⟩,
     ⟨(some 5), .mov (.t 4), none⟩,
     ⟨(some 6), .mov (.t 0), (some (5, false))⟩,
     ⟨(some 7), .bin .eql .no (.t 6) (.c (.int .i64 2)), (some (5, false))⟩,
     ⟨(some 8), .pick (.t 5) (.c (.bool true)) (.t 7), none⟩,
     ⟨(some 9), .mov (.t 8), none⟩,
     ⟨(some 10), .mov (.t 0), (some (9, false))⟩,
     ⟨(some 11), .bin .eql .no (.t 10) (.c (.int .i64 4)), (some (9, false))⟩,
     ⟨(some 12), .pick (.t 9) (.c (.bool true)) (.t 11), none⟩,
     ⟨(some 13), .mov (.t 12), none⟩,
     ⟨(some 14), .mov (.t 0), (some (13, false))⟩,
     ⟨(some 15), .bin .eql .no (.t 14) (.c (.int .i64 8)), (some (13, false))⟩,
     ⟨(some 16), .pick (.t 13) (.c (.bool true)) (.t 15), none⟩,
     ⟨(some 2), .mov (.t 16), none⟩])
  (.ret))⟩
def A_octet_Pen_put_0 : C := .seq (.ops [⟨(some 7), .mov (.t 26), none⟩])
    (.ops [⟨(some 8), .mov (.t 27), none⟩])
theorem u_A_octet_Pen_put_0 (Q : Orc) (N n : Nat) (r : Option Nat) (st : St) : evC Q N n r A_octet_Pen_put_0 st = evC Q N n r (.seq (.ops [⟨(some 7), .mov (.t 26), none⟩])
    (.ops [⟨(some 8), .mov (.t 27), none⟩])) st := _root_.id rfl
def B_octet_Pen_put_0 : C := .block 1 (.dops 0 [] [(⟨(some 28), .load none (.t 3), none⟩, .R [] []),
       (⟨(some 29), .nilchk (.t 28), none⟩, .L),
       (⟨(some 30), .fieldAddr 0 (.t 29), none⟩, .L),
       (⟨(some 31), .load none (.t 30), none⟩, .R [] []),
       (⟨(some 32), .load none (.t 6), none⟩, .R [] []),
       (⟨(some 33), .mov (.t 7), none⟩, .L),
       (⟨(some 34), .bin .add .no (.t 32) (.t 33), none⟩, .L),
       (⟨(some 35), .mov (.t 8), none⟩, .L),
       (⟨(some 36), .idxAddrS 1 (.t 31) (.t 34), none⟩, .L),
       (⟨none, .store 1 (.t 36) (.t 35), none⟩, .B [])])
theorem u_B_octet_Pen_put_0 (Q : Orc) (N n : Nat) (r : Option Nat) (st : St) : evC Q N n r B_octet_Pen_put_0 st = evC Q N n r (.block 1 (.dops 0 [] [(⟨(some 28), .load none (.t 3), none⟩, .R [] []),
       (⟨(some 29), .nilchk (.t 28), none⟩, .L),
       (⟨(some 30), .fieldAddr 0 (.t 29), none⟩, .L),
       (⟨(some 31), .load none (.t 30), none⟩, .R [] []),
       (⟨(some 32), .load none (.t 6), none⟩, .R [] []),
       (⟨(some 33), .mov (.t 7), none⟩, .L),
       (⟨(some 34), .bin .add .no (.t 32) (.t 33), none⟩, .L),
       (⟨(some 35), .mov (.t 8), none⟩, .L),
       (⟨(some 36), .idxAddrS 1 (.t 31) (.t 34), none⟩, .L),
       (⟨none, .store 1 (.t 36) (.t 35), none⟩, .B [])])) st := _root_.id rfl
/-- (*purser/octet.Pen).put -/
def f_octet_Pen_put : Fn := ⟨37, [],
  .seq (.ops [⟨(some 3), .box (.t 0), none⟩])
  (.seq (.ops [⟨(some 9), .load none (.t 3), none⟩,
     ⟨(some 10), .nilchk (.t 9), none⟩,
     ⟨(some 11), .fieldAddr 0 (.t 10), none⟩,
     ⟨(some 12), .load none (.t 11), none⟩,
     ⟨(some 13), .len false (.t 12), none⟩,
     ⟨(some 6), .alloc [(.int .i64 0)], none⟩,
     ⟨none, .store 1 (.t 6) (.t 13), none⟩])
  (.seq (.dops 0 [] [(⟨(some 14), .load none (.t 3), none⟩, .R [] [(1, [])]),
     (⟨(some 15), .load none (.t 3), none⟩, .R [] []),
     (⟨(some 16), .nilchk (.t 15), none⟩, .L),
     (⟨(some 17), .fieldAddr 0 (.t 16), none⟩, .L),
     (⟨(some 18), .load none (.t 17), none⟩, .R [] []),
     (⟨(some 19), .mov (.t 1), none⟩, .L),
     (⟨(some 20), .appendZ [(.int .u8 0)] 1 (.t 18) (.t 19), none⟩, .B []),
     (⟨(some 21), .nilchk (.t 14), none⟩, .L),
     (⟨(some 22), .fieldAddr 0 (.t 21), none⟩, .L),
     (⟨none, .store 1 (.t 22) (.t 20), none⟩, .B [])])
  (.seq (.ops [⟨(some 23), .mov (.t 2), none⟩,
     ⟨(some 24), .mov (.t 1), none⟩,
     ⟨(some 25), .call k_octet_highFirst [(.t 23), (.t 24)], none⟩])
  (.block 0 (.rangeF (.t 25) [26, 27] (A_octet_Pen_put_0)
   (B_octet_Pen_put_0))))))⟩
def L_purserref01_power_0 : C := .seq (.seq (.ops [⟨(some 5), .mov (.t 4), none⟩,
         ⟨(some 6), .mov (.t 0), none⟩,
         ⟨(some 7), .bin .lss .no (.t 5) (.t 6), none⟩])
      (.cond (.t 7)
       (.skip)
       (.exit 0)))
     (.seq (.block 1 (.ops [⟨(some 10), .mov (.t 3), none⟩,
         ⟨(some 11), .bin .mul .no (.t 10) (.c (.int .u64 256)), none⟩,
         ⟨(some 3), .mov (.t 11), none⟩]))
     (.ops [⟨(some 8), .mov (.t 4), none⟩,
       ⟨(some 9), .bin .add .no (.t 8) (.c (.int .i64 1)), none⟩,
       ⟨(some 4), .mov (.t 9), none⟩]))
def R_purserref01_power_0 : C := .seq (.ops [⟨(some 12), .mov (.t 3), none⟩,
     ⟨(some 2), .mov (.t 12), none⟩])
  (.ret)
/-- purser/purserref01.power -/
def f_purserref01_power : Fn := ⟨13, [.tmp 2],
  .seq (.ops [⟨(some 2), .mov (.c (.int .u64 0)), none⟩])
  (.seq (.ops [⟨(some 3), .mov (.c (.int .u64 1)), none⟩])
  (.seq (.seq (.ops [⟨(some 4), .mov (.c (.int .i64 0)), none⟩])
   (.block 0 (.loop (L_purserref01_power_0))))
  (R_purserref01_power_0)))⟩
/-- purser/octet.mark -/
def f_octet_mark : Fn := ⟨8, [.tmp 2],
  .seq (.ops [⟨(some 2), .mov (.c (.int .u8 0)), none⟩])
  (.seq (.seq (.ops [⟨(some 3), .mov (.t 0), none⟩])
   (.block 0 (.seq (.ops [⟨(some 5), .bin .eql .no (.t 3) (.c (.int .i64 2)), none⟩,
       ⟨(some 4), .mov (.t 5), none⟩])
    (.cond (.t 4)
     (.seq (.ops [⟨(some 2), .mov (.c (.int .u8 253)), none⟩])
      (.ret))
     (.seq (.ops [⟨(some 7), .bin .eql .no (.t 3) (.c (.int .i64 4)), none⟩,
         ⟨(some 6), .mov (.t 7), none⟩])
      (.cond (.t 6)
       (.seq (.ops [⟨(some 2), .mov (.c (.int .u8 254)), none⟩])
        (.ret))
       (.skip)))))))
  (.seq (.ops [⟨(some 2), .mov (.c (.int .u8 255)), none⟩])
  (.ret)))⟩
/-- purser/octet.highFirst -/
def f_octet_highFirst : Fn := ⟨6, [.tmp 4],
  .seq (.ops [⟨(some 2), .box (.t 0), none⟩,
     ⟨(some 3), .box (.t 1), none⟩,
     ⟨(some 4), .mov (.c .nilFn), none⟩])
  (.seq (.ops [⟨(some 5), .mkfn k_octet_highFirst_1 [] [(.t 3), (.t 2)], none⟩,
     ⟨(some 4), .mov (.t 5), none⟩])
  (.ret))⟩
def L_octet_number_0 : C := .seq (.seq (.ops [⟨(some 8), .mov (.t 4), none⟩,
         ⟨(some 9), .bin .geq .no (.t 8) (.c (.int .i64 0)), none⟩])
      (.cond (.t 9)
       (.skip)
       (.exit 0)))
     (.seq (.block 1 (.ops [⟨(some 12), .mov (.t 3), none⟩,
         ⟨(some 13), .bin .shl .no (.t 12) (.c (.int .u64 8)), none⟩,
         ⟨(some 14), .mov (.t 0), none⟩,
         ⟨(some 15), .mov (.t 4), none⟩,
         ⟨(some 16), .idxAddrS 1 (.t 14) (.t 15), none⟩,
         ⟨(some 17), .load none (.t 16), none⟩,
         ⟨(some 18), .conv .u64 (.t 17), none⟩,
         ⟨(some 19), .bin .or .no (.t 13) (.t 18), none⟩,
         ⟨(some 3), .mov (.t 19), none⟩]))
     (.ops [⟨(some 10), .mov (.t 4), none⟩,
       ⟨(some 11), .bin .sub .no (.t 10) (.c (.int .i64 1)), none⟩,
       ⟨(some 4), .mov (.t 11), none⟩]))
def R_octet_number_0 : C := .seq (.ops [⟨(some 20), .mov (.t 3), none⟩,
     ⟨(some 2), .mov (.t 20), none⟩])
  (.ret)
/-- purser/octet.number -/
def f_octet_number : Fn := ⟨21, [.tmp 2],
  .seq (.ops [⟨(some 2), .mov (.c (.int .u64 0)), none⟩])
  (.seq (.ops [⟨(some 3), .mov (.c (.int .u64 0)), none⟩])
  (.seq (.seq (.ops [⟨(some 5), .mov (.t 0), none⟩,
      ⟨(some 6), .len false (.t 5), none⟩,
      ⟨(some 7), .bin .sub .no (.t 6) (.c (.int .i64 1)), none⟩,
      ⟨(some 4), .mov (.t 7), none⟩])
   (.block 0 (.loop (L_octet_number_0))))
  (R_octet_number_0)))⟩
/-- purser/octet.compact -/
def f_octet_compact : Fn := ⟨33, [.tmp 2, .tmp 3, .tmp 4],
  .seq (.ops [⟨(some 2), .mov (.c (.int .u64 0)), none⟩,
     ⟨(some 3), .mov (.c (.int .i64 0)), none⟩,
     ⟨(some 4), .mov (.c (.bool false)), none⟩])
  (.seq (.seq (.ops [⟨(some 5), .mov (.t 0), none⟩,
      ⟨(some 6), .len false (.t 5), none⟩,
      ⟨(some 7), .bin .eql .no (.t 6) (.c (.int .i64 0)), none⟩])
   (.cond (.t 7)
    (.seq (.ops [⟨(some 2), .mov (.c (.int .u64 0)), none⟩,
        ⟨(some 3), .mov (.c (.int .i64 0)), none⟩,
        ⟨(some 4), .mov (.c (.bool false)), none⟩])
     (.ret))
    (.skip)))
  (.seq (.ops [⟨(some 8), .mov (.t 0), none⟩,
     ⟨(some 9), .idxAddrS 1 (.t 8) (.c (.int .i64 0)), none⟩,
     ⟨(some 10), .load none (.t 9), none⟩,
     ⟨(some 11), .call k_octet_following [(.t 10)], none⟩,
     ⟨(some 12), .bin .add .no (.c (.int .i64 1)) (.t 11), none⟩,
     ⟨(some 3), .mov (.t 12), none⟩])
  (.seq (.seq (.ops [⟨(some 13), .mov (.t 0), none⟩,
      ⟨(some 14), .len false (.t 13), none⟩,
      ⟨(some 15), .mov (.t 3), none⟩,
      ⟨(some 16), .bin .lss .no (.t 14) (.t 15), none⟩])
   (.cond (.t 16)
    (.seq (.ops [⟨(some 2), .mov (.c (.int .u64 0)), none⟩,
        ⟨(some 3), .mov (.c (.int .i64 0)), none⟩,
        ⟨(some 4), .mov (.c (.bool false)), none⟩])
     (.ret))
    (.skip)))
  (.seq (.ops [⟨(some 17), .mov (.t 0), none⟩,
     ⟨(some 18), .idxAddrS 1 (.t 17) (.c (.int .i64 0)), none⟩,
     ⟨(some 19), .load none (.t 18), none⟩,
     ⟨(some 20), .conv .u64 (.t 19), none⟩,
     ⟨(some 2), .mov (.t 20), none⟩])
  (.seq (.seq (.ops [⟨(some 21), .mov (.t 3), none⟩,
      ⟨(some 22), .bin .gtr .no (.t 21) (.c (.int .i64 1)), none⟩])
   (.cond (.t 22)
    (.ops [⟨(some 23), .mov (.t 0), none⟩,
       ⟨(some 24), .mov (.t 3), none⟩,
       ⟨(some 25), .slcS 1 (.t 23) (some (.c (.int .i64 1))) (some (.t 24)) none, none⟩,
       ⟨(some 26), .call k_octet_number [(.t 25)], none⟩,
       ⟨(some 2), .mov (.t 26), none⟩])
    (.skip)))
  (.seq (.ops [⟨(some 27), .mov (.t 2), none⟩,
     ⟨(some 28), .mov (.t 3), none⟩,
     ⟨(some 29), .mov (.t 2), none⟩,
     ⟨(some 30), .call k_octet_Compact [(.t 29)], none⟩,
     ⟨(some 31), .mov (.t 3), none⟩,
     ⟨(some 32), .bin .eql .no (.t 30) (.t 31), none⟩,
     ⟨(some 2), .mov (.t 27), none⟩,
     ⟨(some 3), .mov (.t 28), none⟩,
     ⟨(some 4), .mov (.t 32), none⟩])
  (.ret)))))))⟩
/-- (*purser/octet.Eye).take -/
def f_octet_Eye_take : Fn := ⟨31, [.tmp 4],
  .seq (.ops [⟨(some 4), .mov (.c (.slice none 0 (some 0) 0)), none⟩])
  (.seq (.dops 0 [] [(⟨(some 6), .mov (.t 0), none⟩, .L),
     (⟨(some 7), .nilchk (.t 6), none⟩, .L),
     (⟨(some 8), .fieldAddr 0 (.t 7), none⟩, .L),
     (⟨(some 9), .load none (.t 8), none⟩, .R [] []),
     (⟨(some 10), .mov (.t 0), none⟩, .L),
     (⟨(some 11), .nilchk (.t 10), none⟩, .L),
     (⟨(some 12), .fieldAddr 1 (.t 11), none⟩, .L),
     (⟨(some 13), .load none (.t 12), none⟩, .R [] []),
     (⟨(some 14), .mov (.t 0), none⟩, .L),
     (⟨(some 15), .nilchk (.t 14), none⟩, .L),
     (⟨(some 16), .fieldAddr 1 (.t 15), none⟩, .L),
     (⟨(some 17), .load none (.t 16), none⟩, .R [] []),
     (⟨(some 18), .mov (.t 1), none⟩, .L),
     (⟨(some 19), .bin .add .no (.t 17) (.t 18), none⟩, .L),
     (⟨(some 20), .slcS 1 (.t 9) (some (.t 13)) (some (.t 19)) none, none⟩, .L),
     (⟨(some 21), .append 1 1 (.c (.slice none 0 (some 0) 0)) (.t 20), none⟩, .B []),
     (⟨(some 5), .mov (.t 21), none⟩, .L)])
  (.seq (.ops [⟨(some 22), .mov (.t 0), none⟩,
     ⟨(some 23), .nilchk (.t 22), none⟩,
     ⟨(some 24), .fieldAddr 1 (.t 23), none⟩,
     ⟨(some 25), .load none (.t 24), none⟩,
     ⟨(some 26), .mov (.t 1), none⟩,
     ⟨(some 27), .bin .add .no (.t 25) (.t 26), none⟩,
     ⟨(some 28), .nilchk (.t 22), none⟩,
     ⟨(some 29), .fieldAddr 1 (.t 28), none⟩,
     ⟨none, .store 1 (.t 29) (.t 27), none⟩])
  (.seq (.ops [⟨(some 30), .mov (.t 5), none⟩,
     ⟨(some 4), .mov (.t 30), none⟩])
  (.ret))))⟩
/-- (*purser/tx.reader).word -/
def f_tx_reader_word : Fn := ⟨18, [.tmp 2],
  .seq (.ops [⟨(some 2), .mov (.c (.int .u32 0)), none⟩])
  (.seq (.ops [⟨(some 6), .mov (.t 0), none⟩,
     ⟨(some 7), .nilchk (.t 6), none⟩,
     ⟨(some 8), .fieldAddr 0 (.t 7), none⟩,
     ⟨(some 9), .load none (.t 8), none⟩,
     ⟨(some 10), .call k_octet_Eye_Fixed [(.t 9), (.c (.int .i64 4))], none⟩,
     ⟨(some 5), .mov (.t 10), none⟩,
     ⟨(some 11), .ext (.t 5) 0, none⟩,
     ⟨(some 12), .ext (.t 5) 1, none⟩,
     ⟨(some 3), .mov (.t 11), none⟩,
     ⟨(some 4), .mov (.t 12), none⟩])
  (.seq (.ops [⟨(some 13), .mov (.t 0), none⟩,
     ⟨(some 14), .mov (.t 4), none⟩,
     ⟨(some 15), .call k_tx_reader_note [(.t 13), (.t 14)], none⟩])
  (.seq (.ops [⟨(some 16), .mov (.t 3), none⟩,
     ⟨(some 17), .conv .u32 (.t 16), none⟩,
     ⟨(some 2), .mov (.t 17), none⟩])
  (.ret))))⟩
def L_tx_list_api_In_0 : C := .seq (.seq (.ops [⟨(some 28), .mov (.t 7), none⟩,
         ⟨(some 29), .len false (.t 28), none⟩,
         ⟨(some 30), .conv .u64 (.t 29), none⟩,
         ⟨(some 31), .mov (.t 5), none⟩,
         ⟨(some 32), .bin .lss .no (.t 30) (.t 31), none⟩,
         ⟨(some 33), .mov (.t 32), none⟩,
         ⟨(some 34), .mov (.t 0), (some (33, true))⟩,
         ⟨(some 35), .nilchk (.t 34), (some (33, true))⟩,
         ⟨(some 36), .fieldAddr 1 (.t 35), (some (33, true))⟩,
         ⟨(some 37), .load none (.t 36), (some (33, true))⟩,
         ⟨(some 38), .un .not (.t 37), (some (33, true))⟩,
         ⟨(some 39), .pick (.t 33) (.t 38) (.c (.bool false)), none⟩])
      (.cond (.t 39)
       (.skip)
       (.exit 0)))
     (.block 1 (.ops [⟨(some 40), .mov (.t 7), none⟩,
        ⟨(some 41), .mov (.t 1), none⟩,
        ⟨(some 42), .callv (.t 41) [], none⟩,
        ⟨(some 43), .buildS [(.int .u8 0), (.int .u8 0), (.int .u8 0), (.int .u8 0), (.int .u8 0), (.int .u8 0), (.int .u8 0), (.int .u8 0), (.int .u8 0), (.int .u8 0), (.int .u8 0), (.int .u8 0), (.int .u8 0), (.int .u8 0), (.int .u8 0), (.int .u8 0), (.int .u8 0), (.int .u8 0), (.int .u8 0), (.int .u8 0), (.int .u8 0), (.int .u8 0), (.int .u8 0), (.int .u8 0), (.int .u8 0), (.int .u8 0), (.int .u8 0), (.int .u8 0), (.int .u8 0), (.int .u8 0), (.int .u8 0), (.int .u8 0), (.int .u32 0), (.slice none 0 (some 0) 0), (.int .u32 0)] 1 35 [(0, 35, (.t 42))], none⟩,
        ⟨(some 44), .append 35 72 (.t 40) (.t 43), none⟩,
        ⟨(some 7), .mov (.t 44), none⟩]))
def R_tx_list_api_In_0 : C := .seq (.ops [⟨(some 45), .mov (.t 7), none⟩,
     ⟨(some 4), .mov (.t 45), none⟩])
  (.ret)
/-- purser/tx.list[purser/api.In] -/
def f_tx_list_api_In : Fn := ⟨46, [.tmp 4],
  .seq (.ops [⟨(some 4), .mov (.c (.slice none 0 (some 0) 0)), none⟩])
  (.seq (.ops [⟨(some 9), .mov (.t 0), none⟩,
     ⟨(some 10), .nilchk (.t 9), none⟩,
     ⟨(some 11), .fieldAddr 0 (.t 10), none⟩,
     ⟨(some 12), .load none (.t 11), none⟩,
     ⟨(some 13), .call k_octet_Eye_Size [(.t 12)], none⟩,
     ⟨(some 8), .mov (.t 13), none⟩,
     ⟨(some 14), .ext (.t 8) 0, none⟩,
     ⟨(some 15), .ext (.t 8) 1, none⟩,
     ⟨(some 5), .mov (.t 14), none⟩,
     ⟨(some 6), .mov (.t 15), none⟩])
  (.seq (.ops [⟨(some 16), .mov (.t 0), none⟩,
     ⟨(some 17), .mov (.t 6), none⟩,
     ⟨(some 18), .call k_tx_reader_note [(.t 16), (.t 17)], none⟩])
  (.seq (.seq (.ops [⟨(some 19), .mov (.t 5), none⟩,
      ⟨(some 20), .bin .lss .no (.t 19) (.c (.int .u64 1)), none⟩,
      ⟨(some 21), .mov (.t 20), none⟩,
      ⟨(some 22), .mov (.t 5), (some (21, false))⟩,
      ⟨(some 23), .bin .gtr .no (.t 22) (.c (.int .u64 50)), (some (21, false))⟩,
      ⟨(some 24), .pick (.t 21) (.c (.bool true)) (.t 23), none⟩])
   (.cond (.t 24)
    (.ops [⟨(some 25), .mov (.t 0), none⟩,
       ⟨(some 26), .nilchk (.t 25), none⟩,
       ⟨(some 27), .fieldAddr 1 (.t 26), none⟩,
       ⟨none, .store 1 (.t 27) (.c (.bool true)), none⟩])
    (.skip)))
  (.seq (.ops [⟨(some 7), .mov (.c (.slice none 0 (some 0) 0)), none⟩])
  (.seq (.block 0 (.loop (L_tx_list_api_In_0)))
  (R_tx_list_api_In_0))))))⟩
/-- (*purser/tx.reader).in -/
def f_tx_reader_in : Fn := ⟨13, [.cell 2 (some 35)],
  .seq (.ops [⟨(some 2), .alloc [(.int .u8 0), (.int .u8 0), (.int .u8 0), (.int .u8 0), (.int .u8 0), (.int .u8 0), (.int .u8 0), (.int .u8 0), (.int .u8 0), (.int .u8 0), (.int .u8 0), (.int .u8 0), (.int .u8 0), (.int .u8 0), (.int .u8 0), (.int .u8 0), (.int .u8 0), (.int .u8 0), (.int .u8 0), (.int .u8 0), (.int .u8 0), (.int .u8 0), (.int .u8 0), (.int .u8 0), (.int .u8 0), (.int .u8 0), (.int .u8 0), (.int .u8 0), (.int .u8 0), (.int .u8 0), (.int .u8 0), (.int .u8 0), (.int .u32 0), (.slice none 0 (some 0) 0), (.int .u32 0)], none⟩])
  (.seq (.ops [⟨(some 3), .mov (.t 0), none⟩,
     ⟨(some 4), .call k_tx_reader_hash [(.t 3)], none⟩,
     ⟨(some 5), .mov (.t 0), none⟩,
     ⟨(some 6), .call k_tx_reader_word [(.t 5)], none⟩,
     ⟨(some 7), .build [(.int .u8 0), (.int .u8 0), (.int .u8 0), (.int .u8 0), (.int .u8 0), (.int .u8 0), (.int .u8 0), (.int .u8 0), (.int .u8 0), (.int .u8 0), (.int .u8 0), (.int .u8 0), (.int .u8 0), (.int .u8 0), (.int .u8 0), (.int .u8 0), (.int .u8 0), (.int .u8 0), (.int .u8 0), (.int .u8 0), (.int .u8 0), (.int .u8 0), (.int .u8 0), (.int .u8 0), (.int .u8 0), (.int .u8 0), (.int .u8 0), (.int .u8 0), (.int .u8 0), (.int .u8 0), (.int .u8 0), (.int .u8 0), (.int .u32 0)] [(0, 32, (.t 4)), (32, 1, (.t 6))], none⟩,
     ⟨(some 8), .mov (.t 0), none⟩,
     ⟨(some 9), .call k_tx_reader_script [(.t 8)], none⟩,
     ⟨(some 10), .mov (.t 0), none⟩,
     ⟨(some 11), .call k_tx_reader_word [(.t 10)], none⟩,
     ⟨(some 12), .build [(.int .u8 0), (.int .u8 0), (.int .u8 0), (.int .u8 0), (.int .u8 0), (.int .u8 0), (.int .u8 0), (.int .u8 0), (.int .u8 0), (.int .u8 0), (.int .u8 0), (.int .u8 0), (.int .u8 0), (.int .u8 0), (.int .u8 0), (.int .u8 0), (.int .u8 0), (.int .u8 0), (.int .u8 0), (.int .u8 0), (.int .u8 0), (.int .u8 0), (.int .u8 0), (.int .u8 0), (.int .u8 0), (.int .u8 0), (.int .u8 0), (.int .u8 0), (.int .u8 0), (.int .u8 0), (.int .u8 0), (.int .u8 0), (.int .u32 0), (.slice none 0 (some 0) 0), (.int .u32 0)] [(0, 33, (.t 7)), (33, 1, (.t 9)), (34, 1, (.t 11))], none⟩,
     ⟨none, .store 35 (.t 2) (.t 12), none⟩])
  (.ret))⟩
def L_tx_list_api_Out_0 : C := .seq (.seq (.ops [⟨(some 28), .mov (.t 7), none⟩,
         ⟨(some 29), .len false (.t 28), none⟩,
         ⟨(some 30), .conv .u64 (.t 29), none⟩,
         ⟨(some 31), .mov (.t 5), none⟩,
         ⟨(some 32), .bin .lss .no (.t 30) (.t 31), none⟩,
         ⟨(some 33), .mov (.t 32), none⟩,
         ⟨(some 34), .mov (.t 0), (some (33, true))⟩,
         ⟨(some 35), .nilchk (.t 34), (some (33, true))⟩,
         ⟨(some 36), .fieldAddr 1 (.t 35), (some (33, true))⟩,
         ⟨(some 37), .load none (.t 36), (some (33, true))⟩,
         ⟨(some 38), .un .not (.t 37), (some (33, true))⟩,
         ⟨(some 39), .pick (.t 33) (.t 38) (.c (.bool false)), none⟩])
      (.cond (.t 39)
       (.skip)
       (.exit 0)))
     (.block 1 (.ops [⟨(some 40), .mov (.t 7), none⟩,
        ⟨(some 41), .mov (.t 1), none⟩,
        ⟨(some 42), .callv (.t 41) [], none⟩,
        ⟨(some 43), .buildS [(.int .i64 0), (.slice none 0 (some 0) 0)] 1 2 [(0, 2, (.t 42))], none⟩,
        ⟨(some 44), .append 2 32 (.t 40) (.t 43), none⟩,
        ⟨(some 7), .mov (.t 44), none⟩]))
def R_tx_list_api_Out_0 : C := .seq (.ops [⟨(some 45), .mov (.t 7), none⟩,
     ⟨(some 4), .mov (.t 45), none⟩])
  (.ret)
/-- purser/tx.list[purser/api.Out] -/
def f_tx_list_api_Out : Fn := ⟨46, [.tmp 4],
  .seq (.ops [⟨(some 4), .mov (.c (.slice none 0 (some 0) 0)), none⟩])
  (.seq (.ops [⟨(some 9), .mov (.t 0), none⟩,
     ⟨(some 10), .nilchk (.t 9), none⟩,
     ⟨(some 11), .fieldAddr 0 (.t 10), none⟩,
     ⟨(some 12), .load none (.t 11), none⟩,
     ⟨(some 13), .call k_octet_Eye_Size [(.t 12)], none⟩,
     ⟨(some 8), .mov (.t 13), none⟩,
     ⟨(some 14), .ext (.t 8) 0, none⟩,
     ⟨(some 15), .ext (.t 8) 1, none⟩,
     ⟨(some 5), .mov (.t 14), none⟩,
     ⟨(some 6), .mov (.t 15), none⟩])
  (.seq (.ops [⟨(some 16), .mov (.t 0), none⟩,
     ⟨(some 17), .mov (.t 6), none⟩,
     ⟨(some 18), .call k_tx_reader_note [(.t 16), (.t 17)], none⟩])
  (.seq (.seq (.ops [⟨(some 19), .mov (.t 5), none⟩,
      ⟨(some 20), .bin .lss .no (.t 19) (.c (.int .u64 1)), none⟩,
      ⟨(some 21), .mov (.t 20), none⟩,
      ⟨(some 22), .mov (.t 5), (some (21, false))⟩,
      ⟨(some 23), .bin .gtr .no (.t 22) (.c (.int .u64 50)), (some (21, false))⟩,
      ⟨(some 24), .pick (.t 21) (.c (.bool true)) (.t 23), none⟩])
   (.cond (.t 24)
    (.ops [⟨(some 25), .mov (.t 0), none⟩,
       ⟨(some 26), .nilchk (.t 25), none⟩,
       ⟨(some 27), .fieldAddr 1 (.t 26), none⟩,
       ⟨none, .store 1 (.t 27) (.c (.bool true)), none⟩])
    (.skip)))
  (.seq (.ops [⟨(some 7), .mov (.c (.slice none 0 (some 0) 0)), none⟩])
  (.seq (.block 0 (.loop (L_tx_list_api_Out_0)))
  (R_tx_list_api_Out_0))))))⟩
/-- (*purser/tx.reader).out -/
def f_tx_reader_out : Fn := ⟨21, [.cell 2 (some 2)],
  .seq (.ops [⟨(some 2), .alloc [(.int .i64 0), (.slice none 0 (some 0) 0)], none⟩])
  (.seq (.ops [⟨(some 6), .mov (.t 0), none⟩,
     ⟨(some 7), .nilchk (.t 6), none⟩,
     ⟨(some 8), .fieldAddr 0 (.t 7), none⟩,
     ⟨(some 9), .load none (.t 8), none⟩,
     ⟨(some 10), .call k_octet_Eye_Fixed [(.t 9), (.c (.int .i64 8))], none⟩,
     ⟨(some 5), .mov (.t 10), none⟩,
     ⟨(some 11), .ext (.t 5) 0, none⟩,
     ⟨(some 12), .ext (.t 5) 1, none⟩,
     ⟨(some 3), .mov (.t 11), none⟩,
     ⟨(some 4), .mov (.t 12), none⟩])
  (.seq (.ops [⟨(some 13), .mov (.t 0), none⟩,
     ⟨(some 14), .mov (.t 4), none⟩,
     ⟨(some 15), .call k_tx_reader_note [(.t 13), (.t 14)], none⟩])
  (.seq (.ops [⟨(some 16), .mov (.t 3), none⟩,
     ⟨(some 17), .conv .i64 (.t 16), none⟩,
     ⟨(some 18), .mov (.t 0), none⟩,
     ⟨(some 19), .call k_tx_reader_script [(.t 18)], none⟩,
     ⟨(some 20), .build [(.int .i64 0), (.slice none 0 (some 0) 0)] [(0, 1, (.t 17)), (1, 1, (.t 19))], none⟩,
     ⟨none, .store 2 (.t 2) (.t 20), none⟩])
  (.ret))))⟩
def L_purserref06_Bytes_0 : C := .seq (.seq (.ops [⟨(some 18), .mov (.t 4), none⟩,
         ⟨(some 19), .fieldAddr 1 (.t 1), none⟩,
         ⟨(some 20), .load none (.t 19), none⟩,
         ⟨(some 21), .len false (.t 20), none⟩,
         ⟨(some 22), .bin .lss .no (.t 18) (.t 21), none⟩])
      (.cond (.t 22)
       (.skip)
       (.exit 0)))
     (.seq (.block 1 (.seq (.ops [⟨(some 25), .fieldAddr 1 (.t 1), none⟩,
          ⟨(some 26), .load none (.t 25), none⟩,
          ⟨(some 27), .mov (.t 4), none⟩,
          ⟨(some 28), .idxAddrS 35 (.t 26) (.t 27), none⟩,
          ⟨(some 29), .load (some 35) (.t 28), none⟩,
          ⟨(some 5), .alloc [(.int .u8 0), (.int .u8 0), (.int .u8 0), (.int .u8 0), (.int .u8 0), (.int .u8 0), (.int .u8 0), (.int .u8 0), (.int .u8 0), (.int .u8 0), (.int .u8 0), (.int .u8 0), (.int .u8 0), (.int .u8 0), (.int .u8 0), (.int .u8 0), (.int .u8 0), (.int .u8 0), (.int .u8 0), (.int .u8 0), (.int .u8 0), (.int .u8 0), (.int .u8 0), (.int .u8 0), (.int .u8 0), (.int .u8 0), (.int .u8 0), (.int .u8 0), (.int .u8 0), (.int .u8 0), (.int .u8 0), (.int .u8 0), (.int .u32 0), (.slice none 0 (some 0) 0), (.int .u32 0)], none⟩,
          ⟨none, .store 35 (.t 5) (.t 29), none⟩])
       (.seq (.ops [⟨(some 30), .mov (.t 3), none⟩,
          ⟨(some 31), .fieldAddr 0 (.t 5), none⟩,
          ⟨(some 32), .fieldAddr 0 (.t 31), none⟩,
          ⟨(some 33), .slcA 32 1 (.t 32) none none none, none⟩,
          ⟨(some 34), .append 1 1 (.t 30) (.t 33), none⟩,
          ⟨(some 3), .mov (.t 34), none⟩])
       (.seq (.ops [⟨(some 35), .mov (.t 3), none⟩,
          ⟨(some 36), .fieldAddr 0 (.t 5), none⟩,
          ⟨(some 37), .fieldAddr 32 (.t 36), none⟩,
          ⟨(some 38), .load none (.t 37), none⟩,
          ⟨(some 39), .conv .u64 (.t 38), none⟩,
          ⟨(some 40), .call k_purserref06_num [(.c (.int .i64 4)), (.t 39)], none⟩,
          ⟨(some 41), .append 1 1 (.t 35) (.t 40), none⟩,
          ⟨(some 3), .mov (.t 41), none⟩])
       (.seq (.ops [⟨(some 42), .mov (.t 3), none⟩,
          ⟨(some 43), .fieldAddr 33 (.t 5), none⟩,
          ⟨(some 44), .load none (.t 43), none⟩,
          ⟨(some 45), .call k_purserref01_Bytes [(.t 44)], none⟩,
          ⟨(some 46), .append 1 1 (.t 42) (.t 45), none⟩,
          ⟨(some 3), .mov (.t 46), none⟩])
       (.ops [⟨(some 47), .mov (.t 3), none⟩,
         ⟨(some 48), .fieldAddr 34 (.t 5), none⟩,
         ⟨(some 49), .load none (.t 48), none⟩,
         ⟨(some 50), .conv .u64 (.t 49), none⟩,
         ⟨(some 51), .call k_purserref06_num [(.c (.int .i64 4)), (.t 50)], none⟩,
         ⟨(some 52), .append 1 1 (.t 47) (.t 51), none⟩,
         ⟨(some 3), .mov (.t 52), none⟩]))))))
     (.ops [⟨(some 23), .mov (.t 4), none⟩,
       ⟨(some 24), .bin .add .no (.t 23) (.c (.int .i64 1)), none⟩,
       ⟨(some 4), .mov (.t 24), none⟩]))
def L_purserref06_Bytes_1 : C := .seq (.seq (.ops [⟨(some 60), .mov (.t 6), none⟩,
         ⟨(some 61), .fieldAddr 2 (.t 1), none⟩,
         ⟨(some 62), .load none (.t 61), none⟩,
         ⟨(some 63), .len false (.t 62), none⟩,
         ⟨(some 64), .bin .lss .no (.t 60) (.t 63), none⟩])
      (.cond (.t 64)
       (.skip)
       (.exit 2)))
     (.seq (.block 3 (.seq (.ops [⟨(some 67), .mov (.t 3), none⟩,
          ⟨(some 68), .fieldAddr 2 (.t 1), none⟩,
          ⟨(some 69), .load none (.t 68), none⟩,
          ⟨(some 70), .mov (.t 6), none⟩,
          ⟨(some 71), .idxAddrS 2 (.t 69) (.t 70), none⟩,
          ⟨(some 72), .fieldAddr 0 (.t 71), none⟩,
          ⟨(some 73), .load none (.t 72), none⟩,
          ⟨(some 74), .conv .u64 (.t 73), none⟩,
          ⟨(some 75), .call k_purserref06_num [(.c (.int .i64 8)), (.t 74)], none⟩,
          ⟨(some 76), .append 1 1 (.t 67) (.t 75), none⟩,
          ⟨(some 3), .mov (.t 76), none⟩])
       (.ops [⟨(some 77), .mov (.t 3), none⟩,
         ⟨(some 78), .fieldAddr 2 (.t 1), none⟩,
         ⟨(some 79), .load none (.t 78), none⟩,
         ⟨(some 80), .mov (.t 6), none⟩,
         ⟨(some 81), .idxAddrS 2 (.t 79) (.t 80), none⟩,
         ⟨(some 82), .fieldAddr 1 (.t 81), none⟩,
         ⟨(some 83), .load none (.t 82), none⟩,
         ⟨(some 84), .call k_purserref01_Bytes [(.t 83)], none⟩,
         ⟨(some 85), .append 1 1 (.t 77) (.t 84), none⟩,
         ⟨(some 3), .mov (.t 85), none⟩])))
     (.ops [⟨(some 65), .mov (.t 6), none⟩,
       ⟨(some 66), .bin .add .no (.t 65) (.c (.int .i64 1)), none⟩,
       ⟨(some 6), .mov (.t 66), none⟩]))
def R_purserref06_Bytes_0 : C := .seq (.ops [⟨(some 86), .mov (.t 3), none⟩,
     ⟨(some 87), .fieldAddr 3 (.t 1), none⟩,
     ⟨(some 88), .load none (.t 87), none⟩,
     ⟨(some 89), .conv .u64 (.t 88), none⟩,
     ⟨(some 90), .call k_purserref06_num [(.c (.int .i64 4)), (.t 89)], none⟩,
     ⟨(some 91), .append 1 1 (.t 86) (.t 90), none⟩,
     ⟨(some 2), .mov (.t 91), none⟩])
  (.ret)
def R_purserref06_Bytes_1 : C := .seq (.ops [⟨(some 53), .mov (.t 3), none⟩,
     ⟨(some 54), .fieldAddr 2 (.t 1), none⟩,
     ⟨(some 55), .load none (.t 54), none⟩,
     ⟨(some 56), .len false (.t 55), none⟩,
     ⟨(some 57), .conv .u64 (.t 56), none⟩,
     ⟨(some 58), .call k_purserref01_Size [(.t 57)], none⟩,
     ⟨(some 59), .append 1 1 (.t 53) (.t 58), none⟩,
     ⟨(some 3), .mov (.t 59), none⟩])
  (.seq (.seq (.ops [⟨(some 6), .mov (.c (.int .i64 0)), none⟩])
   (.block 2 (.loop (L_purserref06_Bytes_1))))
  (R_purserref06_Bytes_0))
/-- purser/purserref06.Bytes -/
def f_purserref06_Bytes : Fn := ⟨92, [.tmp 2],
  .seq (.ops [⟨(some 1), .box (.t 0), none⟩,
     ⟨(some 2), .mov (.c (.slice none 0 (some 0) 0)), none⟩])
  (.seq (.ops [⟨(some 7), .fieldAddr 0 (.t 1), none⟩,
     ⟨(some 8), .load none (.t 7), none⟩,
     ⟨(some 9), .conv .u64 (.t 8), none⟩,
     ⟨(some 10), .call k_purserref06_num [(.c (.int .i64 4)), (.t 9)], none⟩,
     ⟨(some 3), .mov (.t 10), none⟩])
  (.seq (.ops [⟨(some 11), .mov (.t 3), none⟩,
     ⟨(some 12), .fieldAddr 1 (.t 1), none⟩,
     ⟨(some 13), .load none (.t 12), none⟩,
     ⟨(some 14), .len false (.t 13), none⟩,
     ⟨(some 15), .conv .u64 (.t 14), none⟩,
     ⟨(some 16), .call k_purserref01_Size [(.t 15)], none⟩,
     ⟨(some 17), .append 1 1 (.t 11) (.t 16), none⟩,
     ⟨(some 3), .mov (.t 17), none⟩])
  (.seq (.seq (.ops [⟨(some 4), .mov (.c (.int .i64 0)), none⟩])
   (.block 0 (.loop (L_purserref06_Bytes_0))))
  (R_purserref06_Bytes_1))))⟩
def L_octet_highFirst_1_0 : C := .seq (.seq (.ops [⟨(some 7), .mov (.t 4), none⟩,
        ⟨(some 8), .bin .geq .no (.t 7) (.c (.int .i64 0)), none⟩])
     (.cond (.t 8)
      (.skip)
      (.exit 0)))
    (.seq (.block 1 (.seq (.ops [⟨(some 11), .mov (.t 0), none⟩,
         ⟨(some 12), .mov (.t 4), none⟩,
         ⟨(some 13), .load none (.t 2), none⟩,
         ⟨(some 14), .mov (.t 4), none⟩,
         ⟨(some 15), .bin .mul .no (.c (.int .i64 8)) (.t 14), none⟩,
         ⟨(some 16), .bin .shr .no (.t 13) (.t 15), none⟩,
         ⟨(some 17), .conv .u8 (.t 16), none⟩,
         ⟨(some 18), .callv (.t 11) [(.t 12), (.t 17)], none⟩,
         ⟨(some 19), .un .not (.t 18), none⟩])
      (.cond (.t 19)
       (.ret)
       (.skip))))
    (.ops [⟨(some 9), .mov (.t 4), none⟩,
      ⟨(some 10), .bin .sub .no (.t 9) (.c (.int .i64 1)), none⟩,
      ⟨(some 4), .mov (.t 10), none⟩]))
/-- purser/octet.highFirst$1 -/
def f_octet_highFirst_1 : Fn := ⟨20, [],
  .seq (.ops [⟨(some 5), .load none (.t 1), none⟩,
     ⟨(some 6), .bin .sub .no (.t 5) (.c (.int .i64 1)), none⟩,
     ⟨(some 4), .mov (.t 6), none⟩])
  (.block 0 (.loop (L_octet_highFirst_1_0)))⟩
/-- purser/octet.following -/
def f_octet_following : Fn := ⟨10, [.tmp 2],
  .seq (.ops [⟨(some 2), .mov (.c (.int .i64 0)), none⟩])
  (.seq (.seq (.ops [⟨(some 3), .mov (.t 0), none⟩])
   (.block 0 (.seq (.ops [⟨(some 5), .bin .eql .no (.t 3) (.c (.int .u8 253)), none⟩,
       ⟨(some 4), .mov (.t 5), none⟩])
    (.cond (.t 4)
     (.seq (.ops [⟨(some 2), .mov (.c (.int .i64 2)), none⟩])
      (.ret))
     (.seq (.ops [⟨(some 7), .bin .eql .no (.t 3) (.c (.int .u8 254)), none⟩,
         ⟨(some 6), .mov (.t 7), none⟩])
      (.cond (.t 6)
       (.seq (.ops [⟨(some 2), .mov (.c (.int .i64 4)), none⟩])
        (.ret))
       (.seq (.ops [⟨(some 9), .bin .eql .no (.t 3) (.c (.int .u8 255)), none⟩,
           ⟨(some 8), .mov (.t 9), none⟩])
        (.cond (.t 8)
         (.seq (.ops [⟨(some 2), .mov (.c (.int .i64 8)), none⟩])
          (.ret))
         (.skip)))))))))
  (.seq (.ops [⟨(some 2), .mov (.c (.int .i64 0)), none⟩])
  (.ret)))⟩
/-- (*purser/tx.reader).note -/
def f_tx_reader_note : Fn := ⟨9, [],
  .seq (.ops [⟨(some 4), .mov (.t 1), none⟩,
     ⟨(some 5), .bin .neq .no (.t 4) (.c (.int .i64 0)), none⟩])
  (.cond (.t 5)
   (.ops [⟨(some 6), .mov (.t 0), none⟩,
      ⟨(some 7), .nilchk (.t 6), none⟩,
      ⟨(some 8), .fieldAddr 1 (.t 7), none⟩,
      ⟨none, .store 1 (.t 8) (.c (.bool true)), none⟩])
   (.skip))⟩
/-- (*purser/tx.reader).hash -/
def f_tx_reader_hash : Fn := ⟨21, [.cell 2 (some 32)],
  .seq (.ops [⟨(some 2), .alloc [(.int .u8 0), (.int .u8 0), (.int .u8 0), (.int .u8 0), (.int .u8 0), (.int .u8 0), (.int .u8 0), (.int .u8 0), (.int .u8 0), (.int .u8 0), (.int .u8 0), (.int .u8 0), (.int .u8 0), (.int .u8 0), (.int .u8 0), (.int .u8 0), (.int .u8 0), (.int .u8 0), (.int .u8 0), (.int .u8 0), (.int .u8 0), (.int .u8 0), (.int .u8 0), (.int .u8 0), (.int .u8 0), (.int .u8 0), (.int .u8 0), (.int .u8 0), (.int .u8 0), (.int .u8 0), (.int .u8 0), (.int .u8 0)], none⟩])
  (.seq (.ops [⟨(some 3), .alloc [(.int .u8 0), (.int .u8 0), (.int .u8 0), (.int .u8 0), (.int .u8 0), (.int .u8 0), (.int .u8 0), (.int .u8 0), (.int .u8 0), (.int .u8 0), (.int .u8 0), (.int .u8 0), (.int .u8 0), (.int .u8 0), (.int .u8 0), (.int .u8 0), (.int .u8 0), (.int .u8 0), (.int .u8 0), (.int .u8 0), (.int .u8 0), (.int .u8 0), (.int .u8 0), (.int .u8 0), (.int .u8 0), (.int .u8 0), (.int .u8 0), (.int .u8 0), (.int .u8 0), (.int .u8 0), (.int .u8 0), (.int .u8 0)], none⟩])
  (.seq (.ops [⟨(some 7), .mov (.t 0), none⟩,
     ⟨(some 8), .nilchk (.t 7), none⟩,
     ⟨(some 9), .fieldAddr 0 (.t 8), none⟩,
     ⟨(some 10), .load none (.t 9), none⟩,
     ⟨(some 11), .call k_octet_Eye_Raw [(.t 10), (.c (.int .i64 32))], none⟩,
     ⟨(some 6), .mov (.t 11), none⟩,
     ⟨(some 12), .ext (.t 6) 0, none⟩,
     ⟨(some 13), .ext (.t 6) 1, none⟩,
     ⟨(some 4), .mov (.t 12), none⟩,
     ⟨(some 5), .mov (.t 13), none⟩])
  (.seq (.ops [⟨(some 14), .mov (.t 0), none⟩,
     ⟨(some 15), .mov (.t 5), none⟩,
     ⟨(some 16), .call k_tx_reader_note [(.t 14), (.t 15)], none⟩])
  (.seq (.ops [⟨(some 17), .slcA 32 1 (.t 3) none none none, none⟩,
     ⟨(some 18), .mov (.t 4), none⟩,
     ⟨(some 19), .copy 1 (.t 17) (.t 18), none⟩])
  (.seq (.ops [⟨(some 20), .load (some 32) (.t 3), none⟩,
     ⟨none, .store 32 (.t 2) (.t 20), none⟩])
  (.ret))))))⟩
/-- (*purser/tx.reader).script -/
def f_tx_reader_script : Fn := ⟨17, [.tmp 2],
  .seq (.ops [⟨(some 2), .mov (.c (.slice none 0 (some 0) 0)), none⟩])
  (.seq (.ops [⟨(some 6), .mov (.t 0), none⟩,
     ⟨(some 7), .nilchk (.t 6), none⟩,
     ⟨(some 8), .fieldAddr 0 (.t 7), none⟩,
     ⟨(some 9), .load none (.t 8), none⟩,
     ⟨(some 10), .call k_octet_Eye_Bytes [(.t 9), (.c (.int .i64 2000))], none⟩,
     ⟨(some 5), .mov (.t 10), none⟩,
     ⟨(some 11), .ext (.t 5) 0, none⟩,
     ⟨(some 12), .ext (.t 5) 1, none⟩,
     ⟨(some 3), .mov (.t 11), none⟩,
     ⟨(some 4), .mov (.t 12), none⟩])
  (.seq (.ops [⟨(some 13), .mov (.t 0), none⟩,
     ⟨(some 14), .mov (.t 4), none⟩,
     ⟨(some 15), .call k_tx_reader_note [(.t 13), (.t 14)], none⟩])
  (.seq (.ops [⟨(some 16), .mov (.t 3), none⟩,
     ⟨(some 2), .mov (.t 16), none⟩])
  (.ret))))⟩
/-- purser/purserref06.num -/
def f_purserref06_num : Fn := ⟨14, [.tmp 4],
  .seq (.ops [⟨(some 4), .mov (.c (.slice none 0 (some 0) 0)), none⟩])
  (.seq (.ops [⟨(some 8), .mov (.t 0), none⟩,
     ⟨(some 9), .mov (.t 1), none⟩,
     ⟨(some 10), .call k_purserref01_Fixed [(.t 8), (.t 9)], none⟩,
     ⟨(some 7), .mov (.t 10), none⟩,
     ⟨(some 11), .ext (.t 7) 0, none⟩,
     ⟨(some 12), .ext (.t 7) 1, none⟩,
     ⟨(some 5), .mov (.t 11), none⟩,
     ⟨(some 6), .mov (.t 12), none⟩])
  (.seq (.ops [⟨(some 13), .mov (.t 5), none⟩,
     ⟨(some 4), .mov (.t 13), none⟩])
  (.ret)))⟩
-- no text: internal/abi.NoEscape
-- no text: internal/bytealg.MakeNoZero
end Go.Eng
