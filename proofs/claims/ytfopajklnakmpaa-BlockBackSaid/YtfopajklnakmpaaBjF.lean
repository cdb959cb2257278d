/- Functions of the program,as the evaluator takes them: printed by program. -/
import Derived.Test.YtfopajklnakmpaaEngI
namespace Go.Eng
open Go
/-- purser/purserlaw07.BlockBack -/
abbrev k_purserlaw07_BlockBack : Nat := 11
/-- (*purser/octet.Pen).All -/
abbrev k_octet_Pen_All : Nat := 17
/-- purser/octet.Compact -/
abbrev k_octet_Compact : Nat := 18
/-- purser/purserref01.Size -/
abbrev k_purserref01_Size : Nat := 19
/-- purser/octet.Look -/
abbrev k_octet_Look : Nat := 22
/-- (*purser/octet.Eye).End -/
abbrev k_octet_Eye_End : Nat := 24
/-- purser/purserref06.Great -/
abbrev k_purserref06_Great : Nat := 25
/-- purser/tx.Encode -/
abbrev k_tx_Encode : Nat := 27
/-- purser/tx.Same -/
abbrev k_tx_Same : Nat := 37
/-- purser/tx.First -/
abbrev k_tx_First : Nat := 38
/-- purser/tx.Decode -/
abbrev k_tx_Decode : Nat := 40
/-- purser/purserlaw06.alive -/
abbrev k_purserlaw06_alive : Nat := 42
/-- purser/purserlaw06.size -/
abbrev k_purserlaw06_size : Nat := 44
/-- purser/block.DecodeHeader -/
abbrev k_block_DecodeHeader : Nat := 46
/-- purser/block.Read -/
abbrev k_block_Read : Nat := 48
/-- purser/block.EncodeHeader -/
abbrev k_block_EncodeHeader : Nat := 50
/-- purser/block.Show -/
abbrev k_block_Show : Nat := 54
/-- purser/purserlaw07.alive -/
abbrev k_purserlaw07_alive : Nat := 56
/-- purser/purserref07.Great -/
abbrev k_purserref07_Great : Nat := 57
/-- purser/block.Encode -/
abbrev k_block_Encode : Nat := 58
/-- purser/block.Decode -/
abbrev k_block_Decode : Nat := 59
/-- purser/purserref07.Same -/
abbrev k_purserref07_Same : Nat := 60
/-- purser/purserref01.Twin -/
abbrev k_purserref01_Twin : Nat := 45
/-- (*purser/octet.Pen).Fixed -/
abbrev k_octet_Pen_Fixed : Nat := 61
/-- purser/purserref01.Fixed -/
abbrev k_purserref01_Fixed : Nat := 62
/-- (*purser/octet.Pen).Size -/
abbrev k_octet_Pen_Size : Nat := 63
/-- (*purser/octet.Pen).Bytes -/
abbrev k_octet_Pen_Bytes : Nat := 64
/-- purser/purserref01.Bytes -/
abbrev k_purserref01_Bytes : Nat := 65
/-- (*purser/octet.Pen).Raw -/
abbrev k_octet_Pen_Raw : Nat := 66
/-- purser/octet.width -/
abbrev k_octet_width : Nat := 67
/-- (*purser/octet.Eye).Fixed -/
abbrev k_octet_Eye_Fixed : Nat := 68
/-- (*purser/octet.Eye).Size -/
abbrev k_octet_Eye_Size : Nat := 69
/-- (*purser/octet.Eye).Bytes -/
abbrev k_octet_Eye_Bytes : Nat := 70
/-- (*purser/octet.Eye).Raw -/
abbrev k_octet_Eye_Raw : Nat := 71
/-- (*purser/octet.Eye).looks -/
abbrev k_octet_Eye_looks : Nat := 72
/-- (*purser/octet.Eye).Left -/
abbrev k_octet_Eye_Left : Nat := 73
/-- purser/tx.Check -/
abbrev k_tx_Check : Nat := 31
/-- slices.EqualFunc[[]purser/api.In,[]purser/api.In,purser/api.In,purser/api.In] -/
abbrev k_slices_EqualFunc_api_In_api_In_api_In_api_In : Nat := 81
/-- purser/tx.sameIn -/
abbrev k_tx_sameIn : Nat := 82
/-- slices.EqualFunc[[]purser/api.Out,[]purser/api.Out,purser/api.Out,purser/api.Out] -/
abbrev k_slices_EqualFunc_api_Out_api_Out_api_Out_api_Out : Nat := 83
/-- purser/tx.sameOut -/
abbrev k_tx_sameOut : Nat := 84
/-- purser/tx.read -/
abbrev k_tx_read : Nat := 85
/-- purser/block.word -/
abbrev k_block_word : Nat := 93
/-- purser/block.hash -/
abbrev k_block_hash : Nat := 94
/-- purser/block.valueOf -/
abbrev k_block_valueOf : Nat := 96
/-- purser/block.reversed -/
abbrev k_block_reversed : Nat := 97
/-- purser/block.size -/
abbrev k_block_size : Nat := 101
/-- purser/block.txs -/
abbrev k_block_txs : Nat := 102
/-- purser/purserref06.Same -/
abbrev k_purserref06_Same : Nat := 34
/-- purser/octet.sized -/
abbrev k_octet_sized : Nat := 103
/-- (*purser/octet.Pen).put -/
abbrev k_octet_Pen_put : Nat := 104
/-- purser/purserref01.power -/
abbrev k_purserref01_power : Nat := 105
/-- purser/octet.mark -/
abbrev k_octet_mark : Nat := 106
/-- purser/octet.highFirst -/
abbrev k_octet_highFirst : Nat := 107
/-- purser/octet.number -/
abbrev k_octet_number : Nat := 108
/-- purser/octet.compact -/
abbrev k_octet_compact : Nat := 109
/-- (*purser/octet.Eye).take -/
abbrev k_octet_Eye_take : Nat := 110
/-- purser/tx.counted -/
abbrev k_tx_counted : Nat := 76
/-- purser/tx.scripts -/
abbrev k_tx_scripts : Nat := 77
/-- bytes.Equal -/
abbrev k_bytes_Equal : Nat := 114
/-- (*purser/tx.reader).word -/
abbrev k_tx_reader_word : Nat := 115
/-- purser/tx.list[purser/api.In] -/
abbrev k_tx_list_api_In : Nat := 116
/-- (*purser/tx.reader).in -/
abbrev k_tx_reader_in : Nat := 117
/-- purser/tx.list[purser/api.Out] -/
abbrev k_tx_list_api_Out : Nat := 118
/-- (*purser/tx.reader).out -/
abbrev k_tx_reader_out : Nat := 119
/-- slices.Reverse[[]byte,byte] -/
abbrev k_slices_Reverse_byte_byte : Nat := 131
/-- purser/block.txs$1 -/
abbrev k_block_txs_1 : Nat := 132
/-- purser/purserref06.Bytes -/
abbrev k_purserref06_Bytes : Nat := 74
/-- purser/octet.highFirst$1 -/
abbrev k_octet_highFirst_1 : Nat := 133
/-- purser/octet.following -/
abbrev k_octet_following : Nat := 134
/-- purser/tx.scripts$1 -/
abbrev k_tx_scripts_1 : Nat := 113
/-- (*purser/tx.reader).note -/
abbrev k_tx_reader_note : Nat := 139
/-- (*purser/tx.reader).hash -/
abbrev k_tx_reader_hash : Nat := 140
/-- (*purser/tx.reader).script -/
abbrev k_tx_reader_script : Nat := 141
/-- purser/purserref06.num -/
abbrev k_purserref06_num : Nat := 111
/-- purser/purserlaw07.BlockBack -/
def f_purserlaw07_BlockBack : Fn := ⟨123,[.tmp 6],
 .seq (.ops [⟨(some 3),.box (.t 0),none⟩,
 ⟨(some 4),.box (.t 1),none⟩,
 ⟨(some 6),.mov (.c (.bool false)),none⟩])
 (.seq (.ops [⟨(some 18),.call k_purserlaw07_alive [],none⟩,
 ⟨(some 7),.mov (.t 18),none⟩])
 (.seq (.seq (.ops [⟨(some 19),.load (some 69) (.t 3),none⟩,
 ⟨(some 20),.call k_purserref07_Great [(.t 19)],none⟩,
 ⟨(some 21),.bin .gtr .no (.t 20) (.c (.int .i64 0)),none⟩,
 ⟨(some 22),.mov (.t 21),none⟩,
 ⟨(some 23),.mov (.t 2),(some (22,false))⟩,
 ⟨(some 24),.len false (.t 23),(some (22,false))⟩,
 ⟨(some 25),.bin .gtr .no (.t 24) (.c (.int .i64 20000)),(some (22,false))⟩,
 ⟨(some 26),.pick (.t 22) (.c (.bool true)) (.t 25),none⟩,
 ⟨(some 27),.mov (.t 26),none⟩,
 ⟨(some 28),.mov (.t 7),(some (27,false))⟩,
 ⟨(some 29),.un .not (.t 28),(some (27,false))⟩,
 ⟨(some 30),.pick (.t 27) (.c (.bool true)) (.t 29),none⟩])
 (.cond (.t 30)
 (.seq (.ops [⟨(some 31),.mov (.t 7),none⟩,
 ⟨(some 6),.mov (.t 31),none⟩])
 (.ret))
 (.skip)))
 (.seq (.ops [⟨(some 33),.fieldAddr 0 (.t 3),none⟩,
 ⟨(some 34),.load (some 68) (.t 33),none⟩,
 ⟨(some 35),.call k_block_EncodeHeader [(.t 34)],none⟩,
 ⟨(some 36),.call k_block_DecodeHeader [(.t 35)],none⟩,
 ⟨(some 32),.mov (.t 36),none⟩,
 ⟨(some 37),.ext (.t 32) 0,none⟩,
 ⟨(some 38),.ext (.t 32) 1,none⟩,
 ⟨(some 8),.alloc [(.int .u32 0),(.int .u8 0),(.int .u8 0),(.int .u8 0),(.int .u8 0),(.int .u8 0),(.int .u8 0),(.int .u8 0),(.int .u8 0),(.int .u8 0),(.int .u8 0),(.int .u8 0),(.int .u8 0),(.int .u8 0),(.int .u8 0),(.int .u8 0),(.int .u8 0),(.int .u8 0),(.int .u8 0),(.int .u8 0),(.int .u8 0),(.int .u8 0),(.int .u8 0),(.int .u8 0),(.int .u8 0),(.int .u8 0),(.int .u8 0),(.int .u8 0),(.int .u8 0),(.int .u8 0),(.int .u8 0),(.int .u8 0),(.int .u8 0),(.int .u8 0),(.int .u8 0),(.int .u8 0),(.int .u8 0),(.int .u8 0),(.int .u8 0),(.int .u8 0),(.int .u8 0),(.int .u8 0),(.int .u8 0),(.int .u8 0),(.int .u8 0),(.int .u8 0),(.int .u8 0),(.int .u8 0),(.int .u8 0),(.int .u8 0),(.int .u8 0),(.int .u8 0),(.int .u8 0),(.int .u8 0),(.int .u8 0),(.int .u8 0),(.int .u8 0),(.int .u8 0),(.int .u8 0),(.int .u8 0),(.int .u8 0),(.int .u8 0),(.int .u8 0),(.int .u8 0),(.int .u8 0),(.int .u32 0),(.int .u32 0),(.int .u32 0)],none⟩,
 ⟨none,.store 68 (.t 8) (.t 37),none⟩,
 ⟨(some 9),.mov (.t 38),none⟩])
 (.seq (.ops [⟨(some 40),.load (some 32) (.t 4),none⟩,
 ⟨(some 41),.call k_block_Show [(.t 40)],none⟩,
 ⟨(some 42),.call k_block_Read [(.t 41)],none⟩,
 ⟨(some 39),.mov (.t 42),none⟩,
 ⟨(some 43),.ext (.t 39) 0,none⟩,
 ⟨(some 44),.ext (.t 39) 1,none⟩,
 ⟨(some 10),.alloc [(.int .u8 0),(.int .u8 0),(.int .u8 0),(.int .u8 0),(.int .u8 0),(.int .u8 0),(.int .u8 0),(.int .u8 0),(.int .u8 0),(.int .u8 0),(.int .u8 0),(.int .u8 0),(.int .u8 0),(.int .u8 0),(.int .u8 0),(.int .u8 0),(.int .u8 0),(.int .u8 0),(.int .u8 0),(.int .u8 0),(.int .u8 0),(.int .u8 0),(.int .u8 0),(.int .u8 0),(.int .u8 0),(.int .u8 0),(.int .u8 0),(.int .u8 0),(.int .u8 0),(.int .u8 0),(.int .u8 0),(.int .u8 0)],none⟩,
 ⟨none,.store 32 (.t 10) (.t 43),none⟩,
 ⟨(some 11),.mov (.t 44),none⟩])
 (.seq (.seq (.ops [⟨(some 45),.mov (.t 9),none⟩,
 ⟨(some 46),.bin .neq .no (.t 45) (.c (.int .i64 0)),none⟩,
 ⟨(some 47),.mov (.t 46),none⟩,
 ⟨(some 48),.load (some 68) (.t 8),(some (47,false))⟩,
 ⟨(some 49),.fieldAddr 0 (.t 3),(some (47,false))⟩,
 ⟨(some 50),.load (some 68) (.t 49),(some (47,false))⟩,
 ⟨(some 51),.bin .neq (.flat [.i,.i,.i,.i,.i,.i,.i,.i,.i,.i,.i,.i,.i,.i,.i,.i,.i,.i,.i,.i,.i,.i,.i,.i,.i,.i,.i,.i,.i,.i,.i,.i,.i,.i,.i,.i,.i,.i,.i,.i,.i,.i,.i,.i,.i,.i,.i,.i,.i,.i,.i,.i,.i,.i,.i,.i,.i,.i,.i,.i,.i,.i,.i,.i,.i,.i,.i,.i]) (.t 48) (.t 50),(some (47,false))⟩,
 ⟨(some 52),.pick (.t 47) (.c (.bool true)) (.t 51),none⟩,
 ⟨(some 53),.mov (.t 52),none⟩,
 ⟨(some 54),.mov (.t 11),(some (53,false))⟩,
 ⟨(some 55),.bin .neq .no (.t 54) (.c (.int .i64 0)),(some (53,false))⟩,
 ⟨(some 56),.pick (.t 53) (.c (.bool true)) (.t 55),none⟩,
 ⟨(some 57),.mov (.t 56),none⟩,
 ⟨(some 58),.load (some 32) (.t 10),(some (57,false))⟩,
 ⟨(some 59),.load (some 32) (.t 4),(some (57,false))⟩,
 ⟨(some 60),.bin .neq (.flat [.i,.i,.i,.i,.i,.i,.i,.i,.i,.i,.i,.i,.i,.i,.i,.i,.i,.i,.i,.i,.i,.i,.i,.i,.i,.i,.i,.i,.i,.i,.i,.i]) (.t 58) (.t 59),(some (57,false))⟩,
 ⟨(some 61),.pick (.t 57) (.c (.bool true)) (.t 60),none⟩])
 (.cond (.t 61)
 (.seq (.ops [⟨(some 6),.mov (.c (.bool false)),none⟩])
 (.ret))
 (.skip)))
 (.seq (.ops [⟨(some 63),.load (some 69) (.t 3),none⟩,
 ⟨(some 64),.call k_block_Encode [(.t 63)],none⟩,
 ⟨(some 62),.mov (.t 64),none⟩,
 ⟨(some 65),.ext (.t 62) 0,none⟩,
 ⟨(some 66),.ext (.t 62) 1,none⟩,
 ⟨(some 12),.mov (.t 65),none⟩,
 ⟨(some 13),.mov (.t 66),none⟩])
 (.seq (.seq (.ops [⟨(some 67),.mov (.t 13),none⟩,
 ⟨(some 68),.bin .eql .no (.t 67) (.c (.int .i64 0)),none⟩])
 (.cond (.t 68)
 (.seq (.ops [⟨(some 70),.mov (.t 12),none⟩,
 ⟨(some 71),.call k_block_Decode [(.t 70)],none⟩,
 ⟨(some 69),.mov (.t 71),none⟩,
 ⟨(some 72),.ext (.t 69) 0,none⟩,
 ⟨(some 73),.ext (.t 69) 1,none⟩,
 ⟨(some 14),.alloc [(.int .u32 0),(.int .u8 0),(.int .u8 0),(.int .u8 0),(.int .u8 0),(.int .u8 0),(.int .u8 0),(.int .u8 0),(.int .u8 0),(.int .u8 0),(.int .u8 0),(.int .u8 0),(.int .u8 0),(.int .u8 0),(.int .u8 0),(.int .u8 0),(.int .u8 0),(.int .u8 0),(.int .u8 0),(.int .u8 0),(.int .u8 0),(.int .u8 0),(.int .u8 0),(.int .u8 0),(.int .u8 0),(.int .u8 0),(.int .u8 0),(.int .u8 0),(.int .u8 0),(.int .u8 0),(.int .u8 0),(.int .u8 0),(.int .u8 0),(.int .u8 0),(.int .u8 0),(.int .u8 0),(.int .u8 0),(.int .u8 0),(.int .u8 0),(.int .u8 0),(.int .u8 0),(.int .u8 0),(.int .u8 0),(.int .u8 0),(.int .u8 0),(.int .u8 0),(.int .u8 0),(.int .u8 0),(.int .u8 0),(.int .u8 0),(.int .u8 0),(.int .u8 0),(.int .u8 0),(.int .u8 0),(.int .u8 0),(.int .u8 0),(.int .u8 0),(.int .u8 0),(.int .u8 0),(.int .u8 0),(.int .u8 0),(.int .u8 0),(.int .u8 0),(.int .u8 0),(.int .u8 0),(.int .u32 0),(.int .u32 0),(.int .u32 0),(.slice none 0 (some 0) 0)],none⟩,
 ⟨none,.store 69 (.t 14) (.t 72),none⟩,
 ⟨(some 15),.mov (.t 73),none⟩])
 (.seq (.ops [⟨(some 74),.mov (.t 15),none⟩,
 ⟨(some 75),.bin .neq .no (.t 74) (.c (.int .i64 0)),none⟩,
 ⟨(some 76),.mov (.t 75),none⟩,
 ⟨(some 77),.load (some 69) (.t 14),(some (76,false))⟩,
 ⟨(some 78),.load (some 69) (.t 3),(some (76,false))⟩,
 ⟨(some 79),.call k_purserref07_Same [(.t 77),(.t 78)],(some (76,false))⟩,
 ⟨(some 80),.un .not (.t 79),(some (76,false))⟩,
 ⟨(some 81),.pick (.t 76) (.c (.bool true)) (.t 80),none⟩])
 (.cond (.t 81)
 (.seq (.ops [⟨(some 6),.mov (.c (.bool false)),none⟩])
 (.ret))
 (.skip))))
 (.skip)))
 (.seq (.ops [⟨(some 83),.mov (.t 2),none⟩,
 ⟨(some 84),.call k_block_Decode [(.t 83)],none⟩,
 ⟨(some 82),.mov (.t 84),none⟩,
 ⟨(some 85),.ext (.t 82) 0,none⟩,
 ⟨(some 86),.ext (.t 82) 1,none⟩,
 ⟨(some 16),.alloc [(.int .u32 0),(.int .u8 0),(.int .u8 0),(.int .u8 0),(.int .u8 0),(.int .u8 0),(.int .u8 0),(.int .u8 0),(.int .u8 0),(.int .u8 0),(.int .u8 0),(.int .u8 0),(.int .u8 0),(.int .u8 0),(.int .u8 0),(.int .u8 0),(.int .u8 0),(.int .u8 0),(.int .u8 0),(.int .u8 0),(.int .u8 0),(.int .u8 0),(.int .u8 0),(.int .u8 0),(.int .u8 0),(.int .u8 0),(.int .u8 0),(.int .u8 0),(.int .u8 0),(.int .u8 0),(.int .u8 0),(.int .u8 0),(.int .u8 0),(.int .u8 0),(.int .u8 0),(.int .u8 0),(.int .u8 0),(.int .u8 0),(.int .u8 0),(.int .u8 0),(.int .u8 0),(.int .u8 0),(.int .u8 0),(.int .u8 0),(.int .u8 0),(.int .u8 0),(.int .u8 0),(.int .u8 0),(.int .u8 0),(.int .u8 0),(.int .u8 0),(.int .u8 0),(.int .u8 0),(.int .u8 0),(.int .u8 0),(.int .u8 0),(.int .u8 0),(.int .u8 0),(.int .u8 0),(.int .u8 0),(.int .u8 0),(.int .u8 0),(.int .u8 0),(.int .u8 0),(.int .u8 0),(.int .u32 0),(.int .u32 0),(.int .u32 0),(.slice none 0 (some 0) 0)],none⟩,
 ⟨none,.store 69 (.t 16) (.t 85),none⟩,
 ⟨(some 17),.mov (.t 86),none⟩])
 (.seq (.seq (.ops [⟨(some 87),.mov (.t 17),none⟩,
 ⟨(some 88),.bin .neq .no (.t 87) (.c (.int .i64 0)),none⟩])
 (.cond (.t 88)
 (.seq (.ops [⟨(some 89),.mov (.t 7),none⟩,
 ⟨(some 90),.mov (.t 89),none⟩,
 ⟨(some 91),.mov (.t 17),(some (90,true))⟩,
 ⟨(some 92),.bin .eql .no (.t 91) (.c (.int .i64 70)),(some (90,true))⟩,
 ⟨(some 93),.pick (.t 90) (.t 92) (.c (.bool false)),none⟩,
 ⟨(some 94),.mov (.t 93),none⟩,
 ⟨(some 95),.fieldAddr 68 (.t 16),(some (94,true))⟩,
 ⟨(some 96),.load none (.t 95),(some (94,true))⟩,
 ⟨(some 97),.len false (.t 96),(some (94,true))⟩,
 ⟨(some 98),.bin .eql .no (.t 97) (.c (.int .i64 0)),(some (94,true))⟩,
 ⟨(some 99),.pick (.t 94) (.t 98) (.c (.bool false)),none⟩,
 ⟨(some 100),.mov (.t 99),none⟩,
 ⟨(some 101),.fieldAddr 0 (.t 16),(some (100,true))⟩,
 ⟨(some 102),.load (some 68) (.t 101),(some (100,true))⟩,
 ⟨(some 103),.build [(.int .u32 0),(.int .u8 0),(.int .u8 0),(.int .u8 0),(.int .u8 0),(.int .u8 0),(.int .u8 0),(.int .u8 0),(.int .u8 0),(.int .u8 0),(.int .u8 0),(.int .u8 0),(.int .u8 0),(.int .u8 0),(.int .u8 0),(.int .u8 0),(.int .u8 0),(.int .u8 0),(.int .u8 0),(.int .u8 0),(.int .u8 0),(.int .u8 0),(.int .u8 0),(.int .u8 0),(.int .u8 0),(.int .u8 0),(.int .u8 0),(.int .u8 0),(.int .u8 0),(.int .u8 0),(.int .u8 0),(.int .u8 0),(.int .u8 0),(.int .u8 0),(.int .u8 0),(.int .u8 0),(.int .u8 0),(.int .u8 0),(.int .u8 0),(.int .u8 0),(.int .u8 0),(.int .u8 0),(.int .u8 0),(.int .u8 0),(.int .u8 0),(.int .u8 0),(.int .u8 0),(.int .u8 0),(.int .u8 0),(.int .u8 0),(.int .u8 0),(.int .u8 0),(.int .u8 0),(.int .u8 0),(.int .u8 0),(.int .u8 0),(.int .u8 0),(.int .u8 0),(.int .u8 0),(.int .u8 0),(.int .u8 0),(.int .u8 0),(.int .u8 0),(.int .u8 0),(.int .u8 0),(.int .u32 0),(.int .u32 0),(.int .u32 0)] [],(some (100,true))⟩,
 ⟨(some 104),.bin .eql (.flat [.i,.i,.i,.i,.i,.i,.i,.i,.i,.i,.i,.i,.i,.i,.i,.i,.i,.i,.i,.i,.i,.i,.i,.i,.i,.i,.i,.i,.i,.i,.i,.i,.i,.i,.i,.i,.i,.i,.i,.i,.i,.i,.i,.i,.i,.i,.i,.i,.i,.i,.i,.i,.i,.i,.i,.i,.i,.i,.i,.i,.i,.i,.i,.i,.i,.i,.i,.i]) (.t 102) (.t 103),(some (100,true))⟩,
 ⟨(some 105),.pick (.t 100) (.t 104) (.c (.bool false)),none⟩,
 ⟨(some 6),.mov (.t 105),none⟩])
 (.ret))
 (.skip)))
 (.seq (.ops [⟨(some 107),.load (some 69) (.t 16),none⟩,
 ⟨(some 108),.call k_block_Encode [(.t 107)],none⟩,
 ⟨(some 106),.mov (.t 108),none⟩,
 ⟨(some 109),.ext (.t 106) 0,none⟩,
 ⟨(some 110),.ext (.t 106) 1,none⟩,
 ⟨(some 12),.mov (.t 109),none⟩,
 ⟨(some 13),.mov (.t 110),none⟩])
 (.seq (.ops [⟨(some 111),.mov (.t 7),none⟩,
 ⟨(some 112),.mov (.t 111),none⟩,
 ⟨(some 113),.mov (.t 13),(some (112,true))⟩,
 ⟨(some 114),.bin .eql .no (.t 113) (.c (.int .i64 0)),(some (112,true))⟩,
 ⟨(some 115),.pick (.t 112) (.t 114) (.c (.bool false)),none⟩,
 ⟨(some 116),.mov (.t 115),none⟩,
 ⟨(some 117),.mov (.t 12),(some (116,true))⟩,
 ⟨(some 118),.b2s (.t 117),(some (116,true))⟩,
 ⟨(some 119),.mov (.t 2),(some (116,true))⟩,
 ⟨(some 120),.b2s (.t 119),(some (116,true))⟩,
 ⟨(some 121),.bin .eql .no (.t 118) (.t 120),(some (116,true))⟩,
 ⟨(some 122),.pick (.t 116) (.t 121) (.c (.bool false)),none⟩,
 ⟨(some 6),.mov (.t 122),none⟩])
 (.ret))))))))))))⟩
/-- (*purser/octet.Pen).All -/
def f_octet_Pen_All : Fn := ⟨10,[.tmp 2],
 .seq (.ops [⟨(some 2),.mov (.c (.slice none 0 (some 0) 0)),none⟩])
 (.seq (.seq (.ops [⟨(some 3),.mov (.t 0),none⟩,
 ⟨(some 4),.bin .eql (.ref .p) (.t 3) (.c (.ptr none)),none⟩])
 (.cond (.t 4)
 (.seq (.ops [⟨(some 2),.mov (.c (.slice none 0 (some 0) 0)),none⟩])
 (.ret))
 (.skip)))
 (.seq (.ops [⟨(some 5),.mov (.t 0),none⟩,
 ⟨(some 6),.nilchk (.t 5),none⟩,
 ⟨(some 7),.fieldAddr 0 (.t 6),none⟩,
 ⟨(some 8),.load none (.t 7),none⟩,
 ⟨(some 9),.append 1 1 (.c (.slice none 0 (some 0) 0)) (.t 8),none⟩,
 ⟨(some 2),.mov (.t 9),none⟩])
 (.ret)))⟩
/-- purser/octet.Compact -/
def f_octet_Compact : Fn := ⟨14,[.tmp 2],
 .seq (.ops [⟨(some 2),.mov (.c (.int .i64 0)),none⟩])
 (.seq (.seq (.ops [⟨(some 4),.mov (.t 0),none⟩,
 ⟨(some 5),.bin .lss .no (.t 4) (.c (.int .u64 253)),none⟩])
 (.cond (.t 5)
 (.seq (.ops [⟨(some 2),.mov (.c (.int .i64 1)),none⟩])
 (.ret))
 (.skip)))
 (.seq (.seq (.ops [⟨(some 6),.mov (.t 0),none⟩,
 ⟨(some 7),.call k_octet_width [(.t 6)],none⟩,
 ⟨(some 3),.mov (.t 7),none⟩])
 (.block 0 (.seq (.ops [⟨(some 9),.mov (.t 3),none⟩,
 ⟨(some 10),.bin .leq .no (.t 9) (.c (.int .i64 2)),none⟩,
 ⟨(some 8),.mov (.t 10),none⟩])
 (.cond (.t 8)
 (.seq (.ops [⟨(some 2),.mov (.c (.int .i64 3)),none⟩])
 (.ret))
 (.seq (.ops [⟨(some 12),.mov (.t 3),none⟩,
 ⟨(some 13),.bin .leq .no (.t 12) (.c (.int .i64 4)),none⟩,
 ⟨(some 11),.mov (.t 13),none⟩])
 (.cond (.t 11)
 (.seq (.ops [⟨(some 2),.mov (.c (.int .i64 5)),none⟩])
 (.ret))
 (.skip)))))))
 (.seq (.ops [⟨(some 2),.mov (.c (.int .i64 9)),none⟩])
 (.ret))))⟩
/-- purser/purserref01.Size -/
def f_purserref01_Size : Fn := ⟨26,[.tmp 2],
 .seq (.ops [⟨(some 2),.mov (.c (.slice none 0 (some 0) 0)),none⟩])
 (.seq (.seq (.ops [⟨(some 7),.mov (.t 0),none⟩,
 ⟨(some 8),.bin .lss .no (.t 7) (.c (.int .u64 253)),none⟩])
 (.cond (.t 8)
 (.seq (.ops [⟨(some 9),.mov (.t 0),none⟩,
 ⟨(some 10),.conv .u8 (.t 9),none⟩,
 ⟨(some 11),.buildS [(.int .u8 0)] 1 1 [(0,1,(.t 10))],none⟩,
 ⟨(some 2),.mov (.t 11),none⟩])
 (.ret))
 (.skip)))
 (.seq (.ops [⟨(some 3),.mov (.c (.int .u8 253)),none⟩])
 (.seq (.ops [⟨(some 4),.mov (.c (.int .i64 2)),none⟩])
 (.seq (.seq (.ops [⟨(some 12),.mov (.t 0),none⟩,
 ⟨(some 13),.bin .gtr .no (.t 12) (.c (.int .u64 65535)),none⟩])
 (.cond (.t 13)
 (.seq (.ops [⟨(some 3),.mov (.c (.int .u8 254)),none⟩])
 (.ops [⟨(some 4),.mov (.c (.int .i64 4)),none⟩]))
 (.skip)))
 (.seq (.seq (.ops [⟨(some 14),.mov (.t 0),none⟩,
 ⟨(some 15),.bin .gtr .no (.t 14) (.c (.int .u64 4294967295)),none⟩])
 (.cond (.t 15)
 (.seq (.ops [⟨(some 3),.mov (.c (.int .u8 255)),none⟩])
 (.ops [⟨(some 4),.mov (.c (.int .i64 8)),none⟩]))
 (.skip)))
 (.seq (.ops [⟨(some 17),.mov (.t 4),none⟩,
 ⟨(some 18),.mov (.t 0),none⟩,
 ⟨(some 19),.call k_purserref01_Fixed [(.t 17),(.t 18)],none⟩,
 ⟨(some 16),.mov (.t 19),none⟩,
 ⟨(some 20),.ext (.t 16) 0,none⟩,
 ⟨(some 21),.ext (.t 16) 1,none⟩,
 ⟨(some 5),.mov (.t 20),none⟩,
 ⟨(some 6),.mov (.t 21),none⟩])
 (.seq (.ops [⟨(some 22),.mov (.t 3),none⟩,
 ⟨(some 23),.buildS [(.int .u8 0)] 1 1 [(0,1,(.t 22))],none⟩,
 ⟨(some 24),.mov (.t 5),none⟩,
 ⟨(some 25),.append 1 1 (.t 23) (.t 24),none⟩,
 ⟨(some 2),.mov (.t 25),none⟩])
 (.ret))))))))⟩
/-- purser/octet.Look -/
def f_octet_Look : Fn := ⟨7,[.tmp 2],
 .seq (.ops [⟨(some 2),.mov (.c (.ptr none)),none⟩])
 (.seq (.ops [⟨(some 3),.mov (.t 0),none⟩,
 ⟨(some 4),.append 1 1 (.c (.slice none 0 (some 0) 0)) (.t 3),none⟩,
 ⟨(some 5),.build [(.slice none 0 (some 0) 0),(.int .i64 0),(.bool false)] [(0,1,(.t 4)),(2,1,(.c (.bool true)))],none⟩,
 ⟨(some 6),.box (.t 5),none⟩,
 ⟨(some 2),.mov (.t 6),none⟩])
 (.ret))⟩
/-- (*purser/octet.Eye).End -/
def f_octet_Eye_End : Fn := ⟨9,[.tmp 2],
 .seq (.ops [⟨(some 2),.mov (.c (.int .i64 0)),none⟩])
 (.seq (.seq (.ops [⟨(some 3),.mov (.t 0),none⟩,
 ⟨(some 4),.call k_octet_Eye_looks [(.t 3)],none⟩,
 ⟨(some 5),.un .not (.t 4),none⟩])
 (.cond (.t 5)
 (.seq (.ops [⟨(some 2),.mov (.c (.int .i64 1)),none⟩])
 (.ret))
 (.skip)))
 (.seq (.seq (.ops [⟨(some 6),.mov (.t 0),none⟩,
 ⟨(some 7),.call k_octet_Eye_Left [(.t 6)],none⟩,
 ⟨(some 8),.bin .gtr .no (.t 7) (.c (.int .i64 0)),none⟩])
 (.cond (.t 8)
 (.seq (.ops [⟨(some 2),.mov (.c (.int .i64 10)),none⟩])
 (.ret))
 (.skip)))
 (.seq (.ops [⟨(some 2),.mov (.c (.int .i64 0)),none⟩])
 (.ret))))⟩
def L_purserref06_Great_0 : C := .seq (.seq (.ops [⟨(some 15),.mov (.t 3),none⟩,
 ⟨(some 16),.fieldAddr 1 (.t 1),none⟩,
 ⟨(some 17),.load none (.t 16),none⟩,
 ⟨(some 18),.len false (.t 17),none⟩,
 ⟨(some 19),.bin .lss .no (.t 15) (.t 18),none⟩])
 (.cond (.t 19)
 (.skip)
 (.exit 0)))
 (.seq (.block 1 (.seq (.ops [⟨(some 22),.fieldAddr 1 (.t 1),none⟩,
 ⟨(some 23),.load none (.t 22),none⟩,
 ⟨(some 24),.mov (.t 3),none⟩,
 ⟨(some 25),.idxAddrS 35 (.t 23) (.t 24),none⟩,
 ⟨(some 26),.fieldAddr 33 (.t 25),none⟩,
 ⟨(some 27),.load none (.t 26),none⟩,
 ⟨(some 28),.len false (.t 27),none⟩,
 ⟨(some 29),.bin .gtr .no (.t 28) (.c (.int .i64 2100)),none⟩])
 (.cond (.t 29)
 (.seq (.ops [⟨(some 2),.mov (.c (.int .i64 1)),none⟩])
 (.ret))
 (.skip))))
 (.ops [⟨(some 20),.mov (.t 3),none⟩,
 ⟨(some 21),.bin .add .no (.t 20) (.c (.int .i64 1)),none⟩,
 ⟨(some 3),.mov (.t 21),none⟩]))
def L_purserref06_Great_1 : C := .seq (.seq (.ops [⟨(some 30),.mov (.t 4),none⟩,
 ⟨(some 31),.fieldAddr 2 (.t 1),none⟩,
 ⟨(some 32),.load none (.t 31),none⟩,
 ⟨(some 33),.len false (.t 32),none⟩,
 ⟨(some 34),.bin .lss .no (.t 30) (.t 33),none⟩])
 (.cond (.t 34)
 (.skip)
 (.exit 2)))
 (.seq (.block 3 (.seq (.ops [⟨(some 37),.fieldAddr 2 (.t 1),none⟩,
 ⟨(some 38),.load none (.t 37),none⟩,
 ⟨(some 39),.mov (.t 4),none⟩,
 ⟨(some 40),.idxAddrS 2 (.t 38) (.t 39),none⟩,
 ⟨(some 41),.fieldAddr 1 (.t 40),none⟩,
 ⟨(some 42),.load none (.t 41),none⟩,
 ⟨(some 43),.len false (.t 42),none⟩,
 ⟨(some 44),.bin .gtr .no (.t 43) (.c (.int .i64 2100)),none⟩])
 (.cond (.t 44)
 (.seq (.ops [⟨(some 2),.mov (.c (.int .i64 1)),none⟩])
 (.ret))
 (.skip))))
 (.ops [⟨(some 35),.mov (.t 4),none⟩,
 ⟨(some 36),.bin .add .no (.t 35) (.c (.int .i64 1)),none⟩,
 ⟨(some 4),.mov (.t 36),none⟩]))
def R_purserref06_Great_0 : C := .seq (.ops [⟨(some 2),.mov (.c (.int .i64 0)),none⟩])
 (.ret)
def R_purserref06_Great_1 : C := .seq (.seq (.ops [⟨(some 4),.mov (.c (.int .i64 0)),none⟩])
 (.block 2 (.loop (L_purserref06_Great_1))))
 (R_purserref06_Great_0)
/-- purser/purserref06.Great -/
def f_purserref06_Great : Fn := ⟨45,[.tmp 2],
 .seq (.ops [⟨(some 1),.box (.t 0),none⟩,
 ⟨(some 2),.mov (.c (.int .i64 0)),none⟩])
 (.seq (.seq (.ops [⟨(some 5),.fieldAddr 1 (.t 1),none⟩,
 ⟨(some 6),.load none (.t 5),none⟩,
 ⟨(some 7),.len false (.t 6),none⟩,
 ⟨(some 8),.bin .gtr .no (.t 7) (.c (.int .i64 60)),none⟩,
 ⟨(some 9),.mov (.t 8),none⟩,
 ⟨(some 10),.fieldAddr 2 (.t 1),(some (9,false))⟩,
 ⟨(some 11),.load none (.t 10),(some (9,false))⟩,
 ⟨(some 12),.len false (.t 11),(some (9,false))⟩,
 ⟨(some 13),.bin .gtr .no (.t 12) (.c (.int .i64 60)),(some (9,false))⟩,
 ⟨(some 14),.pick (.t 9) (.c (.bool true)) (.t 13),none⟩])
 (.cond (.t 14)
 (.seq (.ops [⟨(some 2),.mov (.c (.int .i64 1)),none⟩])
 (.ret))
 (.skip)))
 (.seq (.seq (.ops [⟨(some 3),.mov (.c (.int .i64 0)),none⟩])
 (.block 0 (.loop (L_purserref06_Great_0))))
 (R_purserref06_Great_1)))⟩
def L_tx_Encode_0 : C := .seq (.ops [⟨(some 25),.bin .lss .no (.t 24) (.t 23),none⟩])
 (.seq (.cond (.t 25)
 (.skip)
 (.exit 0))
 (.seq (.block 1 (.seq (.ops [⟨(some 26),.idxAddrS 35 (.t 22) (.t 24),none⟩,
 ⟨(some 27),.load (some 35) (.t 26),none⟩,
 ⟨(some 6),.alloc [(.int .u8 0),(.int .u8 0),(.int .u8 0),(.int .u8 0),(.int .u8 0),(.int .u8 0),(.int .u8 0),(.int .u8 0),(.int .u8 0),(.int .u8 0),(.int .u8 0),(.int .u8 0),(.int .u8 0),(.int .u8 0),(.int .u8 0),(.int .u8 0),(.int .u8 0),(.int .u8 0),(.int .u8 0),(.int .u8 0),(.int .u8 0),(.int .u8 0),(.int .u8 0),(.int .u8 0),(.int .u8 0),(.int .u8 0),(.int .u8 0),(.int .u8 0),(.int .u8 0),(.int .u8 0),(.int .u8 0),(.int .u8 0),(.int .u32 0),(.slice none 0 (some 0) 0),(.int .u32 0)],none⟩,
 ⟨none,.store 35 (.t 6) (.t 27),none⟩])
 (.seq (.ops [⟨(some 28),.fieldAddr 0 (.t 6),none⟩,
 ⟨(some 29),.fieldAddr 0 (.t 28),none⟩,
 ⟨(some 30),.slcA 32 1 (.t 29) none none none,none⟩,
 ⟨(some 31),.buildS [(.slice none 0 (some 0) 0)] 1 1 [(0,1,(.t 30))],none⟩,
 ⟨(some 32),.call k_octet_Pen_Raw [(.t 4),(.t 31)],none⟩])
 (.seq (.ops [⟨(some 33),.fieldAddr 0 (.t 6),none⟩,
 ⟨(some 34),.fieldAddr 32 (.t 33),none⟩,
 ⟨(some 35),.load none (.t 34),none⟩,
 ⟨(some 36),.conv .u64 (.t 35),none⟩,
 ⟨(some 37),.call k_octet_Pen_Fixed [(.t 4),(.c (.int .i64 4)),(.t 36)],none⟩])
 (.seq (.ops [⟨(some 38),.fieldAddr 33 (.t 6),none⟩,
 ⟨(some 39),.load none (.t 38),none⟩,
 ⟨(some 40),.call k_octet_Pen_Bytes [(.t 4),(.t 39)],none⟩])
 (.ops [⟨(some 41),.fieldAddr 34 (.t 6),none⟩,
 ⟨(some 42),.load none (.t 41),none⟩,
 ⟨(some 43),.conv .u64 (.t 42),none⟩,
 ⟨(some 44),.call k_octet_Pen_Fixed [(.t 4),(.c (.int .i64 4)),(.t 43)],none⟩]))))))
 (.ops [⟨(some 45),.bin .add .no (.t 24) (.c (.int .i64 1)),none⟩,
 ⟨(some 24),.mov (.t 45),none⟩])))
def L_tx_Encode_1 : C := .seq (.ops [⟨(some 55),.bin .lss .no (.t 54) (.t 53),none⟩])
 (.seq (.cond (.t 55)
 (.skip)
 (.exit 2))
 (.seq (.block 3 (.seq (.ops [⟨(some 56),.idxAddrS 2 (.t 52) (.t 54),none⟩,
 ⟨(some 57),.load (some 2) (.t 56),none⟩,
 ⟨(some 8),.alloc [(.int .i64 0),(.slice none 0 (some 0) 0)],none⟩,
 ⟨none,.store 2 (.t 8) (.t 57),none⟩])
 (.seq (.ops [⟨(some 58),.fieldAddr 0 (.t 8),none⟩,
 ⟨(some 59),.load none (.t 58),none⟩,
 ⟨(some 60),.conv .u64 (.t 59),none⟩,
 ⟨(some 61),.call k_octet_Pen_Fixed [(.t 4),(.c (.int .i64 8)),(.t 60)],none⟩])
 (.ops [⟨(some 62),.fieldAddr 1 (.t 8),none⟩,
 ⟨(some 63),.load none (.t 62),none⟩,
 ⟨(some 64),.call k_octet_Pen_Bytes [(.t 4),(.t 63)],none⟩]))))
 (.ops [⟨(some 65),.bin .add .no (.t 54) (.c (.int .i64 1)),none⟩,
 ⟨(some 54),.mov (.t 65),none⟩])))
def R_tx_Encode_0 : C := .seq (.ops [⟨(some 66),.fieldAddr 3 (.t 1),none⟩,
 ⟨(some 67),.load none (.t 66),none⟩,
 ⟨(some 68),.conv .u64 (.t 67),none⟩,
 ⟨(some 69),.call k_octet_Pen_Fixed [(.t 4),(.c (.int .i64 4)),(.t 68)],none⟩])
 (.seq (.ops [⟨(some 70),.call k_octet_Pen_All [(.t 4)],none⟩,
 ⟨(some 2),.mov (.t 70),none⟩,
 ⟨(some 3),.mov (.c (.int .i64 0)),none⟩])
 (.ret))
def R_tx_Encode_1 : C := .seq (.ops [⟨(some 46),.fieldAddr 2 (.t 1),none⟩,
 ⟨(some 47),.load none (.t 46),none⟩,
 ⟨(some 48),.len false (.t 47),none⟩,
 ⟨(some 49),.conv .u64 (.t 48),none⟩,
 ⟨(some 50),.call k_octet_Pen_Size [(.t 4),(.t 49)],none⟩])
 (.seq (.seq (.ops [⟨(some 51),.fieldAddr 2 (.t 1),none⟩,
 ⟨(some 52),.load none (.t 51),none⟩,
 ⟨(some 53),.len false (.t 52),none⟩,
 ⟨(some 54),.mov (.c (.int .i64 0)),none⟩])
 (.block 2 (.loop (L_tx_Encode_1))))
 (R_tx_Encode_0))
/-- purser/tx.Encode -/
def f_tx_Encode : Fn := ⟨71,[.tmp 2,.tmp 3],
 .seq (.ops [⟨(some 1),.box (.t 0),none⟩,
 ⟨(some 2),.mov (.c (.slice none 0 (some 0) 0)),none⟩,
 ⟨(some 3),.mov (.c (.int .i64 0)),none⟩])
 (.seq (.seq (.ops [⟨(some 9),.load (some 4) (.t 1),none⟩,
 ⟨(some 10),.call k_tx_Check [(.t 9)],none⟩,
 ⟨(some 11),.bin .neq .no (.t 10) (.c (.int .i64 0)),none⟩])
 (.cond (.t 11)
 (.seq (.ops [⟨(some 2),.mov (.c (.slice none 0 (some 0) 0)),none⟩,
 ⟨(some 3),.mov (.c (.int .i64 60)),none⟩])
 (.ret))
 (.skip)))
 (.seq (.ops [⟨(some 4),.alloc [(.slice none 0 (some 0) 0)],none⟩])
 (.seq (.ops [⟨(some 12),.fieldAddr 0 (.t 1),none⟩,
 ⟨(some 13),.load none (.t 12),none⟩,
 ⟨(some 14),.conv .u64 (.t 13),none⟩,
 ⟨(some 15),.call k_octet_Pen_Fixed [(.t 4),(.c (.int .i64 4)),(.t 14)],none⟩])
 (.seq (.ops [⟨(some 16),.fieldAddr 1 (.t 1),none⟩,
 ⟨(some 17),.load none (.t 16),none⟩,
 ⟨(some 18),.len false (.t 17),none⟩,
 ⟨(some 19),.conv .u64 (.t 18),none⟩,
 ⟨(some 20),.call k_octet_Pen_Size [(.t 4),(.t 19)],none⟩])
 (.seq (.seq (.ops [⟨(some 21),.fieldAddr 1 (.t 1),none⟩,
 ⟨(some 22),.load none (.t 21),none⟩,
 ⟨(some 23),.len false (.t 22),none⟩,
 ⟨(some 24),.mov (.c (.int .i64 0)),none⟩])
 (.block 0 (.loop (L_tx_Encode_0))))
 (R_tx_Encode_1))))))⟩
def L_tx_First_0 : C := .seq (.seq (.ops [⟨(some 6),.mov (.t 5),none⟩,
 ⟨(some 7),.mov (.t 0),none⟩,
 ⟨(some 8),.len false (.t 7),none⟩,
 ⟨(some 9),.bin .lss .no (.t 6) (.t 8),none⟩])
 (.cond (.t 9)
 (.skip)
 (.exit 0)))
 (.seq (.block 1 (.seq (.ops [⟨(some 13),.mov (.t 0),none⟩,
 ⟨(some 14),.mov (.t 5),none⟩,
 ⟨(some 15),.slcS 1 (.t 13) none (some (.t 14)) none,none⟩,
 ⟨(some 16),.call k_tx_read [(.t 15)],none⟩,
 ⟨(some 12),.mov (.t 16),none⟩,
 ⟨(some 17),.ext (.t 12) 0,none⟩,
 ⟨(some 18),.ext (.t 12) 1,none⟩,
 ⟨(some 19),.ext (.t 12) 2,none⟩,
 ⟨none,.store 4 (.t 2) (.t 17),none⟩,
 ⟨(some 3),.mov (.t 18),none⟩,
 ⟨(some 4),.mov (.t 19),none⟩])
 (.seq (.ops [⟨(some 20),.mov (.t 4),none⟩,
 ⟨(some 21),.bin .eql .no (.t 20) (.c (.int .i64 0)),none⟩])
 (.cond (.t 21)
 (.seq (.ops [⟨(some 22),.load (some 4) (.t 2),none⟩,
 ⟨(some 23),.mov (.t 3),none⟩,
 ⟨(some 24),.mov (.t 4),none⟩,
 ⟨none,.store 4 (.t 2) (.t 22),none⟩,
 ⟨(some 3),.mov (.t 23),none⟩,
 ⟨(some 4),.mov (.t 24),none⟩])
 (.ret))
 (.skip)))))
 (.ops [⟨(some 10),.mov (.t 5),none⟩,
 ⟨(some 11),.bin .mul .no (.t 10) (.c (.int .i64 2)),none⟩,
 ⟨(some 5),.mov (.t 11),none⟩]))
def R_tx_First_0 : C := .seq (.ops [⟨(some 25),.mov (.t 0),none⟩,
 ⟨(some 26),.call k_tx_read [(.t 25)],none⟩,
 ⟨(some 27),.ext (.t 26) 0,none⟩,
 ⟨(some 28),.ext (.t 26) 1,none⟩,
 ⟨(some 29),.ext (.t 26) 2,none⟩,
 ⟨none,.store 4 (.t 2) (.t 27),none⟩,
 ⟨(some 3),.mov (.t 28),none⟩,
 ⟨(some 4),.mov (.t 29),none⟩])
 (.ret)
/-- purser/tx.First -/
def f_tx_First : Fn := ⟨30,[.cell 2 (some 4),.tmp 3,.tmp 4],
 .seq (.ops [⟨(some 2),.alloc [(.int .u32 0),(.slice none 0 (some 0) 0),(.slice none 0 (some 0) 0),(.int .u32 0)],none⟩,
 ⟨(some 3),.mov (.c (.int .i64 0)),none⟩,
 ⟨(some 4),.mov (.c (.int .i64 0)),none⟩])
 (.seq (.seq (.ops [⟨(some 5),.mov (.c (.int .i64 512)),none⟩])
 (.block 0 (.loop (L_tx_First_0))))
 (R_tx_First_0))⟩
/-- purser/tx.Decode -/
def f_tx_Decode : Fn := ⟨23,[.cell 2 (some 4),.tmp 3],
 .seq (.ops [⟨(some 2),.alloc [(.int .u32 0),(.slice none 0 (some 0) 0),(.slice none 0 (some 0) 0),(.int .u32 0)],none⟩,
 ⟨(some 3),.mov (.c (.int .i64 0)),none⟩])
 (.seq (.ops [⟨(some 8),.mov (.t 0),none⟩,
 ⟨(some 9),.call k_tx_First [(.t 8)],none⟩,
 ⟨(some 7),.mov (.t 9),none⟩,
 ⟨(some 10),.ext (.t 7) 0,none⟩,
 ⟨(some 11),.ext (.t 7) 1,none⟩,
 ⟨(some 12),.ext (.t 7) 2,none⟩,
 ⟨(some 4),.alloc [(.int .u32 0),(.slice none 0 (some 0) 0),(.slice none 0 (some 0) 0),(.int .u32 0)],none⟩,
 ⟨none,.store 4 (.t 4) (.t 10),none⟩,
 ⟨(some 5),.mov (.t 11),none⟩,
 ⟨(some 6),.mov (.t 12),none⟩])
 (.seq (.seq (.ops [⟨(some 13),.mov (.t 6),none⟩,
 ⟨(some 14),.bin .neq .no (.t 13) (.c (.int .i64 0)),none⟩,
 ⟨(some 15),.mov (.t 14),none⟩,
 ⟨(some 16),.mov (.t 5),(some (15,false))⟩,
 ⟨(some 17),.mov (.t 0),(some (15,false))⟩,
 ⟨(some 18),.len false (.t 17),(some (15,false))⟩,
 ⟨(some 19),.bin .lss .no (.t 16) (.t 18),(some (15,false))⟩,
 ⟨(some 20),.pick (.t 15) (.c (.bool true)) (.t 19),none⟩])
 (.cond (.t 20)
 (.seq (.ops [⟨(some 21),.build [(.int .u32 0),(.slice none 0 (some 0) 0),(.slice none 0 (some 0) 0),(.int .u32 0)] [],none⟩,
 ⟨none,.store 4 (.t 2) (.t 21),none⟩,
 ⟨(some 3),.mov (.c (.int .i64 60)),none⟩])
 (.ret))
 (.skip)))
 (.seq (.ops [⟨(some 22),.load (some 4) (.t 4),none⟩,
 ⟨none,.store 4 (.t 2) (.t 22),none⟩,
 ⟨(some 3),.mov (.c (.int .i64 0)),none⟩])
 (.ret))))⟩
/-- purser/block.DecodeHeader -/
def f_block_DecodeHeader : Fn := ⟨24,[.cell 2 (some 68),.tmp 3],
 .seq (.ops [⟨(some 2),.alloc [(.int .u32 0),(.int .u8 0),(.int .u8 0),(.int .u8 0),(.int .u8 0),(.int .u8 0),(.int .u8 0),(.int .u8 0),(.int .u8 0),(.int .u8 0),(.int .u8 0),(.int .u8 0),(.int .u8 0),(.int .u8 0),(.int .u8 0),(.int .u8 0),(.int .u8 0),(.int .u8 0),(.int .u8 0),(.int .u8 0),(.int .u8 0),(.int .u8 0),(.int .u8 0),(.int .u8 0),(.int .u8 0),(.int .u8 0),(.int .u8 0),(.int .u8 0),(.int .u8 0),(.int .u8 0),(.int .u8 0),(.int .u8 0),(.int .u8 0),(.int .u8 0),(.int .u8 0),(.int .u8 0),(.int .u8 0),(.int .u8 0),(.int .u8 0),(.int .u8 0),(.int .u8 0),(.int .u8 0),(.int .u8 0),(.int .u8 0),(.int .u8 0),(.int .u8 0),(.int .u8 0),(.int .u8 0),(.int .u8 0),(.int .u8 0),(.int .u8 0),(.int .u8 0),(.int .u8 0),(.int .u8 0),(.int .u8 0),(.int .u8 0),(.int .u8 0),(.int .u8 0),(.int .u8 0),(.int .u8 0),(.int .u8 0),(.int .u8 0),(.int .u8 0),(.int .u8 0),(.int .u8 0),(.int .u32 0),(.int .u32 0),(.int .u32 0)],none⟩,
 ⟨(some 3),.mov (.c (.int .i64 0)),none⟩])
 (.seq (.seq (.ops [⟨(some 5),.mov (.t 0),none⟩,
 ⟨(some 6),.len false (.t 5),none⟩,
 ⟨(some 7),.bin .neq .no (.t 6) (.c (.int .i64 80)),none⟩])
 (.cond (.t 7)
 (.seq (.ops [⟨(some 8),.build [(.int .u32 0),(.int .u8 0),(.int .u8 0),(.int .u8 0),(.int .u8 0),(.int .u8 0),(.int .u8 0),(.int .u8 0),(.int .u8 0),(.int .u8 0),(.int .u8 0),(.int .u8 0),(.int .u8 0),(.int .u8 0),(.int .u8 0),(.int .u8 0),(.int .u8 0),(.int .u8 0),(.int .u8 0),(.int .u8 0),(.int .u8 0),(.int .u8 0),(.int .u8 0),(.int .u8 0),(.int .u8 0),(.int .u8 0),(.int .u8 0),(.int .u8 0),(.int .u8 0),(.int .u8 0),(.int .u8 0),(.int .u8 0),(.int .u8 0),(.int .u8 0),(.int .u8 0),(.int .u8 0),(.int .u8 0),(.int .u8 0),(.int .u8 0),(.int .u8 0),(.int .u8 0),(.int .u8 0),(.int .u8 0),(.int .u8 0),(.int .u8 0),(.int .u8 0),(.int .u8 0),(.int .u8 0),(.int .u8 0),(.int .u8 0),(.int .u8 0),(.int .u8 0),(.int .u8 0),(.int .u8 0),(.int .u8 0),(.int .u8 0),(.int .u8 0),(.int .u8 0),(.int .u8 0),(.int .u8 0),(.int .u8 0),(.int .u8 0),(.int .u8 0),(.int .u8 0),(.int .u8 0),(.int .u32 0),(.int .u32 0),(.int .u32 0)] [],none⟩,
 ⟨none,.store 68 (.t 2) (.t 8),none⟩,
 ⟨(some 3),.mov (.c (.int .i64 70)),none⟩])
 (.ret))
 (.skip)))
 (.seq (.ops [⟨(some 9),.mov (.t 0),none⟩,
 ⟨(some 10),.call k_octet_Look [(.t 9)],none⟩,
 ⟨(some 4),.mov (.t 10),none⟩])
 (.seq (.ops [⟨(some 11),.mov (.t 4),none⟩,
 ⟨(some 12),.call k_block_word [(.t 11)],none⟩,
 ⟨(some 13),.mov (.t 4),none⟩,
 ⟨(some 14),.call k_block_hash [(.t 13)],none⟩,
 ⟨(some 15),.mov (.t 4),none⟩,
 ⟨(some 16),.call k_block_hash [(.t 15)],none⟩,
 ⟨(some 17),.mov (.t 4),none⟩,
 ⟨(some 18),.call k_block_word [(.t 17)],none⟩,
 ⟨(some 19),.mov (.t 4),none⟩,
 ⟨(some 20),.call k_block_word [(.t 19)],none⟩,
 ⟨(some 21),.mov (.t 4),none⟩,
 ⟨(some 22),.call k_block_word [(.t 21)],none⟩,
 ⟨(some 23),.build [(.int .u32 0),(.int .u8 0),(.int .u8 0),(.int .u8 0),(.int .u8 0),(.int .u8 0),(.int .u8 0),(.int .u8 0),(.int .u8 0),(.int .u8 0),(.int .u8 0),(.int .u8 0),(.int .u8 0),(.int .u8 0),(.int .u8 0),(.int .u8 0),(.int .u8 0),(.int .u8 0),(.int .u8 0),(.int .u8 0),(.int .u8 0),(.int .u8 0),(.int .u8 0),(.int .u8 0),(.int .u8 0),(.int .u8 0),(.int .u8 0),(.int .u8 0),(.int .u8 0),(.int .u8 0),(.int .u8 0),(.int .u8 0),(.int .u8 0),(.int .u8 0),(.int .u8 0),(.int .u8 0),(.int .u8 0),(.int .u8 0),(.int .u8 0),(.int .u8 0),(.int .u8 0),(.int .u8 0),(.int .u8 0),(.int .u8 0),(.int .u8 0),(.int .u8 0),(.int .u8 0),(.int .u8 0),(.int .u8 0),(.int .u8 0),(.int .u8 0),(.int .u8 0),(.int .u8 0),(.int .u8 0),(.int .u8 0),(.int .u8 0),(.int .u8 0),(.int .u8 0),(.int .u8 0),(.int .u8 0),(.int .u8 0),(.int .u8 0),(.int .u8 0),(.int .u8 0),(.int .u8 0),(.int .u32 0),(.int .u32 0),(.int .u32 0)] [(0,1,(.t 12)),(1,32,(.t 14)),(33,32,(.t 16)),(65,1,(.t 18)),(66,1,(.t 20)),(67,1,(.t 22))],none⟩,
 ⟨none,.store 68 (.t 2) (.t 23),none⟩,
 ⟨(some 3),.mov (.c (.int .i64 0)),none⟩])
 (.ret))))⟩
def L_block_Read_0 : C := .seq (.ops [⟨(some 13),.bin .lss .no (.t 12) (.c (.int .i64 32)),none⟩])
 (.seq (.cond (.t 13)
 (.skip)
 (.exit 0))
 (.seq (.block 1 (.seq (.ops [⟨(some 14),.mov (.t 12),none⟩,
 ⟨(some 5),.mov (.t 14),none⟩])
 (.seq (.dops 0 [] [(⟨(some 15),.mov (.t 0),none⟩,.L),
 (⟨(some 16),.mov (.t 5),none⟩,.L),
 (⟨(some 17),.bin .mul .no (.c (.int .i64 2)) (.t 16),none⟩,.L),
 (⟨(some 18),.idxStr (.t 15) (.t 17),none⟩,.L),
 (⟨(some 19),.call k_block_valueOf [(.t 18)],none⟩,.B []),
 (⟨(some 20),.mov (.t 0),none⟩,.L),
 (⟨(some 21),.mov (.t 5),none⟩,.L),
 (⟨(some 22),.bin .mul .no (.c (.int .i64 2)) (.t 21),none⟩,.L),
 (⟨(some 23),.bin .add .no (.t 22) (.c (.int .i64 1)),none⟩,.L),
 (⟨(some 24),.idxStr (.t 20) (.t 23),none⟩,.L),
 (⟨(some 25),.call k_block_valueOf [(.t 24)],none⟩,.B []),
 (⟨(some 6),.mov (.t 19),none⟩,.L),
 (⟨(some 7),.mov (.t 25),none⟩,.L)])
 (.seq (.seq (.ops [⟨(some 26),.mov (.t 6),none⟩,
 ⟨(some 27),.bin .lss .no (.t 26) (.c (.int .i64 0)),none⟩,
 ⟨(some 28),.mov (.t 27),none⟩,
 ⟨(some 29),.mov (.t 7),(some (28,false))⟩,
 ⟨(some 30),.bin .lss .no (.t 29) (.c (.int .i64 0)),(some (28,false))⟩,
 ⟨(some 31),.pick (.t 28) (.c (.bool true)) (.t 30),none⟩])
 (.cond (.t 31)
 (.seq (.ops [⟨(some 32),.build [(.int .u8 0),(.int .u8 0),(.int .u8 0),(.int .u8 0),(.int .u8 0),(.int .u8 0),(.int .u8 0),(.int .u8 0),(.int .u8 0),(.int .u8 0),(.int .u8 0),(.int .u8 0),(.int .u8 0),(.int .u8 0),(.int .u8 0),(.int .u8 0),(.int .u8 0),(.int .u8 0),(.int .u8 0),(.int .u8 0),(.int .u8 0),(.int .u8 0),(.int .u8 0),(.int .u8 0),(.int .u8 0),(.int .u8 0),(.int .u8 0),(.int .u8 0),(.int .u8 0),(.int .u8 0),(.int .u8 0),(.int .u8 0)] [],none⟩,
 ⟨none,.store 32 (.t 2) (.t 32),none⟩,
 ⟨(some 3),.mov (.c (.int .i64 70)),none⟩])
 (.ret))
 (.skip)))
 (.ops [⟨(some 33),.mov (.t 5),none⟩,
 ⟨(some 34),.mov (.t 6),none⟩,
 ⟨(some 35),.bin .shl .no (.t 34) (.c (.int .u64 4)),none⟩,
 ⟨(some 36),.mov (.t 7),none⟩,
 ⟨(some 37),.bin .or .no (.t 35) (.t 36),none⟩,
 ⟨(some 38),.conv .u8 (.t 37),none⟩,
 ⟨(some 39),.idxAddrA 32 1 (.t 4) (.t 33),none⟩,
 ⟨none,.store 1 (.t 39) (.t 38),none⟩])))))
 (.ops [⟨(some 40),.bin .add .no (.t 12) (.c (.int .i64 1)),none⟩,
 ⟨(some 12),.mov (.t 40),none⟩])))
def R_block_Read_0 : C := .seq (.ops [⟨(some 41),.load (some 32) (.t 4),none⟩,
 ⟨(some 42),.call k_block_reversed [(.t 41)],none⟩,
 ⟨none,.store 32 (.t 2) (.t 42),none⟩,
 ⟨(some 3),.mov (.c (.int .i64 0)),none⟩])
 (.ret)
/-- purser/block.Read -/
def f_block_Read : Fn := ⟨43,[.cell 2 (some 32),.tmp 3],
 .seq (.ops [⟨(some 2),.alloc [(.int .u8 0),(.int .u8 0),(.int .u8 0),(.int .u8 0),(.int .u8 0),(.int .u8 0),(.int .u8 0),(.int .u8 0),(.int .u8 0),(.int .u8 0),(.int .u8 0),(.int .u8 0),(.int .u8 0),(.int .u8 0),(.int .u8 0),(.int .u8 0),(.int .u8 0),(.int .u8 0),(.int .u8 0),(.int .u8 0),(.int .u8 0),(.int .u8 0),(.int .u8 0),(.int .u8 0),(.int .u8 0),(.int .u8 0),(.int .u8 0),(.int .u8 0),(.int .u8 0),(.int .u8 0),(.int .u8 0),(.int .u8 0)],none⟩,
 ⟨(some 3),.mov (.c (.int .i64 0)),none⟩])
 (.seq (.seq (.ops [⟨(some 8),.mov (.t 0),none⟩,
 ⟨(some 9),.len true (.t 8),none⟩,
 ⟨(some 10),.bin .neq .no (.t 9) (.c (.int .i64 64)),none⟩])
 (.cond (.t 10)
 (.seq (.ops [⟨(some 11),.build [(.int .u8 0),(.int .u8 0),(.int .u8 0),(.int .u8 0),(.int .u8 0),(.int .u8 0),(.int .u8 0),(.int .u8 0),(.int .u8 0),(.int .u8 0),(.int .u8 0),(.int .u8 0),(.int .u8 0),(.int .u8 0),(.int .u8 0),(.int .u8 0),(.int .u8 0),(.int .u8 0),(.int .u8 0),(.int .u8 0),(.int .u8 0),(.int .u8 0),(.int .u8 0),(.int .u8 0),(.int .u8 0),(.int .u8 0),(.int .u8 0),(.int .u8 0),(.int .u8 0),(.int .u8 0),(.int .u8 0),(.int .u8 0)] [],none⟩,
 ⟨none,.store 32 (.t 2) (.t 11),none⟩,
 ⟨(some 3),.mov (.c (.int .i64 70)),none⟩])
 (.ret))
 (.skip)))
 (.seq (.ops [⟨(some 4),.alloc [(.int .u8 0),(.int .u8 0),(.int .u8 0),(.int .u8 0),(.int .u8 0),(.int .u8 0),(.int .u8 0),(.int .u8 0),(.int .u8 0),(.int .u8 0),(.int .u8 0),(.int .u8 0),(.int .u8 0),(.int .u8 0),(.int .u8 0),(.int .u8 0),(.int .u8 0),(.int .u8 0),(.int .u8 0),(.int .u8 0),(.int .u8 0),(.int .u8 0),(.int .u8 0),(.int .u8 0),(.int .u8 0),(.int .u8 0),(.int .u8 0),(.int .u8 0),(.int .u8 0),(.int .u8 0),(.int .u8 0),(.int .u8 0)],none⟩])
 (.seq (.seq (.ops [⟨(some 12),.mov (.c (.int .i64 0)),none⟩])
 (.block 0 (.loop (L_block_Read_0))))
 (R_block_Read_0))))⟩
/-- purser/block.EncodeHeader -/
def f_block_EncodeHeader : Fn := ⟨33,[.tmp 2],
 .seq (.ops [⟨(some 1),.box (.t 0),none⟩,
 ⟨(some 2),.mov (.c (.slice none 0 (some 0) 0)),none⟩])
 (.seq (.ops [⟨(some 3),.alloc [(.slice none 0 (some 0) 0)],none⟩])
 (.seq (.ops [⟨(some 5),.mkfn k_octet_Pen_Fixed [(.t 3)] [],none⟩,
 ⟨(some 4),.mov (.t 5),none⟩])
 (.seq (.ops [⟨(some 6),.mov (.t 4),none⟩,
 ⟨(some 7),.fieldAddr 0 (.t 1),none⟩,
 ⟨(some 8),.load none (.t 7),none⟩,
 ⟨(some 9),.conv .u64 (.t 8),none⟩,
 ⟨(some 10),.callv (.t 6) [(.c (.int .i64 4)),(.t 9)],none⟩])
 (.seq (.dops 1 [] [(⟨(some 11),.fieldAddr 1 (.t 1),none⟩,.L),
 (⟨(some 12),.slcA 32 1 (.t 11) none none none,none⟩,.R [] []),
 (⟨(some 13),.fieldAddr 33 (.t 1),none⟩,.L),
 (⟨(some 14),.slcA 32 1 (.t 13) none none none,none⟩,.R [] []),
 (⟨(some 15),.buildS [(.slice none 0 (some 0) 0),(.slice none 0 (some 0) 0)] 2 1 [(0,1,(.t 12)),(1,1,(.t 14))],none⟩,.Al 0),
 (⟨(some 16),.call k_octet_Pen_Raw [(.t 3),(.t 15)],none⟩,.B [0])])
 (.seq (.ops [⟨(some 17),.mov (.t 4),none⟩,
 ⟨(some 18),.fieldAddr 65 (.t 1),none⟩,
 ⟨(some 19),.load none (.t 18),none⟩,
 ⟨(some 20),.conv .u64 (.t 19),none⟩,
 ⟨(some 21),.callv (.t 17) [(.c (.int .i64 4)),(.t 20)],none⟩])
 (.seq (.ops [⟨(some 22),.mov (.t 4),none⟩,
 ⟨(some 23),.fieldAddr 66 (.t 1),none⟩,
 ⟨(some 24),.load none (.t 23),none⟩,
 ⟨(some 25),.conv .u64 (.t 24),none⟩,
 ⟨(some 26),.callv (.t 22) [(.c (.int .i64 4)),(.t 25)],none⟩])
 (.seq (.ops [⟨(some 27),.mov (.t 4),none⟩,
 ⟨(some 28),.fieldAddr 67 (.t 1),none⟩,
 ⟨(some 29),.load none (.t 28),none⟩,
 ⟨(some 30),.conv .u64 (.t 29),none⟩,
 ⟨(some 31),.callv (.t 27) [(.c (.int .i64 4)),(.t 30)],none⟩])
 (.seq (.ops [⟨(some 32),.call k_octet_Pen_All [(.t 3)],none⟩,
 ⟨(some 2),.mov (.t 32),none⟩])
 (.ret)))))))))⟩
def L_block_Show_0 : C := .seq (.ops [⟨(some 10),.bin .lss .no (.t 9) (.c (.int .i64 32)),none⟩])
 (.seq (.cond (.t 10)
 (.skip)
 (.exit 0))
 (.seq (.block 1 (.seq (.ops [⟨(some 11),.idxArr 32 1 false (.t 8) (.t 9),none⟩,
 ⟨(some 5),.mov (.t 11),none⟩])
 (.dops 1 [] [(⟨(some 12),.mov (.t 3),none⟩,.L),
 (⟨(some 13),.mov (.t 5),none⟩,.L),
 (⟨(some 14),.bin .shr .no (.t 13) (.c (.int .u64 4)),none⟩,.L),
 (⟨(some 15),.idxStr (.c (.str [48,49,50,51,52,53,54,55,56,57,97,98,99,100,101,102])) (.t 14),none⟩,.L),
 (⟨(some 16),.mov (.t 5),none⟩,.L),
 (⟨(some 17),.bin .and .no (.t 16) (.c (.int .u8 15)),none⟩,.L),
 (⟨(some 18),.idxStr (.c (.str [48,49,50,51,52,53,54,55,56,57,97,98,99,100,101,102])) (.t 17),none⟩,.L),
 (⟨(some 19),.buildS [(.int .u8 0),(.int .u8 0)] 2 1 [(0,1,(.t 15)),(1,1,(.t 18))],none⟩,.Al 0),
 (⟨(some 20),.append 1 1 (.t 12) (.t 19),none⟩,.B [0]),
 (⟨(some 3),.mov (.t 20),none⟩,.L)])))
 (.ops [⟨(some 21),.bin .add .no (.t 9) (.c (.int .i64 1)),none⟩,
 ⟨(some 9),.mov (.t 21),none⟩])))
def R_block_Show_0 : C := .seq (.ops [⟨(some 22),.mov (.t 3),none⟩,
 ⟨(some 23),.b2s (.t 22),none⟩,
 ⟨(some 2),.mov (.t 23),none⟩])
 (.ret)
/-- purser/block.Show -/
def f_block_Show : Fn := ⟨24,[.tmp 2],
 .seq (.ops [⟨(some 1),.box (.t 0),none⟩,
 ⟨(some 2),.mov (.c (.str [])),none⟩])
 (.seq (.ops [⟨(some 6),.mkslice [(.int .u8 0)] 1 (.c (.int .i64 0)) (.c (.int .i64 64)),none⟩,
 ⟨(some 3),.mov (.t 6),none⟩])
 (.seq (.seq (.ops [⟨(some 7),.load (some 32) (.t 1),none⟩,
 ⟨(some 8),.call k_block_reversed [(.t 7)],none⟩,
 ⟨(some 9),.mov (.c (.int .i64 0)),none⟩])
 (.block 0 (.loop (L_block_Show_0))))
 (R_block_Show_0)))⟩
def L_purserref07_Great_0 : C := .seq (.seq (.ops [⟨(some 8),.mov (.t 3),none⟩,
 ⟨(some 9),.fieldAddr 68 (.t 1),none⟩,
 ⟨(some 10),.load none (.t 9),none⟩,
 ⟨(some 11),.len false (.t 10),none⟩,
 ⟨(some 12),.bin .lss .no (.t 8) (.t 11),none⟩])
 (.cond (.t 12)
 (.skip)
 (.exit 0)))
 (.seq (.block 1 (.seq (.ops [⟨(some 15),.fieldAddr 68 (.t 1),none⟩,
 ⟨(some 16),.load none (.t 15),none⟩,
 ⟨(some 17),.mov (.t 3),none⟩,
 ⟨(some 18),.idxAddrS 4 (.t 16) (.t 17),none⟩,
 ⟨(some 19),.load (some 4) (.t 18),none⟩,
 ⟨(some 20),.call k_purserref06_Great [(.t 19)],none⟩,
 ⟨(some 21),.bin .gtr .no (.t 20) (.c (.int .i64 0)),none⟩])
 (.cond (.t 21)
 (.seq (.ops [⟨(some 2),.mov (.c (.int .i64 1)),none⟩])
 (.ret))
 (.skip))))
 (.ops [⟨(some 13),.mov (.t 3),none⟩,
 ⟨(some 14),.bin .add .no (.t 13) (.c (.int .i64 1)),none⟩,
 ⟨(some 3),.mov (.t 14),none⟩]))
def R_purserref07_Great_0 : C := .seq (.ops [⟨(some 2),.mov (.c (.int .i64 0)),none⟩])
 (.ret)
/-- purser/purserref07.Great -/
def f_purserref07_Great : Fn := ⟨22,[.tmp 2],
 .seq (.ops [⟨(some 1),.box (.t 0),none⟩,
 ⟨(some 2),.mov (.c (.int .i64 0)),none⟩])
 (.seq (.seq (.ops [⟨(some 4),.fieldAddr 68 (.t 1),none⟩,
 ⟨(some 5),.load none (.t 4),none⟩,
 ⟨(some 6),.len false (.t 5),none⟩,
 ⟨(some 7),.bin .gtr .no (.t 6) (.c (.int .i64 30)),none⟩])
 (.cond (.t 7)
 (.seq (.ops [⟨(some 2),.mov (.c (.int .i64 1)),none⟩])
 (.ret))
 (.skip)))
 (.seq (.seq (.ops [⟨(some 3),.mov (.c (.int .i64 0)),none⟩])
 (.block 0 (.loop (L_purserref07_Great_0))))
 (R_purserref07_Great_0)))⟩
def L_block_Encode_0 : C := .seq (.ops [⟨(some 23),.bin .lss .no (.t 22) (.t 21),none⟩])
 (.seq (.cond (.t 23)
 (.skip)
 (.exit 0))
 (.seq (.block 1 (.seq (.ops [⟨(some 24),.idxAddrS 4 (.t 20) (.t 22),none⟩,
 ⟨(some 25),.load (some 4) (.t 24),none⟩,
 ⟨(some 6),.alloc [(.int .u32 0),(.slice none 0 (some 0) 0),(.slice none 0 (some 0) 0),(.int .u32 0)],none⟩,
 ⟨none,.store 4 (.t 6) (.t 25),none⟩])
 (.seq (.ops [⟨(some 27),.load (some 4) (.t 6),none⟩,
 ⟨(some 28),.call k_tx_Encode [(.t 27)],none⟩,
 ⟨(some 26),.mov (.t 28),none⟩,
 ⟨(some 29),.ext (.t 26) 0,none⟩,
 ⟨(some 30),.ext (.t 26) 1,none⟩,
 ⟨(some 7),.mov (.t 29),none⟩,
 ⟨(some 8),.mov (.t 30),none⟩])
 (.seq (.seq (.ops [⟨(some 31),.mov (.t 8),none⟩,
 ⟨(some 32),.bin .neq .no (.t 31) (.c (.int .i64 0)),none⟩])
 (.cond (.t 32)
 (.seq (.ops [⟨(some 2),.mov (.c (.slice none 0 (some 0) 0)),none⟩,
 ⟨(some 3),.mov (.c (.int .i64 70)),none⟩])
 (.ret))
 (.skip)))
 (.ops [⟨(some 33),.mov (.t 7),none⟩,
 ⟨(some 34),.buildS [(.slice none 0 (some 0) 0)] 1 1 [(0,1,(.t 33))],none⟩,
 ⟨(some 35),.call k_octet_Pen_Raw [(.t 4),(.t 34)],none⟩])))))
 (.ops [⟨(some 36),.bin .add .no (.t 22) (.c (.int .i64 1)),none⟩,
 ⟨(some 22),.mov (.t 36),none⟩])))
def R_block_Encode_0 : C := .seq (.ops [⟨(some 37),.call k_octet_Pen_All [(.t 4)],none⟩,
 ⟨(some 2),.mov (.t 37),none⟩,
 ⟨(some 3),.mov (.c (.int .i64 0)),none⟩])
 (.ret)
/-- purser/block.Encode -/
def f_block_Encode : Fn := ⟨38,[.tmp 2,.tmp 3],
 .seq (.ops [⟨(some 1),.box (.t 0),none⟩,
 ⟨(some 2),.mov (.c (.slice none 0 (some 0) 0)),none⟩,
 ⟨(some 3),.mov (.c (.int .i64 0)),none⟩])
 (.seq (.ops [⟨(some 4),.alloc [(.slice none 0 (some 0) 0)],none⟩])
 (.seq (.ops [⟨(some 9),.fieldAddr 0 (.t 1),none⟩,
 ⟨(some 10),.load (some 68) (.t 9),none⟩,
 ⟨(some 11),.call k_block_EncodeHeader [(.t 10)],none⟩,
 ⟨(some 12),.buildS [(.slice none 0 (some 0) 0)] 1 1 [(0,1,(.t 11))],none⟩,
 ⟨(some 13),.call k_octet_Pen_Raw [(.t 4),(.t 12)],none⟩])
 (.seq (.ops [⟨(some 14),.fieldAddr 68 (.t 1),none⟩,
 ⟨(some 15),.load none (.t 14),none⟩,
 ⟨(some 16),.len false (.t 15),none⟩,
 ⟨(some 17),.conv .u64 (.t 16),none⟩,
 ⟨(some 18),.call k_octet_Pen_Size [(.t 4),(.t 17)],none⟩])
 (.seq (.seq (.ops [⟨(some 19),.fieldAddr 68 (.t 1),none⟩,
 ⟨(some 20),.load none (.t 19),none⟩,
 ⟨(some 21),.len false (.t 20),none⟩,
 ⟨(some 22),.mov (.c (.int .i64 0)),none⟩])
 (.block 0 (.loop (L_block_Encode_0))))
 (R_block_Encode_0)))))⟩
def A_block_Decode_0 : C := .seq (.ops [⟨(some 11),.alloc [(.int .u32 0),(.slice none 0 (some 0) 0),(.slice none 0 (some 0) 0),(.int .u32 0)],none⟩,
 ⟨none,.store 4 (.t 11) (.t 45),none⟩])
 (.ops [⟨(some 12),.mov (.t 46),none⟩])
theorem u_A_block_Decode_0 (Q : Orc) (N n : Nat) (r : Option Nat) (st : St) : evC Q N n r A_block_Decode_0 st = evC Q N n r (.seq (.ops [⟨(some 11),.alloc [(.int .u32 0),(.slice none 0 (some 0) 0),(.slice none 0 (some 0) 0),(.int .u32 0)],none⟩,
 ⟨none,.store 4 (.t 11) (.t 45),none⟩])
 (.ops [⟨(some 12),.mov (.t 46),none⟩])) st := _root_.id rfl
def B_block_Decode_0 : C := .block 1 (.seq (.seq (.ops [⟨(some 47),.fieldAddr 68 (.t 10),none⟩,
 ⟨(some 48),.load none (.t 47),none⟩,
 ⟨(some 49),.len false (.t 48),none⟩,
 ⟨(some 50),.conv .u64 (.t 49),none⟩,
 ⟨(some 51),.load none (.t 7),none⟩,
 ⟨(some 52),.bin .eql .no (.t 50) (.t 51),none⟩])
 (.cond (.t 52)
 (.exit 0)
 (.skip)))
 (.seq (.ops [⟨(some 53),.fieldAddr 68 (.t 10),none⟩,
 ⟨(some 54),.load none (.t 53),none⟩,
 ⟨(some 55),.load (some 4) (.t 11),none⟩,
 ⟨(some 56),.buildS [(.int .u32 0),(.slice none 0 (some 0) 0),(.slice none 0 (some 0) 0),(.int .u32 0)] 1 4 [(0,4,(.t 55))],none⟩,
 ⟨(some 57),.append 4 64 (.t 54) (.t 56),none⟩,
 ⟨(some 58),.fieldAddr 68 (.t 10),none⟩,
 ⟨none,.store 1 (.t 58) (.t 57),none⟩])
 (.ops [⟨(some 59),.load none (.t 6),none⟩,
 ⟨(some 60),.mov (.t 12),none⟩,
 ⟨(some 61),.slcS 1 (.t 59) (some (.t 60)) none none,none⟩,
 ⟨none,.store 1 (.t 6) (.t 61),none⟩])))
theorem u_B_block_Decode_0 (Q : Orc) (N n : Nat) (r : Option Nat) (st : St) : evC Q N n r B_block_Decode_0 st = evC Q N n r (.block 1 (.seq (.seq (.ops [⟨(some 47),.fieldAddr 68 (.t 10),none⟩,
 ⟨(some 48),.load none (.t 47),none⟩,
 ⟨(some 49),.len false (.t 48),none⟩,
 ⟨(some 50),.conv .u64 (.t 49),none⟩,
 ⟨(some 51),.load none (.t 7),none⟩,
 ⟨(some 52),.bin .eql .no (.t 50) (.t 51),none⟩])
 (.cond (.t 52)
 (.exit 0)
 (.skip)))
 (.seq (.ops [⟨(some 53),.fieldAddr 68 (.t 10),none⟩,
 ⟨(some 54),.load none (.t 53),none⟩,
 ⟨(some 55),.load (some 4) (.t 11),none⟩,
 ⟨(some 56),.buildS [(.int .u32 0),(.slice none 0 (some 0) 0),(.slice none 0 (some 0) 0),(.int .u32 0)] 1 4 [(0,4,(.t 55))],none⟩,
 ⟨(some 57),.append 4 64 (.t 54) (.t 56),none⟩,
 ⟨(some 58),.fieldAddr 68 (.t 10),none⟩,
 ⟨none,.store 1 (.t 58) (.t 57),none⟩])
 (.ops [⟨(some 59),.load none (.t 6),none⟩,
 ⟨(some 60),.mov (.t 12),none⟩,
 ⟨(some 61),.slcS 1 (.t 59) (some (.t 60)) none none,none⟩,
 ⟨none,.store 1 (.t 6) (.t 61),none⟩])))) st := _root_.id rfl
def R_block_Decode_0 : C := .seq (.seq (.ops [⟨(some 62),.fieldAddr 68 (.t 10),none⟩,
 ⟨(some 63),.load none (.t 62),none⟩,
 ⟨(some 64),.len false (.t 63),none⟩,
 ⟨(some 65),.conv .u64 (.t 64),none⟩,
 ⟨(some 66),.load none (.t 7),none⟩,
 ⟨(some 67),.bin .neq .no (.t 65) (.t 66),none⟩,
 ⟨(some 68),.mov (.t 67),none⟩,
 ⟨(some 69),.load none (.t 6),(some (68,false))⟩,
 ⟨(some 70),.len false (.t 69),(some (68,false))⟩,
 ⟨(some 71),.bin .gtr .no (.t 70) (.c (.int .i64 0)),(some (68,false))⟩,
 ⟨(some 72),.pick (.t 68) (.c (.bool true)) (.t 71),none⟩])
 (.cond (.t 72)
 (.seq (.ops [⟨(some 73),.build [(.int .u32 0),(.int .u8 0),(.int .u8 0),(.int .u8 0),(.int .u8 0),(.int .u8 0),(.int .u8 0),(.int .u8 0),(.int .u8 0),(.int .u8 0),(.int .u8 0),(.int .u8 0),(.int .u8 0),(.int .u8 0),(.int .u8 0),(.int .u8 0),(.int .u8 0),(.int .u8 0),(.int .u8 0),(.int .u8 0),(.int .u8 0),(.int .u8 0),(.int .u8 0),(.int .u8 0),(.int .u8 0),(.int .u8 0),(.int .u8 0),(.int .u8 0),(.int .u8 0),(.int .u8 0),(.int .u8 0),(.int .u8 0),(.int .u8 0),(.int .u8 0),(.int .u8 0),(.int .u8 0),(.int .u8 0),(.int .u8 0),(.int .u8 0),(.int .u8 0),(.int .u8 0),(.int .u8 0),(.int .u8 0),(.int .u8 0),(.int .u8 0),(.int .u8 0),(.int .u8 0),(.int .u8 0),(.int .u8 0),(.int .u8 0),(.int .u8 0),(.int .u8 0),(.int .u8 0),(.int .u8 0),(.int .u8 0),(.int .u8 0),(.int .u8 0),(.int .u8 0),(.int .u8 0),(.int .u8 0),(.int .u8 0),(.int .u8 0),(.int .u8 0),(.int .u8 0),(.int .u8 0),(.int .u32 0),(.int .u32 0),(.int .u32 0),(.slice none 0 (some 0) 0)] [],none⟩,
 ⟨none,.store 69 (.t 2) (.t 73),none⟩,
 ⟨(some 3),.mov (.c (.int .i64 70)),none⟩])
 (.ret))
 (.skip)))
 (.seq (.ops [⟨(some 74),.load (some 69) (.t 10),none⟩,
 ⟨none,.store 69 (.t 2) (.t 74),none⟩,
 ⟨(some 3),.mov (.c (.int .i64 0)),none⟩])
 (.ret))
/-- purser/block.Decode -/
def f_block_Decode : Fn := ⟨75,[.cell 2 (some 69),.tmp 3],
 .seq (.ops [⟨(some 2),.alloc [(.int .u32 0),(.int .u8 0),(.int .u8 0),(.int .u8 0),(.int .u8 0),(.int .u8 0),(.int .u8 0),(.int .u8 0),(.int .u8 0),(.int .u8 0),(.int .u8 0),(.int .u8 0),(.int .u8 0),(.int .u8 0),(.int .u8 0),(.int .u8 0),(.int .u8 0),(.int .u8 0),(.int .u8 0),(.int .u8 0),(.int .u8 0),(.int .u8 0),(.int .u8 0),(.int .u8 0),(.int .u8 0),(.int .u8 0),(.int .u8 0),(.int .u8 0),(.int .u8 0),(.int .u8 0),(.int .u8 0),(.int .u8 0),(.int .u8 0),(.int .u8 0),(.int .u8 0),(.int .u8 0),(.int .u8 0),(.int .u8 0),(.int .u8 0),(.int .u8 0),(.int .u8 0),(.int .u8 0),(.int .u8 0),(.int .u8 0),(.int .u8 0),(.int .u8 0),(.int .u8 0),(.int .u8 0),(.int .u8 0),(.int .u8 0),(.int .u8 0),(.int .u8 0),(.int .u8 0),(.int .u8 0),(.int .u8 0),(.int .u8 0),(.int .u8 0),(.int .u8 0),(.int .u8 0),(.int .u8 0),(.int .u8 0),(.int .u8 0),(.int .u8 0),(.int .u8 0),(.int .u8 0),(.int .u32 0),(.int .u32 0),(.int .u32 0),(.slice none 0 (some 0) 0)],none⟩,
 ⟨(some 3),.mov (.c (.int .i64 0)),none⟩])
 (.scope (.seq (.seq (.ops [⟨(some 13),.mov (.t 0),none⟩,
 ⟨(some 14),.len false (.t 13),none⟩,
 ⟨(some 15),.bin .lss .no (.t 14) (.c (.int .i64 80)),none⟩])
 (.cond (.t 15)
 (.seq (.ops [⟨(some 16),.build [(.int .u32 0),(.int .u8 0),(.int .u8 0),(.int .u8 0),(.int .u8 0),(.int .u8 0),(.int .u8 0),(.int .u8 0),(.int .u8 0),(.int .u8 0),(.int .u8 0),(.int .u8 0),(.int .u8 0),(.int .u8 0),(.int .u8 0),(.int .u8 0),(.int .u8 0),(.int .u8 0),(.int .u8 0),(.int .u8 0),(.int .u8 0),(.int .u8 0),(.int .u8 0),(.int .u8 0),(.int .u8 0),(.int .u8 0),(.int .u8 0),(.int .u8 0),(.int .u8 0),(.int .u8 0),(.int .u8 0),(.int .u8 0),(.int .u8 0),(.int .u8 0),(.int .u8 0),(.int .u8 0),(.int .u8 0),(.int .u8 0),(.int .u8 0),(.int .u8 0),(.int .u8 0),(.int .u8 0),(.int .u8 0),(.int .u8 0),(.int .u8 0),(.int .u8 0),(.int .u8 0),(.int .u8 0),(.int .u8 0),(.int .u8 0),(.int .u8 0),(.int .u8 0),(.int .u8 0),(.int .u8 0),(.int .u8 0),(.int .u8 0),(.int .u8 0),(.int .u8 0),(.int .u8 0),(.int .u8 0),(.int .u8 0),(.int .u8 0),(.int .u8 0),(.int .u8 0),(.int .u8 0),(.int .u32 0),(.int .u32 0),(.int .u32 0),(.slice none 0 (some 0) 0)] [],none⟩,
 ⟨none,.store 69 (.t 2) (.t 16),none⟩,
 ⟨(some 3),.mov (.c (.int .i64 70)),none⟩])
 (.ret))
 (.skip)))
 (.seq (.ops [⟨(some 18),.mov (.t 0),none⟩,
 ⟨(some 19),.slcS 1 (.t 18) none (some (.c (.int .i64 80))) none,none⟩,
 ⟨(some 20),.call k_block_DecodeHeader [(.t 19)],none⟩,
 ⟨(some 17),.mov (.t 20),none⟩,
 ⟨(some 21),.ext (.t 17) 0,none⟩,
 ⟨(some 22),.ext (.t 17) 1,none⟩,
 ⟨(some 4),.alloc [(.int .u32 0),(.int .u8 0),(.int .u8 0),(.int .u8 0),(.int .u8 0),(.int .u8 0),(.int .u8 0),(.int .u8 0),(.int .u8 0),(.int .u8 0),(.int .u8 0),(.int .u8 0),(.int .u8 0),(.int .u8 0),(.int .u8 0),(.int .u8 0),(.int .u8 0),(.int .u8 0),(.int .u8 0),(.int .u8 0),(.int .u8 0),(.int .u8 0),(.int .u8 0),(.int .u8 0),(.int .u8 0),(.int .u8 0),(.int .u8 0),(.int .u8 0),(.int .u8 0),(.int .u8 0),(.int .u8 0),(.int .u8 0),(.int .u8 0),(.int .u8 0),(.int .u8 0),(.int .u8 0),(.int .u8 0),(.int .u8 0),(.int .u8 0),(.int .u8 0),(.int .u8 0),(.int .u8 0),(.int .u8 0),(.int .u8 0),(.int .u8 0),(.int .u8 0),(.int .u8 0),(.int .u8 0),(.int .u8 0),(.int .u8 0),(.int .u8 0),(.int .u8 0),(.int .u8 0),(.int .u8 0),(.int .u8 0),(.int .u8 0),(.int .u8 0),(.int .u8 0),(.int .u8 0),(.int .u8 0),(.int .u8 0),(.int .u8 0),(.int .u8 0),(.int .u8 0),(.int .u8 0),(.int .u32 0),(.int .u32 0),(.int .u32 0)],none⟩,
 ⟨none,.store 68 (.t 4) (.t 21),none⟩,
 ⟨(some 5),.mov (.t 22),none⟩])
 (.seq (.ops [⟨(some 23),.mov (.t 0),none⟩,
 ⟨(some 24),.slcS 1 (.t 23) (some (.c (.int .i64 80))) none none,none⟩,
 ⟨(some 6),.alloc [(.slice none 0 (some 0) 0)],none⟩,
 ⟨none,.store 1 (.t 6) (.t 24),none⟩])
 (.seq (.ops [⟨(some 26),.load none (.t 6),none⟩,
 ⟨(some 27),.call k_block_size [(.t 26)],none⟩,
 ⟨(some 25),.mov (.t 27),none⟩,
 ⟨(some 28),.ext (.t 25) 0,none⟩,
 ⟨(some 29),.ext (.t 25) 1,none⟩,
 ⟨(some 30),.ext (.t 25) 2,none⟩,
 ⟨(some 7),.alloc [(.int .u64 0)],none⟩,
 ⟨none,.store 1 (.t 7) (.t 28),none⟩,
 ⟨(some 8),.mov (.t 29),none⟩,
 ⟨(some 9),.mov (.t 30),none⟩])
 (.seq (.seq (.ops [⟨(some 31),.mov (.t 5),none⟩,
 ⟨(some 32),.bin .neq .no (.t 31) (.c (.int .i64 0)),none⟩,
 ⟨(some 33),.mov (.t 32),none⟩,
 ⟨(some 34),.mov (.t 9),(some (33,false))⟩,
 ⟨(some 35),.bin .neq .no (.t 34) (.c (.int .i64 0)),(some (33,false))⟩,
 ⟨(some 36),.pick (.t 33) (.c (.bool true)) (.t 35),none⟩])
 (.cond (.t 36)
 (.seq (.ops [⟨(some 37),.build [(.int .u32 0),(.int .u8 0),(.int .u8 0),(.int .u8 0),(.int .u8 0),(.int .u8 0),(.int .u8 0),(.int .u8 0),(.int .u8 0),(.int .u8 0),(.int .u8 0),(.int .u8 0),(.int .u8 0),(.int .u8 0),(.int .u8 0),(.int .u8 0),(.int .u8 0),(.int .u8 0),(.int .u8 0),(.int .u8 0),(.int .u8 0),(.int .u8 0),(.int .u8 0),(.int .u8 0),(.int .u8 0),(.int .u8 0),(.int .u8 0),(.int .u8 0),(.int .u8 0),(.int .u8 0),(.int .u8 0),(.int .u8 0),(.int .u8 0),(.int .u8 0),(.int .u8 0),(.int .u8 0),(.int .u8 0),(.int .u8 0),(.int .u8 0),(.int .u8 0),(.int .u8 0),(.int .u8 0),(.int .u8 0),(.int .u8 0),(.int .u8 0),(.int .u8 0),(.int .u8 0),(.int .u8 0),(.int .u8 0),(.int .u8 0),(.int .u8 0),(.int .u8 0),(.int .u8 0),(.int .u8 0),(.int .u8 0),(.int .u8 0),(.int .u8 0),(.int .u8 0),(.int .u8 0),(.int .u8 0),(.int .u8 0),(.int .u8 0),(.int .u8 0),(.int .u8 0),(.int .u8 0),(.int .u32 0),(.int .u32 0),(.int .u32 0),(.slice none 0 (some 0) 0)] [],none⟩,
 ⟨none,.store 69 (.t 2) (.t 37),none⟩,
 ⟨(some 3),.mov (.c (.int .i64 70)),none⟩])
 (.ret))
 (.skip)))
 (.seq (.ops [⟨(some 38),.load none (.t 6),none⟩,
 ⟨(some 39),.mov (.t 8),none⟩,
 ⟨(some 40),.slcS 1 (.t 38) (some (.t 39)) none none,none⟩,
 ⟨none,.store 1 (.t 6) (.t 40),none⟩])
 (.seq (.ops [⟨(some 41),.load (some 68) (.t 4),none⟩,
 ⟨(some 42),.build [(.int .u32 0),(.int .u8 0),(.int .u8 0),(.int .u8 0),(.int .u8 0),(.int .u8 0),(.int .u8 0),(.int .u8 0),(.int .u8 0),(.int .u8 0),(.int .u8 0),(.int .u8 0),(.int .u8 0),(.int .u8 0),(.int .u8 0),(.int .u8 0),(.int .u8 0),(.int .u8 0),(.int .u8 0),(.int .u8 0),(.int .u8 0),(.int .u8 0),(.int .u8 0),(.int .u8 0),(.int .u8 0),(.int .u8 0),(.int .u8 0),(.int .u8 0),(.int .u8 0),(.int .u8 0),(.int .u8 0),(.int .u8 0),(.int .u8 0),(.int .u8 0),(.int .u8 0),(.int .u8 0),(.int .u8 0),(.int .u8 0),(.int .u8 0),(.int .u8 0),(.int .u8 0),(.int .u8 0),(.int .u8 0),(.int .u8 0),(.int .u8 0),(.int .u8 0),(.int .u8 0),(.int .u8 0),(.int .u8 0),(.int .u8 0),(.int .u8 0),(.int .u8 0),(.int .u8 0),(.int .u8 0),(.int .u8 0),(.int .u8 0),(.int .u8 0),(.int .u8 0),(.int .u8 0),(.int .u8 0),(.int .u8 0),(.int .u8 0),(.int .u8 0),(.int .u8 0),(.int .u8 0),(.int .u32 0),(.int .u32 0),(.int .u32 0),(.slice none 0 (some 0) 0)] [(0,68,(.t 41))],none⟩,
 ⟨(some 10),.alloc [(.int .u32 0),(.int .u8 0),(.int .u8 0),(.int .u8 0),(.int .u8 0),(.int .u8 0),(.int .u8 0),(.int .u8 0),(.int .u8 0),(.int .u8 0),(.int .u8 0),(.int .u8 0),(.int .u8 0),(.int .u8 0),(.int .u8 0),(.int .u8 0),(.int .u8 0),(.int .u8 0),(.int .u8 0),(.int .u8 0),(.int .u8 0),(.int .u8 0),(.int .u8 0),(.int .u8 0),(.int .u8 0),(.int .u8 0),(.int .u8 0),(.int .u8 0),(.int .u8 0),(.int .u8 0),(.int .u8 0),(.int .u8 0),(.int .u8 0),(.int .u8 0),(.int .u8 0),(.int .u8 0),(.int .u8 0),(.int .u8 0),(.int .u8 0),(.int .u8 0),(.int .u8 0),(.int .u8 0),(.int .u8 0),(.int .u8 0),(.int .u8 0),(.int .u8 0),(.int .u8 0),(.int .u8 0),(.int .u8 0),(.int .u8 0),(.int .u8 0),(.int .u8 0),(.int .u8 0),(.int .u8 0),(.int .u8 0),(.int .u8 0),(.int .u8 0),(.int .u8 0),(.int .u8 0),(.int .u8 0),(.int .u8 0),(.int .u8 0),(.int .u8 0),(.int .u8 0),(.int .u8 0),(.int .u32 0),(.int .u32 0),(.int .u32 0),(.slice none 0 (some 0) 0)],none⟩,
 ⟨none,.store 69 (.t 10) (.t 42),none⟩])
 (.seq (.skip)
 (.seq (.seq (.ops [⟨(some 43),.load none (.t 6),none⟩,
 ⟨(some 44),.call k_block_txs [(.t 43)],none⟩])
 (.block 0 (.rangeF (.t 44) [45,46] (A_block_Decode_0)
 (B_block_Decode_0))))
 (R_block_Decode_0)))))))))))⟩
def L_purserref07_Same_0 : C := .seq (.seq (.ops [⟨(some 21),.mov (.t 5),none⟩,
 ⟨(some 22),.fieldAddr 68 (.t 2),none⟩,
 ⟨(some 23),.load none (.t 22),none⟩,
 ⟨(some 24),.len false (.t 23),none⟩,
 ⟨(some 25),.bin .lss .no (.t 21) (.t 24),none⟩])
 (.cond (.t 25)
 (.skip)
 (.exit 0)))
 (.seq (.block 1 (.seq (.dops 0 [] [(⟨(some 28),.fieldAddr 68 (.t 2),none⟩,.L),
 (⟨(some 29),.load none (.t 28),none⟩,.R [] []),
 (⟨(some 30),.mov (.t 5),none⟩,.L),
 (⟨(some 31),.idxAddrS 4 (.t 29) (.t 30),none⟩,.L),
 (⟨(some 32),.load (some 4) (.t 31),none⟩,.R [] []),
 (⟨(some 33),.fieldAddr 68 (.t 3),none⟩,.L),
 (⟨(some 34),.load none (.t 33),none⟩,.R [] []),
 (⟨(some 35),.mov (.t 5),none⟩,.L),
 (⟨(some 36),.idxAddrS 4 (.t 34) (.t 35),none⟩,.L),
 (⟨(some 37),.load (some 4) (.t 36),none⟩,.R [] []),
 (⟨(some 38),.call k_purserref06_Same [(.t 32),(.t 37)],none⟩,.B []),
 (⟨(some 6),.mov (.t 38),none⟩,.L)])
 (.seq (.ops [⟨(some 39),.mov (.t 6),none⟩,
 ⟨(some 40),.un .not (.t 39),none⟩])
 (.cond (.t 40)
 (.seq (.ops [⟨(some 4),.mov (.c (.bool false)),none⟩])
 (.ret))
 (.skip)))))
 (.ops [⟨(some 26),.mov (.t 5),none⟩,
 ⟨(some 27),.bin .add .no (.t 26) (.c (.int .i64 1)),none⟩,
 ⟨(some 5),.mov (.t 27),none⟩]))
def R_purserref07_Same_0 : C := .seq (.ops [⟨(some 4),.mov (.c (.bool true)),none⟩])
 (.ret)
/-- purser/purserref07.Same -/
def f_purserref07_Same : Fn := ⟨41,[.tmp 4],
 .seq (.ops [⟨(some 2),.box (.t 0),none⟩,
 ⟨(some 3),.box (.t 1),none⟩,
 ⟨(some 4),.mov (.c (.bool false)),none⟩])
 (.seq (.seq (.ops [⟨(some 7),.fieldAddr 0 (.t 2),none⟩,
 ⟨(some 8),.load (some 68) (.t 7),none⟩,
 ⟨(some 9),.fieldAddr 0 (.t 3),none⟩,
 ⟨(some 10),.load (some 68) (.t 9),none⟩,
 ⟨(some 11),.bin .neq (.flat [.i,.i,.i,.i,.i,.i,.i,.i,.i,.i,.i,.i,.i,.i,.i,.i,.i,.i,.i,.i,.i,.i,.i,.i,.i,.i,.i,.i,.i,.i,.i,.i,.i,.i,.i,.i,.i,.i,.i,.i,.i,.i,.i,.i,.i,.i,.i,.i,.i,.i,.i,.i,.i,.i,.i,.i,.i,.i,.i,.i,.i,.i,.i,.i,.i,.i,.i,.i]) (.t 8) (.t 10),none⟩,
 ⟨(some 12),.mov (.t 11),none⟩,
 ⟨(some 13),.fieldAddr 68 (.t 2),(some (12,false))⟩,
 ⟨(some 14),.load none (.t 13),(some (12,false))⟩,
 ⟨(some 15),.len false (.t 14),(some (12,false))⟩,
 ⟨(some 16),.fieldAddr 68 (.t 3),(some (12,false))⟩,
 ⟨(some 17),.load none (.t 16),(some (12,false))⟩,
 ⟨(some 18),.len false (.t 17),(some (12,false))⟩,
 ⟨(some 19),.bin .neq .no (.t 15) (.t 18),(some (12,false))⟩,
 ⟨(some 20),.pick (.t 12) (.c (.bool true)) (.t 19),none⟩])
 (.cond (.t 20)
 (.seq (.ops [⟨(some 4),.mov (.c (.bool false)),none⟩])
 (.ret))
 (.skip)))
 (.seq (.seq (.ops [⟨(some 5),.mov (.c (.int .i64 0)),none⟩])
 (.block 0 (.loop (L_purserref07_Same_0))))
 (R_purserref07_Same_0)))⟩
/-- purser/purserref01.Twin -/
def f_purserref01_Twin : Fn := ⟨7,[.tmp 2],
 .seq (.ops [⟨(some 2),.mov (.c (.slice none 0 (some 0) 0)),none⟩])
 (.seq (.ops [⟨(some 3),.mov (.c (.slice none 0 (some 0) 0)),none⟩])
 (.seq (.ops [⟨(some 4),.mov (.t 3),none⟩,
 ⟨(some 5),.mov (.t 0),none⟩,
 ⟨(some 6),.append 1 1 (.t 4) (.t 5),none⟩,
 ⟨(some 2),.mov (.t 6),none⟩])
 (.ret)))⟩
/-- (*purser/octet.Pen).Fixed -/
def f_octet_Pen_Fixed : Fn := ⟨20,[.tmp 6],
 .seq (.ops [⟨(some 6),.mov (.c (.int .i64 0)),none⟩])
 (.seq (.seq (.ops [⟨(some 7),.mov (.t 0),none⟩,
 ⟨(some 8),.bin .eql (.ref .p) (.t 7) (.c (.ptr none)),none⟩])
 (.cond (.t 8)
 (.seq (.ops [⟨(some 6),.mov (.c (.int .i64 1)),none⟩])
 (.ret))
 (.skip)))
 (.seq (.seq (.ops [⟨(some 9),.mov (.t 1),none⟩,
 ⟨(some 10),.call k_octet_sized [(.t 9)],none⟩,
 ⟨(some 11),.un .not (.t 10),none⟩])
 (.cond (.t 11)
 (.seq (.ops [⟨(some 6),.mov (.c (.int .i64 2)),none⟩])
 (.ret))
 (.skip)))
 (.seq (.seq (.ops [⟨(some 12),.mov (.t 2),none⟩,
 ⟨(some 13),.call k_octet_width [(.t 12)],none⟩,
 ⟨(some 14),.mov (.t 1),none⟩,
 ⟨(some 15),.bin .gtr .no (.t 13) (.t 14),none⟩])
 (.cond (.t 15)
 (.seq (.ops [⟨(some 6),.mov (.c (.int .i64 10)),none⟩])
 (.ret))
 (.skip)))
 (.seq (.ops [⟨(some 16),.mov (.t 0),none⟩,
 ⟨(some 17),.mov (.t 1),none⟩,
 ⟨(some 18),.mov (.t 2),none⟩,
 ⟨(some 19),.call k_octet_Pen_put [(.t 16),(.t 17),(.t 18)],none⟩])
 (.seq (.ops [⟨(some 6),.mov (.c (.int .i64 0)),none⟩])
 (.ret))))))⟩
def L_purserref01_Fixed_0 : C := .seq (.seq (.ops [⟨(some 30),.mov (.t 7),none⟩,
 ⟨(some 31),.mov (.t 0),none⟩,
 ⟨(some 32),.bin .lss .no (.t 30) (.t 31),none⟩])
 (.cond (.t 32)
 (.skip)
 (.exit 0)))
 (.seq (.block 1 (.ops [⟨(some 35),.mov (.t 6),none⟩,
 ⟨(some 36),.mov (.t 1),none⟩,
 ⟨(some 37),.mov (.t 7),none⟩,
 ⟨(some 38),.call k_purserref01_power [(.t 37)],none⟩,
 ⟨(some 39),.bin .quo .no (.t 36) (.t 38),none⟩,
 ⟨(some 40),.bin .rem .no (.t 39) (.c (.int .u64 256)),none⟩,
 ⟨(some 41),.conv .u8 (.t 40),none⟩,
 ⟨(some 42),.buildS [(.int .u8 0)] 1 1 [(0,1,(.t 41))],none⟩,
 ⟨(some 43),.append 1 1 (.t 35) (.t 42),none⟩,
 ⟨(some 6),.mov (.t 43),none⟩]))
 (.ops [⟨(some 33),.mov (.t 7),none⟩,
 ⟨(some 34),.bin .add .no (.t 33) (.c (.int .i64 1)),none⟩,
 ⟨(some 7),.mov (.t 34),none⟩]))
def R_purserref01_Fixed_0 : C := .seq (.ops [⟨(some 44),.mov (.t 6),none⟩,
 ⟨(some 4),.mov (.t 44),none⟩,
 ⟨(some 5),.mov (.c (.int .i64 0)),none⟩])
 (.ret)
/-- purser/purserref01.Fixed -/
def f_purserref01_Fixed : Fn := ⟨45,[.tmp 4,.tmp 5],
 .seq (.ops [⟨(some 4),.mov (.c (.slice none 0 (some 0) 0)),none⟩,
 ⟨(some 5),.mov (.c (.int .i64 0)),none⟩])
 (.seq (.seq (.ops [⟨(some 8),.mov (.t 0),none⟩,
 ⟨(some 9),.bin .neq .no (.t 8) (.c (.int .i64 1)),none⟩,
 ⟨(some 10),.mov (.t 9),none⟩,
 ⟨(some 11),.mov (.t 0),(some (10,true))⟩,
 ⟨(some 12),.bin .neq .no (.t 11) (.c (.int .i64 2)),(some (10,true))⟩,
 ⟨(some 13),.pick (.t 10) (.t 12) (.c (.bool false)),none⟩,
 ⟨(some 14),.mov (.t 13),none⟩,
 ⟨(some 15),.mov (.t 0),(some (14,true))⟩,
 ⟨(some 16),.bin .neq .no (.t 15) (.c (.int .i64 4)),(some (14,true))⟩,
 ⟨(some 17),.pick (.t 14) (.t 16) (.c (.bool false)),none⟩,
 ⟨(some 18),.mov (.t 17),none⟩,
 ⟨(some 19),.mov (.t 0),(some (18,true))⟩,
 ⟨(some 20),.bin .neq .no (.t 19) (.c (.int .i64 8)),(some (18,true))⟩,
 ⟨(some 21),.pick (.t 18) (.t 20) (.c (.bool false)),none⟩])
 (.cond (.t 21)
 (.seq (.ops [⟨(some 4),.mov (.c (.slice none 0 (some 0) 0)),none⟩,
 ⟨(some 5),.mov (.c (.int .i64 2)),none⟩])
 (.ret))
 (.skip)))
 (.seq (.seq (.ops [⟨(some 22),.mov (.t 0),none⟩,
 ⟨(some 23),.bin .lss .no (.t 22) (.c (.int .i64 8)),none⟩,
 ⟨(some 24),.mov (.t 23),none⟩,
 ⟨(some 25),.mov (.t 1),(some (24,true))⟩,
 ⟨(some 26),.mov (.t 0),(some (24,true))⟩,
 ⟨(some 27),.call k_purserref01_power [(.t 26)],(some (24,true))⟩,
 ⟨(some 28),.bin .geq .no (.t 25) (.t 27),(some (24,true))⟩,
 ⟨(some 29),.pick (.t 24) (.t 28) (.c (.bool false)),none⟩])
 (.cond (.t 29)
 (.seq (.ops [⟨(some 4),.mov (.c (.slice none 0 (some 0) 0)),none⟩,
 ⟨(some 5),.mov (.c (.int .i64 10)),none⟩])
 (.ret))
 (.skip)))
 (.seq (.ops [⟨(some 6),.mov (.c (.slice none 0 (some 0) 0)),none⟩])
 (.seq (.seq (.ops [⟨(some 7),.mov (.c (.int .i64 0)),none⟩])
 (.block 0 (.loop (L_purserref01_Fixed_0))))
 (R_purserref01_Fixed_0)))))⟩
/-- (*purser/octet.Pen).Size -/
def f_octet_Pen_Size : Fn := ⟨25,[.tmp 4],
 .seq (.ops [⟨(some 4),.mov (.c (.int .i64 0)),none⟩])
 (.seq (.seq (.ops [⟨(some 6),.mov (.t 0),none⟩,
 ⟨(some 7),.bin .eql (.ref .p) (.t 6) (.c (.ptr none)),none⟩])
 (.cond (.t 7)
 (.seq (.ops [⟨(some 4),.mov (.c (.int .i64 1)),none⟩])
 (.ret))
 (.skip)))
 (.seq (.ops [⟨(some 8),.mov (.t 1),none⟩,
 ⟨(some 9),.call k_octet_Compact [(.t 8)],none⟩,
 ⟨(some 10),.bin .sub .no (.t 9) (.c (.int .i64 1)),none⟩,
 ⟨(some 5),.mov (.t 10),none⟩])
 (.seq (.seq (.ops [⟨(some 11),.mov (.t 5),none⟩,
 ⟨(some 12),.bin .eql .no (.t 11) (.c (.int .i64 0)),none⟩])
 (.cond (.t 12)
 (.seq (.ops [⟨(some 13),.mov (.t 0),none⟩,
 ⟨(some 14),.mov (.t 1),none⟩,
 ⟨(some 15),.call k_octet_Pen_put [(.t 13),(.c (.int .i64 1)),(.t 14)],none⟩])
 (.seq (.ops [⟨(some 4),.mov (.c (.int .i64 0)),none⟩])
 (.ret)))
 (.skip)))
 (.seq (.ops [⟨(some 16),.mov (.t 0),none⟩,
 ⟨(some 17),.mov (.t 5),none⟩,
 ⟨(some 18),.call k_octet_mark [(.t 17)],none⟩,
 ⟨(some 19),.conv .u64 (.t 18),none⟩,
 ⟨(some 20),.call k_octet_Pen_put [(.t 16),(.c (.int .i64 1)),(.t 19)],none⟩])
 (.seq (.ops [⟨(some 21),.mov (.t 0),none⟩,
 ⟨(some 22),.mov (.t 5),none⟩,
 ⟨(some 23),.mov (.t 1),none⟩,
 ⟨(some 24),.call k_octet_Pen_put [(.t 21),(.t 22),(.t 23)],none⟩])
 (.seq (.ops [⟨(some 4),.mov (.c (.int .i64 0)),none⟩])
 (.ret)))))))⟩
/-- (*purser/octet.Pen).Bytes -/
def f_octet_Pen_Bytes : Fn := ⟨18,[.tmp 4],
 .seq (.ops [⟨(some 4),.mov (.c (.int .i64 0)),none⟩])
 (.seq (.seq (.ops [⟨(some 6),.mov (.t 0),none⟩,
 ⟨(some 7),.mov (.t 1),none⟩,
 ⟨(some 8),.len false (.t 7),none⟩,
 ⟨(some 9),.conv .u64 (.t 8),none⟩,
 ⟨(some 10),.call k_octet_Pen_Size [(.t 6),(.t 9)],none⟩,
 ⟨(some 5),.mov (.t 10),none⟩])
 (.seq (.ops [⟨(some 11),.mov (.t 5),none⟩,
 ⟨(some 12),.bin .neq .no (.t 11) (.c (.int .i64 0)),none⟩])
 (.cond (.t 12)
 (.seq (.ops [⟨(some 13),.mov (.t 5),none⟩,
 ⟨(some 4),.mov (.t 13),none⟩])
 (.ret))
 (.skip))))
 (.seq (.ops [⟨(some 14),.mov (.t 0),none⟩,
 ⟨(some 15),.mov (.t 1),none⟩,
 ⟨(some 16),.buildS [(.slice none 0 (some 0) 0)] 1 1 [(0,1,(.t 15))],none⟩,
 ⟨(some 17),.call k_octet_Pen_Raw [(.t 14),(.t 16)],none⟩,
 ⟨(some 4),.mov (.t 17),none⟩])
 (.ret)))⟩
/-- purser/purserref01.Bytes -/
def f_purserref01_Bytes : Fn := ⟨9,[.tmp 2],
 .seq (.ops [⟨(some 2),.mov (.c (.slice none 0 (some 0) 0)),none⟩])
 (.seq (.ops [⟨(some 3),.mov (.t 0),none⟩,
 ⟨(some 4),.len false (.t 3),none⟩,
 ⟨(some 5),.conv .u64 (.t 4),none⟩,
 ⟨(some 6),.call k_purserref01_Size [(.t 5)],none⟩,
 ⟨(some 7),.mov (.t 0),none⟩,
 ⟨(some 8),.append 1 1 (.t 6) (.t 7),none⟩,
 ⟨(some 2),.mov (.t 8),none⟩])
 (.ret))⟩
def L_octet_Pen_Raw_0 : C := .seq (.ops [⟨(some 12),.bin .lss .no (.t 11) (.t 10),none⟩])
 (.seq (.cond (.t 12)
 (.skip)
 (.exit 0))
 (.seq (.block 1 (.seq (.ops [⟨(some 13),.idxAddrS 1 (.t 9) (.t 11),none⟩,
 ⟨(some 14),.load none (.t 13),none⟩,
 ⟨(some 6),.mov (.t 14),none⟩])
 (.ops [⟨(some 15),.mov (.t 0),none⟩,
 ⟨(some 16),.mov (.t 0),none⟩,
 ⟨(some 17),.nilchk (.t 16),none⟩,
 ⟨(some 18),.fieldAddr 0 (.t 17),none⟩,
 ⟨(some 19),.load none (.t 18),none⟩,
 ⟨(some 20),.mov (.t 6),none⟩,
 ⟨(some 21),.append 1 1 (.t 19) (.t 20),none⟩,
 ⟨(some 22),.nilchk (.t 15),none⟩,
 ⟨(some 23),.fieldAddr 0 (.t 22),none⟩,
 ⟨none,.store 1 (.t 23) (.t 21),none⟩])))
 (.ops [⟨(some 24),.bin .add .no (.t 11) (.c (.int .i64 1)),none⟩,
 ⟨(some 11),.mov (.t 24),none⟩])))
def R_octet_Pen_Raw_0 : C := .seq (.ops [⟨(some 4),.mov (.c (.int .i64 0)),none⟩])
 (.ret)
/-- (*purser/octet.Pen).Raw -/
def f_octet_Pen_Raw : Fn := ⟨25,[.tmp 4],
 .seq (.ops [⟨(some 4),.mov (.c (.int .i64 0)),none⟩])
 (.seq (.seq (.ops [⟨(some 7),.mov (.t 0),none⟩,
 ⟨(some 8),.bin .eql (.ref .p) (.t 7) (.c (.ptr none)),none⟩])
 (.cond (.t 8)
 (.seq (.ops [⟨(some 4),.mov (.c (.int .i64 1)),none⟩])
 (.ret))
 (.skip)))
 (.seq (.seq (.ops [⟨(some 9),.mov (.t 1),none⟩,
 ⟨(some 10),.len false (.t 9),none⟩,
 ⟨(some 11),.mov (.c (.int .i64 0)),none⟩])
 (.block 0 (.loop (L_octet_Pen_Raw_0))))
 (R_octet_Pen_Raw_0)))⟩
def A_octet_width_0 : C := .seq (.ops [⟨(some 4),.mov (.t 8),none⟩])
 (.ops [⟨(some 5),.mov (.t 9),none⟩])
theorem u_A_octet_width_0 (Q : Orc) (N n : Nat) (r : Option Nat) (st : St) : evC Q N n r A_octet_width_0 st = evC Q N n r (.seq (.ops [⟨(some 4),.mov (.t 8),none⟩])
 (.ops [⟨(some 5),.mov (.t 9),none⟩])) st := _root_.id rfl
def B_octet_width_0 : C := .block 1 (.seq (.ops [⟨(some 10),.mov (.t 5),none⟩,
 ⟨(some 11),.bin .neq .no (.t 10) (.c (.int .u8 0)),none⟩])
 (.cond (.t 11)
 (.seq (.ops [⟨(some 12),.mov (.t 4),none⟩,
 ⟨(some 13),.bin .add .no (.t 12) (.c (.int .i64 1)),none⟩,
 ⟨none,.store 1 (.t 3) (.t 13),none⟩])
 (.exit 0))
 (.skip)))
theorem u_B_octet_width_0 (Q : Orc) (N n : Nat) (r : Option Nat) (st : St) : evC Q N n r B_octet_width_0 st = evC Q N n r (.block 1 (.seq (.ops [⟨(some 10),.mov (.t 5),none⟩,
 ⟨(some 11),.bin .neq .no (.t 10) (.c (.int .u8 0)),none⟩])
 (.cond (.t 11)
 (.seq (.ops [⟨(some 12),.mov (.t 4),none⟩,
 ⟨(some 13),.bin .add .no (.t 12) (.c (.int .i64 1)),none⟩,
 ⟨none,.store 1 (.t 3) (.t 13),none⟩])
 (.exit 0))
 (.skip)))) st := _root_.id rfl
def R_octet_width_0 : C := .seq (.ops [⟨(some 14),.load none (.t 3),none⟩,
 ⟨(some 2),.mov (.t 14),none⟩])
 (.ret)
/-- purser/octet.width -/
def f_octet_width : Fn := ⟨15,[.tmp 2],
 .seq (.ops [⟨(some 2),.mov (.c (.int .i64 0)),none⟩])
 (.scope (.seq (.ops [⟨(some 3),.alloc [(.int .i64 0)],none⟩,
 ⟨none,.store 1 (.t 3) (.c (.int .i64 1)),none⟩])
 (.seq (.skip)
 (.seq (.seq (.ops [⟨(some 6),.mov (.t 0),none⟩,
 ⟨(some 7),.call k_octet_highFirst [(.t 6),(.c (.int .i64 8))],none⟩])
 (.block 0 (.rangeF (.t 7) [8,9] (A_octet_width_0)
 (B_octet_width_0))))
 (R_octet_width_0)))))⟩
/-- (*purser/octet.Eye).Fixed -/
def f_octet_Eye_Fixed : Fn := ⟨42,[.tmp 4,.tmp 5],
 .seq (.ops [⟨(some 4),.mov (.c (.int .u64 0)),none⟩,
 ⟨(some 5),.mov (.c (.int .i64 0)),none⟩])
 (.seq (.seq (.ops [⟨(some 7),.mov (.t 0),none⟩,
 ⟨(some 8),.call k_octet_Eye_looks [(.t 7)],none⟩,
 ⟨(some 9),.un .not (.t 8),none⟩])
 (.cond (.t 9)
 (.seq (.ops [⟨(some 4),.mov (.c (.int .u64 0)),none⟩,
 ⟨(some 5),.mov (.c (.int .i64 1)),none⟩])
 (.ret))
 (.skip)))
 (.seq (.seq (.ops [⟨(some 10),.mov (.t 1),none⟩,
 ⟨(some 11),.call k_octet_sized [(.t 10)],none⟩,
 ⟨(some 12),.un .not (.t 11),none⟩])
 (.cond (.t 12)
 (.seq (.ops [⟨(some 4),.mov (.c (.int .u64 0)),none⟩,
 ⟨(some 5),.mov (.c (.int .i64 2)),none⟩])
 (.ret))
 (.skip)))
 (.seq (.seq (.ops [⟨(some 13),.mov (.t 1),none⟩,
 ⟨(some 14),.mov (.t 0),none⟩,
 ⟨(some 15),.call k_octet_Eye_Left [(.t 14)],none⟩,
 ⟨(some 16),.bin .gtr .no (.t 13) (.t 15),none⟩])
 (.cond (.t 16)
 (.seq (.ops [⟨(some 4),.mov (.c (.int .u64 0)),none⟩,
 ⟨(some 5),.mov (.c (.int .i64 10)),none⟩])
 (.ret))
 (.skip)))
 (.seq (.dops 0 [] [(⟨(some 17),.mov (.t 0),none⟩,.L),
 (⟨(some 18),.nilchk (.t 17),none⟩,.L),
 (⟨(some 19),.fieldAddr 0 (.t 18),none⟩,.L),
 (⟨(some 20),.load none (.t 19),none⟩,.R [] []),
 (⟨(some 21),.mov (.t 0),none⟩,.L),
 (⟨(some 22),.nilchk (.t 21),none⟩,.L),
 (⟨(some 23),.fieldAddr 1 (.t 22),none⟩,.L),
 (⟨(some 24),.load none (.t 23),none⟩,.R [] []),
 (⟨(some 25),.mov (.t 0),none⟩,.L),
 (⟨(some 26),.nilchk (.t 25),none⟩,.L),
 (⟨(some 27),.fieldAddr 1 (.t 26),none⟩,.L),
 (⟨(some 28),.load none (.t 27),none⟩,.R [] []),
 (⟨(some 29),.mov (.t 1),none⟩,.L),
 (⟨(some 30),.bin .add .no (.t 28) (.t 29),none⟩,.L),
 (⟨(some 31),.slcS 1 (.t 20) (some (.t 24)) (some (.t 30)) none,none⟩,.L),
 (⟨(some 32),.call k_octet_number [(.t 31)],none⟩,.B []),
 (⟨(some 6),.mov (.t 32),none⟩,.L)])
 (.seq (.ops [⟨(some 33),.mov (.t 0),none⟩,
 ⟨(some 34),.nilchk (.t 33),none⟩,
 ⟨(some 35),.fieldAddr 1 (.t 34),none⟩,
 ⟨(some 36),.load none (.t 35),none⟩,
 ⟨(some 37),.mov (.t 1),none⟩,
 ⟨(some 38),.bin .add .no (.t 36) (.t 37),none⟩,
 ⟨(some 39),.nilchk (.t 33),none⟩,
 ⟨(some 40),.fieldAddr 1 (.t 39),none⟩,
 ⟨none,.store 1 (.t 40) (.t 38),none⟩])
 (.seq (.ops [⟨(some 41),.mov (.t 6),none⟩,
 ⟨(some 4),.mov (.t 41),none⟩,
 ⟨(some 5),.mov (.c (.int .i64 0)),none⟩])
 (.ret)))))))⟩
/-- (*purser/octet.Eye).Size -/
def f_octet_Eye_Size : Fn := ⟨35,[.tmp 2,.tmp 3],
 .seq (.ops [⟨(some 2),.mov (.c (.int .u64 0)),none⟩,
 ⟨(some 3),.mov (.c (.int .i64 0)),none⟩])
 (.seq (.seq (.ops [⟨(some 7),.mov (.t 0),none⟩,
 ⟨(some 8),.call k_octet_Eye_looks [(.t 7)],none⟩,
 ⟨(some 9),.un .not (.t 8),none⟩])
 (.cond (.t 9)
 (.seq (.ops [⟨(some 2),.mov (.c (.int .u64 0)),none⟩,
 ⟨(some 3),.mov (.c (.int .i64 1)),none⟩])
 (.ret))
 (.skip)))
 (.seq (.dops 0 [] [(⟨(some 11),.mov (.t 0),none⟩,.L),
 (⟨(some 12),.nilchk (.t 11),none⟩,.L),
 (⟨(some 13),.fieldAddr 0 (.t 12),none⟩,.L),
 (⟨(some 14),.load none (.t 13),none⟩,.R [] []),
 (⟨(some 15),.mov (.t 0),none⟩,.L),
 (⟨(some 16),.nilchk (.t 15),none⟩,.L),
 (⟨(some 17),.fieldAddr 1 (.t 16),none⟩,.L),
 (⟨(some 18),.load none (.t 17),none⟩,.R [] []),
 (⟨(some 19),.slcS 1 (.t 14) (some (.t 18)) none none,none⟩,.L),
 (⟨(some 20),.call k_octet_compact [(.t 19)],none⟩,.B []),
 (⟨(some 10),.mov (.t 20),none⟩,.L),
 (⟨(some 21),.ext (.t 10) 0,none⟩,.L),
 (⟨(some 22),.ext (.t 10) 1,none⟩,.L),
 (⟨(some 23),.ext (.t 10) 2,none⟩,.L),
 (⟨(some 4),.mov (.t 21),none⟩,.L),
 (⟨(some 5),.mov (.t 22),none⟩,.L),
 (⟨(some 6),.mov (.t 23),none⟩,.L)])
 (.seq (.seq (.ops [⟨(some 24),.mov (.t 6),none⟩,
 ⟨(some 25),.un .not (.t 24),none⟩])
 (.cond (.t 25)
 (.seq (.ops [⟨(some 2),.mov (.c (.int .u64 0)),none⟩,
 ⟨(some 3),.mov (.c (.int .i64 10)),none⟩])
 (.ret))
 (.skip)))
 (.seq (.ops [⟨(some 26),.mov (.t 0),none⟩,
 ⟨(some 27),.nilchk (.t 26),none⟩,
 ⟨(some 28),.fieldAddr 1 (.t 27),none⟩,
 ⟨(some 29),.load none (.t 28),none⟩,
 ⟨(some 30),.mov (.t 5),none⟩,
 ⟨(some 31),.bin .add .no (.t 29) (.t 30),none⟩,
 ⟨(some 32),.nilchk (.t 26),none⟩,
 ⟨(some 33),.fieldAddr 1 (.t 32),none⟩,
 ⟨none,.store 1 (.t 33) (.t 31),none⟩])
 (.seq (.ops [⟨(some 34),.mov (.t 4),none⟩,
 ⟨(some 2),.mov (.t 34),none⟩,
 ⟨(some 3),.mov (.c (.int .i64 0)),none⟩])
 (.ret))))))⟩
/-- (*purser/octet.Eye).Bytes -/
def f_octet_Eye_Bytes : Fn := ⟨59,[.tmp 4,.tmp 5],
 .seq (.ops [⟨(some 4),.mov (.c (.slice none 0 (some 0) 0)),none⟩,
 ⟨(some 5),.mov (.c (.int .i64 0)),none⟩])
 (.seq (.seq (.ops [⟨(some 9),.mov (.t 0),none⟩,
 ⟨(some 10),.call k_octet_Eye_looks [(.t 9)],none⟩,
 ⟨(some 11),.un .not (.t 10),none⟩])
 (.cond (.t 11)
 (.seq (.ops [⟨(some 4),.mov (.c (.slice none 0 (some 0) 0)),none⟩,
 ⟨(some 5),.mov (.c (.int .i64 1)),none⟩])
 (.ret))
 (.skip)))
 (.seq (.dops 0 [] [(⟨(some 13),.mov (.t 0),none⟩,.L),
 (⟨(some 14),.nilchk (.t 13),none⟩,.L),
 (⟨(some 15),.fieldAddr 0 (.t 14),none⟩,.L),
 (⟨(some 16),.load none (.t 15),none⟩,.R [] []),
 (⟨(some 17),.mov (.t 0),none⟩,.L),
 (⟨(some 18),.nilchk (.t 17),none⟩,.L),
 (⟨(some 19),.fieldAddr 1 (.t 18),none⟩,.L),
 (⟨(some 20),.load none (.t 19),none⟩,.R [] []),
 (⟨(some 21),.slcS 1 (.t 16) (some (.t 20)) none none,none⟩,.L),
 (⟨(some 22),.call k_octet_compact [(.t 21)],none⟩,.B []),
 (⟨(some 12),.mov (.t 22),none⟩,.L),
 (⟨(some 23),.ext (.t 12) 0,none⟩,.L),
 (⟨(some 24),.ext (.t 12) 1,none⟩,.L),
 (⟨(some 25),.ext (.t 12) 2,none⟩,.L),
 (⟨(some 6),.mov (.t 23),none⟩,.L),
 (⟨(some 7),.mov (.t 24),none⟩,.L),
 (⟨(some 8),.mov (.t 25),none⟩,.L)])
 (.seq (.seq (.ops [⟨(some 26),.mov (.t 8),none⟩,
 ⟨(some 27),.un .not (.t 26),none⟩,
 ⟨(some 28),.mov (.t 27),none⟩,
 ⟨(some 29),.mov (.t 1),(some (28,false))⟩,
 ⟨(some 30),.bin .lss .no (.t 29) (.c (.int .i64 0)),(some (28,false))⟩,
 ⟨(some 31),.pick (.t 28) (.c (.bool true)) (.t 30),none⟩,
 ⟨(some 32),.mov (.t 31),none⟩,
 ⟨(some 33),.mov (.t 6),(some (32,false))⟩,
 ⟨(some 34),.mov (.t 1),(some (32,false))⟩,
 ⟨(some 35),.conv .u64 (.t 34),(some (32,false))⟩,
 ⟨(some 36),.bin .gtr .no (.t 33) (.t 35),(some (32,false))⟩,
 ⟨(some 37),.pick (.t 32) (.c (.bool true)) (.t 36),none⟩,
 ⟨(some 38),.mov (.t 37),none⟩,
 ⟨(some 39),.mov (.t 6),(some (38,false))⟩,
 ⟨(some 40),.mov (.t 0),(some (38,false))⟩,
 ⟨(some 41),.call k_octet_Eye_Left [(.t 40)],(some (38,false))⟩,
 ⟨(some 42),.mov (.t 7),(some (38,false))⟩,
 ⟨(some 43),.bin .sub .no (.t 41) (.t 42),(some (38,false))⟩,
 ⟨(some 44),.conv .u64 (.t 43),(some (38,false))⟩,
 ⟨(some 45),.bin .gtr .no (.t 39) (.t 44),(some (38,false))⟩,
 ⟨(some 46),.pick (.t 38) (.c (.bool true)) (.t 45),none⟩])
 (.cond (.t 46)
 (.seq (.ops [⟨(some 4),.mov (.c (.slice none 0 (some 0) 0)),none⟩,
 ⟨(some 5),.mov (.c (.int .i64 10)),none⟩])
 (.ret))
 (.skip)))
 (.seq (.ops [⟨(some 47),.mov (.t 0),none⟩,
 ⟨(some 48),.nilchk (.t 47),none⟩,
 ⟨(some 49),.fieldAddr 1 (.t 48),none⟩,
 ⟨(some 50),.load none (.t 49),none⟩,
 ⟨(some 51),.mov (.t 7),none⟩,
 ⟨(some 52),.bin .add .no (.t 50) (.t 51),none⟩,
 ⟨(some 53),.nilchk (.t 47),none⟩,
 ⟨(some 54),.fieldAddr 1 (.t 53),none⟩,
 ⟨none,.store 1 (.t 54) (.t 52),none⟩])
 (.seq (.ops [⟨(some 55),.mov (.t 0),none⟩,
 ⟨(some 56),.mov (.t 6),none⟩,
 ⟨(some 57),.conv .i64 (.t 56),none⟩,
 ⟨(some 58),.call k_octet_Eye_take [(.t 55),(.t 57)],none⟩,
 ⟨(some 4),.mov (.t 58),none⟩,
 ⟨(some 5),.mov (.c (.int .i64 0)),none⟩])
 (.ret))))))⟩
/-- (*purser/octet.Eye).Raw -/
def f_octet_Eye_Raw : Fn := ⟨18,[.tmp 4,.tmp 5],
 .seq (.ops [⟨(some 4),.mov (.c (.slice none 0 (some 0) 0)),none⟩,
 ⟨(some 5),.mov (.c (.int .i64 0)),none⟩])
 (.seq (.seq (.ops [⟨(some 6),.mov (.t 0),none⟩,
 ⟨(some 7),.call k_octet_Eye_looks [(.t 6)],none⟩,
 ⟨(some 8),.un .not (.t 7),none⟩])
 (.cond (.t 8)
 (.seq (.ops [⟨(some 4),.mov (.c (.slice none 0 (some 0) 0)),none⟩,
 ⟨(some 5),.mov (.c (.int .i64 1)),none⟩])
 (.ret))
 (.skip)))
 (.seq (.seq (.ops [⟨(some 9),.mov (.t 1),none⟩,
 ⟨(some 10),.bin .lss .no (.t 9) (.c (.int .i64 0)),none⟩])
 (.cond (.t 10)
 (.seq (.ops [⟨(some 4),.mov (.c (.slice none 0 (some 0) 0)),none⟩,
 ⟨(some 5),.mov (.c (.int .i64 2)),none⟩])
 (.ret))
 (.skip)))
 (.seq (.seq (.ops [⟨(some 11),.mov (.t 1),none⟩,
 ⟨(some 12),.mov (.t 0),none⟩,
 ⟨(some 13),.call k_octet_Eye_Left [(.t 12)],none⟩,
 ⟨(some 14),.bin .gtr .no (.t 11) (.t 13),none⟩])
 (.cond (.t 14)
 (.seq (.ops [⟨(some 4),.mov (.c (.slice none 0 (some 0) 0)),none⟩,
 ⟨(some 5),.mov (.c (.int .i64 10)),none⟩])
 (.ret))
 (.skip)))
 (.seq (.ops [⟨(some 15),.mov (.t 0),none⟩,
 ⟨(some 16),.mov (.t 1),none⟩,
 ⟨(some 17),.call k_octet_Eye_take [(.t 15),(.t 16)],none⟩,
 ⟨(some 4),.mov (.t 17),none⟩,
 ⟨(some 5),.mov (.c (.int .i64 0)),none⟩])
 (.ret)))))⟩
/-- (*purser/octet.Eye).looks -/
def f_octet_Eye_looks : Fn := ⟨11,[.tmp 2],
 .seq (.ops [⟨(some 2),.mov (.c (.bool false)),none⟩])
 (.seq (.ops [⟨(some 3),.mov (.t 0),none⟩,
 ⟨(some 4),.bin .neq (.ref .p) (.t 3) (.c (.ptr none)),none⟩,
 ⟨(some 5),.mov (.t 4),none⟩,
 ⟨(some 6),.mov (.t 0),(some (5,true))⟩,
 ⟨(some 7),.nilchk (.t 6),(some (5,true))⟩,
 ⟨(some 8),.fieldAddr 2 (.t 7),(some (5,true))⟩,
 ⟨(some 9),.load none (.t 8),(some (5,true))⟩,
 ⟨(some 10),.pick (.t 5) (.t 9) (.c (.bool false)),none⟩,
 ⟨(some 2),.mov (.t 10),none⟩])
 (.ret))⟩
/-- (*purser/octet.Eye).Left -/
def f_octet_Eye_Left : Fn := ⟨16,[.tmp 2],
 .seq (.ops [⟨(some 2),.mov (.c (.int .i64 0)),none⟩])
 (.seq (.seq (.ops [⟨(some 3),.mov (.t 0),none⟩,
 ⟨(some 4),.call k_octet_Eye_looks [(.t 3)],none⟩,
 ⟨(some 5),.un .not (.t 4),none⟩])
 (.cond (.t 5)
 (.seq (.ops [⟨(some 2),.mov (.c (.int .i64 0)),none⟩])
 (.ret))
 (.skip)))
 (.seq (.dops 0 [] [(⟨(some 6),.mov (.t 0),none⟩,.L),
 (⟨(some 7),.nilchk (.t 6),none⟩,.L),
 (⟨(some 8),.fieldAddr 0 (.t 7),none⟩,.L),
 (⟨(some 9),.load none (.t 8),none⟩,.R [] []),
 (⟨(some 10),.len false (.t 9),none⟩,.L),
 (⟨(some 11),.mov (.t 0),none⟩,.L),
 (⟨(some 12),.nilchk (.t 11),none⟩,.L),
 (⟨(some 13),.fieldAddr 1 (.t 12),none⟩,.L),
 (⟨(some 14),.load none (.t 13),none⟩,.R [] []),
 (⟨(some 15),.bin .sub .no (.t 10) (.t 14),none⟩,.L),
 (⟨(some 2),.mov (.t 15),none⟩,.L)])
 (.ret)))⟩
def A_tx_Check_0 : C := .ops [⟨(some 4),.mov (.t 19),none⟩]
theorem u_A_tx_Check_0 (Q : Orc) (N n : Nat) (r : Option Nat) (st : St) : evC Q N n r A_tx_Check_0 st = evC Q N n r (.ops [⟨(some 4),.mov (.t 19),none⟩]) st := _root_.id rfl
def B_tx_Check_0 : C := .block 1 (.seq (.ops [⟨(some 20),.mov (.t 4),none⟩,
 ⟨(some 21),.len false (.t 20),none⟩,
 ⟨(some 22),.bin .gtr .no (.t 21) (.c (.int .i64 2000)),none⟩])
 (.cond (.t 22)
 (.seq (.ops [⟨none,.store 1 (.t 3) (.c (.int .i64 60)),none⟩])
 (.exit 0))
 (.skip)))
theorem u_B_tx_Check_0 (Q : Orc) (N n : Nat) (r : Option Nat) (st : St) : evC Q N n r B_tx_Check_0 st = evC Q N n r (.block 1 (.seq (.ops [⟨(some 20),.mov (.t 4),none⟩,
 ⟨(some 21),.len false (.t 20),none⟩,
 ⟨(some 22),.bin .gtr .no (.t 21) (.c (.int .i64 2000)),none⟩])
 (.cond (.t 22)
 (.seq (.ops [⟨none,.store 1 (.t 3) (.c (.int .i64 60)),none⟩])
 (.exit 0))
 (.skip)))) st := _root_.id rfl
def R_tx_Check_0 : C := .seq (.ops [⟨(some 23),.load none (.t 3),none⟩,
 ⟨(some 2),.mov (.t 23),none⟩])
 (.ret)
/-- purser/tx.Check -/
def f_tx_Check : Fn := ⟨24,[.tmp 2],
 .seq (.ops [⟨(some 1),.box (.t 0),none⟩,
 ⟨(some 2),.mov (.c (.int .i64 0)),none⟩])
 (.scope (.seq (.seq (.ops [⟨(some 5),.fieldAddr 1 (.t 1),none⟩,
 ⟨(some 6),.load none (.t 5),none⟩,
 ⟨(some 7),.len false (.t 6),none⟩,
 ⟨(some 8),.call k_tx_counted [(.t 7)],none⟩,
 ⟨(some 9),.un .not (.t 8),none⟩,
 ⟨(some 10),.mov (.t 9),none⟩,
 ⟨(some 11),.fieldAddr 2 (.t 1),(some (10,false))⟩,
 ⟨(some 12),.load none (.t 11),(some (10,false))⟩,
 ⟨(some 13),.len false (.t 12),(some (10,false))⟩,
 ⟨(some 14),.call k_tx_counted [(.t 13)],(some (10,false))⟩,
 ⟨(some 15),.un .not (.t 14),(some (10,false))⟩,
 ⟨(some 16),.pick (.t 10) (.c (.bool true)) (.t 15),none⟩])
 (.cond (.t 16)
 (.seq (.ops [⟨(some 2),.mov (.c (.int .i64 60)),none⟩])
 (.ret))
 (.skip)))
 (.seq (.ops [⟨(some 3),.alloc [(.int .i64 0)],none⟩,
 ⟨none,.store 1 (.t 3) (.c (.int .i64 0)),none⟩])
 (.seq (.skip)
 (.seq (.seq (.ops [⟨(some 17),.load (some 4) (.t 1),none⟩,
 ⟨(some 18),.call k_tx_scripts [(.t 17)],none⟩])
 (.block 0 (.rangeF (.t 18) [19] (A_tx_Check_0)
 (B_tx_Check_0))))
 (R_tx_Check_0))))))⟩
/-- purser/tx.read -/
def f_tx_read : Fn := ⟨29,[.cell 2 (some 4),.tmp 3,.tmp 4],
 .seq (.ops [⟨(some 2),.alloc [(.int .u32 0),(.slice none 0 (some 0) 0),(.slice none 0 (some 0) 0),(.int .u32 0)],none⟩,
 ⟨(some 3),.mov (.c (.int .i64 0)),none⟩,
 ⟨(some 4),.mov (.c (.int .i64 0)),none⟩])
 (.seq (.ops [⟨(some 6),.mov (.t 0),none⟩,
 ⟨(some 7),.call k_octet_Look [(.t 6)],none⟩,
 ⟨(some 8),.build [(.ptr none),(.bool false)] [(0,1,(.t 7))],none⟩,
 ⟨(some 5),.alloc [(.ptr none),(.bool false)],none⟩,
 ⟨none,.store 2 (.t 5) (.t 8),none⟩])
 (.seq (.ops [⟨(some 9),.call k_tx_reader_word [(.t 5)],none⟩,
 ⟨(some 10),.fieldAddr 0 (.t 2),none⟩,
 ⟨none,.store 1 (.t 10) (.t 9),none⟩])
 (.seq (.ops [⟨(some 11),.mkfn k_tx_reader_in [(.t 5)] [],none⟩,
 ⟨(some 12),.call k_tx_list_api_In [(.t 5),(.t 11)],none⟩,
 ⟨(some 13),.fieldAddr 1 (.t 2),none⟩,
 ⟨none,.store 1 (.t 13) (.t 12),none⟩])
 (.seq (.ops [⟨(some 14),.mkfn k_tx_reader_out [(.t 5)] [],none⟩,
 ⟨(some 15),.call k_tx_list_api_Out [(.t 5),(.t 14)],none⟩,
 ⟨(some 16),.fieldAddr 2 (.t 2),none⟩,
 ⟨none,.store 1 (.t 16) (.t 15),none⟩])
 (.seq (.ops [⟨(some 17),.call k_tx_reader_word [(.t 5)],none⟩,
 ⟨(some 18),.fieldAddr 3 (.t 2),none⟩,
 ⟨none,.store 1 (.t 18) (.t 17),none⟩])
 (.seq (.seq (.ops [⟨(some 19),.fieldAddr 1 (.t 5),none⟩,
 ⟨(some 20),.load none (.t 19),none⟩])
 (.cond (.t 20)
 (.seq (.ops [⟨(some 21),.build [(.int .u32 0),(.slice none 0 (some 0) 0),(.slice none 0 (some 0) 0),(.int .u32 0)] [],none⟩,
 ⟨none,.store 4 (.t 2) (.t 21),none⟩,
 ⟨(some 3),.mov (.c (.int .i64 0)),none⟩,
 ⟨(some 4),.mov (.c (.int .i64 60)),none⟩])
 (.ret))
 (.skip)))
 (.seq (.dops 0 [] [(⟨(some 22),.load (some 4) (.t 2),none⟩,.R [] [(1,[])]),
 (⟨(some 23),.mov (.t 0),none⟩,.L),
 (⟨(some 24),.len false (.t 23),none⟩,.L),
 (⟨(some 25),.fieldAddr 0 (.t 5),none⟩,.L),
 (⟨(some 26),.load none (.t 25),none⟩,.R [] []),
 (⟨(some 27),.call k_octet_Eye_Left [(.t 26)],none⟩,.B []),
 (⟨(some 28),.bin .sub .no (.t 24) (.t 27),none⟩,.L),
 (⟨none,.store 4 (.t 2) (.t 22),none⟩,.B []),
 (⟨(some 3),.mov (.t 28),none⟩,.L),
 (⟨(some 4),.mov (.c (.int .i64 0)),none⟩,.L)])
 (.ret))))))))⟩
/-- purser/block.word -/
def f_block_word : Fn := ⟨12,[.tmp 2],
 .seq (.ops [⟨(some 2),.mov (.c (.int .u32 0)),none⟩])
 (.seq (.ops [⟨(some 6),.mov (.t 0),none⟩,
 ⟨(some 7),.call k_octet_Eye_Fixed [(.t 6),(.c (.int .i64 4))],none⟩,
 ⟨(some 5),.mov (.t 7),none⟩,
 ⟨(some 8),.ext (.t 5) 0,none⟩,
 ⟨(some 9),.ext (.t 5) 1,none⟩,
 ⟨(some 3),.mov (.t 8),none⟩,
 ⟨(some 4),.mov (.t 9),none⟩])
 (.seq (.ops [⟨(some 10),.mov (.t 3),none⟩,
 ⟨(some 11),.conv .u32 (.t 10),none⟩,
 ⟨(some 2),.mov (.t 11),none⟩])
 (.ret)))⟩
/-- purser/block.hash -/
def f_block_hash : Fn := ⟨15,[.cell 2 (some 32)],
 .seq (.ops [⟨(some 2),.alloc [(.int .u8 0),(.int .u8 0),(.int .u8 0),(.int .u8 0),(.int .u8 0),(.int .u8 0),(.int .u8 0),(.int .u8 0),(.int .u8 0),(.int .u8 0),(.int .u8 0),(.int .u8 0),(.int .u8 0),(.int .u8 0),(.int .u8 0),(.int .u8 0),(.int .u8 0),(.int .u8 0),(.int .u8 0),(.int .u8 0),(.int .u8 0),(.int .u8 0),(.int .u8 0),(.int .u8 0),(.int .u8 0),(.int .u8 0),(.int .u8 0),(.int .u8 0),(.int .u8 0),(.int .u8 0),(.int .u8 0),(.int .u8 0)],none⟩])
 (.seq (.ops [⟨(some 3),.alloc [(.int .u8 0),(.int .u8 0),(.int .u8 0),(.int .u8 0),(.int .u8 0),(.int .u8 0),(.int .u8 0),(.int .u8 0),(.int .u8 0),(.int .u8 0),(.int .u8 0),(.int .u8 0),(.int .u8 0),(.int .u8 0),(.int .u8 0),(.int .u8 0),(.int .u8 0),(.int .u8 0),(.int .u8 0),(.int .u8 0),(.int .u8 0),(.int .u8 0),(.int .u8 0),(.int .u8 0),(.int .u8 0),(.int .u8 0),(.int .u8 0),(.int .u8 0),(.int .u8 0),(.int .u8 0),(.int .u8 0),(.int .u8 0)],none⟩])
 (.seq (.ops [⟨(some 7),.mov (.t 0),none⟩,
 ⟨(some 8),.call k_octet_Eye_Raw [(.t 7),(.c (.int .i64 32))],none⟩,
 ⟨(some 6),.mov (.t 8),none⟩,
 ⟨(some 9),.ext (.t 6) 0,none⟩,
 ⟨(some 10),.ext (.t 6) 1,none⟩,
 ⟨(some 4),.mov (.t 9),none⟩,
 ⟨(some 5),.mov (.t 10),none⟩])
 (.seq (.ops [⟨(some 11),.slcA 32 1 (.t 3) none none none,none⟩,
 ⟨(some 12),.mov (.t 4),none⟩,
 ⟨(some 13),.copy 1 (.t 11) (.t 12),none⟩])
 (.seq (.ops [⟨(some 14),.load (some 32) (.t 3),none⟩,
 ⟨none,.store 32 (.t 2) (.t 14),none⟩])
 (.ret)))))⟩
/-- purser/block.valueOf -/
def f_block_valueOf : Fn := ⟨24,[.tmp 2],
 .seq (.ops [⟨(some 2),.mov (.c (.int .i64 0)),none⟩])
 (.seq (.block 0 (.seq (.ops [⟨(some 4),.mov (.t 0),none⟩,
 ⟨(some 5),.bin .geq .no (.t 4) (.c (.int .u8 48)),none⟩,
 ⟨(some 6),.mov (.t 5),none⟩,
 ⟨(some 7),.mov (.t 0),(some (6,true))⟩,
 ⟨(some 8),.bin .leq .no (.t 7) (.c (.int .u8 57)),(some (6,true))⟩,
 ⟨(some 9),.pick (.t 6) (.t 8) (.c (.bool false)),none⟩,
 ⟨(some 3),.mov (.t 9),none⟩])
 (.cond (.t 3)
 (.seq (.ops [⟨(some 10),.mov (.t 0),none⟩,
 ⟨(some 11),.bin .sub .no (.t 10) (.c (.int .u8 48)),none⟩,
 ⟨(some 12),.conv .i64 (.t 11),none⟩,
 ⟨(some 2),.mov (.t 12),none⟩])
 (.ret))
 (.seq (.ops [⟨(some 14),.mov (.t 0),none⟩,
 ⟨(some 15),.bin .geq .no (.t 14) (.c (.int .u8 97)),none⟩,
 ⟨(some 16),.mov (.t 15),none⟩,
 ⟨(some 17),.mov (.t 0),(some (16,true))⟩,
 ⟨(some 18),.bin .leq .no (.t 17) (.c (.int .u8 102)),(some (16,true))⟩,
 ⟨(some 19),.pick (.t 16) (.t 18) (.c (.bool false)),none⟩,
 ⟨(some 13),.mov (.t 19),none⟩])
 (.cond (.t 13)
 (.seq (.ops [⟨(some 20),.mov (.t 0),none⟩,
 ⟨(some 21),.bin .sub .no (.t 20) (.c (.int .u8 97)),none⟩,
 ⟨(some 22),.conv .i64 (.t 21),none⟩,
 ⟨(some 23),.bin .add .no (.t 22) (.c (.int .i64 10)),none⟩,
 ⟨(some 2),.mov (.t 23),none⟩])
 (.ret))
 (.skip))))))
 (.seq (.ops [⟨(some 2),.mov (.c (.int .i64 (-1))),none⟩])
 (.ret)))⟩
/-- purser/block.reversed -/
def f_block_reversed : Fn := ⟨6,[.cell 2 (some 32)],
 .seq (.ops [⟨(some 1),.box (.t 0),none⟩,
 ⟨(some 2),.alloc [(.int .u8 0),(.int .u8 0),(.int .u8 0),(.int .u8 0),(.int .u8 0),(.int .u8 0),(.int .u8 0),(.int .u8 0),(.int .u8 0),(.int .u8 0),(.int .u8 0),(.int .u8 0),(.int .u8 0),(.int .u8 0),(.int .u8 0),(.int .u8 0),(.int .u8 0),(.int .u8 0),(.int .u8 0),(.int .u8 0),(.int .u8 0),(.int .u8 0),(.int .u8 0),(.int .u8 0),(.int .u8 0),(.int .u8 0),(.int .u8 0),(.int .u8 0),(.int .u8 0),(.int .u8 0),(.int .u8 0),(.int .u8 0)],none⟩])
 (.seq (.ops [⟨(some 3),.slcA 32 1 (.t 1) none none none,none⟩,
 ⟨(some 4),.call k_slices_Reverse_byte_byte [(.t 3)],none⟩])
 (.seq (.ops [⟨(some 5),.load (some 32) (.t 1),none⟩,
 ⟨none,.store 32 (.t 2) (.t 5),none⟩])
 (.ret)))⟩
/-- purser/block.size -/
def f_block_size : Fn := ⟨20,[.tmp 2,.tmp 3,.tmp 4],
 .seq (.ops [⟨(some 2),.mov (.c (.int .u64 0)),none⟩,
 ⟨(some 3),.mov (.c (.int .i64 0)),none⟩,
 ⟨(some 4),.mov (.c (.int .i64 0)),none⟩])
 (.seq (.ops [⟨(some 6),.mov (.t 0),none⟩,
 ⟨(some 7),.mov (.t 0),none⟩,
 ⟨(some 8),.len false (.t 7),none⟩,
 ⟨(some 9),.call k_octet_Compact [(.c (.int .u64 18446744073709551615))],none⟩,
 ⟨(some 10),.minmax true [(.t 8),(.t 9)],none⟩,
 ⟨(some 11),.slcS 1 (.t 6) none (some (.t 10)) none,none⟩,
 ⟨(some 12),.call k_octet_Look [(.t 11)],none⟩,
 ⟨(some 13),.call k_octet_Eye_Size [(.t 12)],none⟩,
 ⟨(some 5),.mov (.t 13),none⟩,
 ⟨(some 14),.ext (.t 5) 0,none⟩,
 ⟨(some 15),.ext (.t 5) 1,none⟩,
 ⟨(some 2),.mov (.t 14),none⟩,
 ⟨(some 4),.mov (.t 15),none⟩])
 (.seq (.ops [⟨(some 16),.mov (.t 2),none⟩,
 ⟨(some 17),.mov (.t 2),none⟩,
 ⟨(some 18),.call k_octet_Compact [(.t 17)],none⟩,
 ⟨(some 19),.mov (.t 4),none⟩,
 ⟨(some 2),.mov (.t 16),none⟩,
 ⟨(some 3),.mov (.t 18),none⟩,
 ⟨(some 4),.mov (.t 19),none⟩])
 (.ret)))⟩
/-- purser/block.txs -/
def f_block_txs : Fn := ⟨4,[.tmp 2],
 .seq (.ops [⟨(some 1),.box (.t 0),none⟩,
 ⟨(some 2),.mov (.c .nilFn),none⟩])
 (.seq (.ops [⟨(some 3),.mkfn k_block_txs_1 [] [(.t 1)],none⟩,
 ⟨(some 2),.mov (.t 3),none⟩])
 (.ret))⟩
/-- purser/purserref06.Same -/
def f_purserref06_Same : Fn := ⟨12,[.tmp 4],
 .seq (.ops [⟨(some 2),.box (.t 0),none⟩,
 ⟨(some 3),.box (.t 1),none⟩,
 ⟨(some 4),.mov (.c (.bool false)),none⟩])
 (.seq (.dops 0 [] [(⟨(some 5),.load (some 4) (.t 2),none⟩,.R [] []),
 (⟨(some 6),.call k_purserref06_Bytes [(.t 5)],none⟩,.B []),
 (⟨(some 7),.b2s (.t 6),none⟩,.R [] [(0,[])]),
 (⟨(some 8),.load (some 4) (.t 3),none⟩,.R [] [(2,[])]),
 (⟨(some 9),.call k_purserref06_Bytes [(.t 8)],none⟩,.B []),
 (⟨(some 10),.b2s (.t 9),none⟩,.R [] []),
 (⟨(some 11),.bin .eql .no (.t 7) (.t 10),none⟩,.L),
 (⟨(some 4),.mov (.t 11),none⟩,.L)])
 (.ret))⟩
/-- purser/octet.sized -/
def f_octet_sized : Fn := ⟨17,[.tmp 2],
 .seq (.ops [⟨(some 2),.mov (.c (.bool false)),none⟩])
 (.seq (.ops [⟨(some 3),.mov (.t 0),none⟩,
 ⟨(some 4),.bin .eql .no (.t 3) (.c (.int .i64 1)),none⟩,
 ⟨(some 5),.mov (.t 4),none⟩,
 ⟨(some 6),.mov (.t 0),(some (5,false))⟩,
 ⟨(some 7),.bin .eql .no (.t 6) (.c (.int .i64 2)),(some (5,false))⟩,
 ⟨(some 8),.pick (.t 5) (.c (.bool true)) (.t 7),none⟩,
 ⟨(some 9),.mov (.t 8),none⟩,
 ⟨(some 10),.mov (.t 0),(some (9,false))⟩,
 ⟨(some 11),.bin .eql .no (.t 10) (.c (.int .i64 4)),(some (9,false))⟩,
 ⟨(some 12),.pick (.t 9) (.c (.bool true)) (.t 11),none⟩,
 ⟨(some 13),.mov (.t 12),none⟩,
 ⟨(some 14),.mov (.t 0),(some (13,false))⟩,
 ⟨(some 15),.bin .eql .no (.t 14) (.c (.int .i64 8)),(some (13,false))⟩,
 ⟨(some 16),.pick (.t 13) (.c (.bool true)) (.t 15),none⟩,
 ⟨(some 2),.mov (.t 16),none⟩])
 (.ret))⟩
def A_octet_Pen_put_0 : C := .seq (.ops [⟨(some 7),.mov (.t 26),none⟩])
 (.ops [⟨(some 8),.mov (.t 27),none⟩])
theorem u_A_octet_Pen_put_0 (Q : Orc) (N n : Nat) (r : Option Nat) (st : St) : evC Q N n r A_octet_Pen_put_0 st = evC Q N n r (.seq (.ops [⟨(some 7),.mov (.t 26),none⟩])
 (.ops [⟨(some 8),.mov (.t 27),none⟩])) st := _root_.id rfl
def B_octet_Pen_put_0 : C := .block 1 (.dops 0 [] [(⟨(some 28),.load none (.t 3),none⟩,.R [] []),
 (⟨(some 29),.nilchk (.t 28),none⟩,.L),
 (⟨(some 30),.fieldAddr 0 (.t 29),none⟩,.L),
 (⟨(some 31),.load none (.t 30),none⟩,.R [] []),
 (⟨(some 32),.load none (.t 6),none⟩,.R [] []),
 (⟨(some 33),.mov (.t 7),none⟩,.L),
 (⟨(some 34),.bin .add .no (.t 32) (.t 33),none⟩,.L),
 (⟨(some 35),.mov (.t 8),none⟩,.L),
 (⟨(some 36),.idxAddrS 1 (.t 31) (.t 34),none⟩,.L),
 (⟨none,.store 1 (.t 36) (.t 35),none⟩,.B [])])
theorem u_B_octet_Pen_put_0 (Q : Orc) (N n : Nat) (r : Option Nat) (st : St) : evC Q N n r B_octet_Pen_put_0 st = evC Q N n r (.block 1 (.dops 0 [] [(⟨(some 28),.load none (.t 3),none⟩,.R [] []),
 (⟨(some 29),.nilchk (.t 28),none⟩,.L),
 (⟨(some 30),.fieldAddr 0 (.t 29),none⟩,.L),
 (⟨(some 31),.load none (.t 30),none⟩,.R [] []),
 (⟨(some 32),.load none (.t 6),none⟩,.R [] []),
 (⟨(some 33),.mov (.t 7),none⟩,.L),
 (⟨(some 34),.bin .add .no (.t 32) (.t 33),none⟩,.L),
 (⟨(some 35),.mov (.t 8),none⟩,.L),
 (⟨(some 36),.idxAddrS 1 (.t 31) (.t 34),none⟩,.L),
 (⟨none,.store 1 (.t 36) (.t 35),none⟩,.B [])])) st := _root_.id rfl
/-- (*purser/octet.Pen).put -/
def f_octet_Pen_put : Fn := ⟨37,[],
 .seq (.ops [⟨(some 3),.box (.t 0),none⟩])
 (.seq (.ops [⟨(some 9),.load none (.t 3),none⟩,
 ⟨(some 10),.nilchk (.t 9),none⟩,
 ⟨(some 11),.fieldAddr 0 (.t 10),none⟩,
 ⟨(some 12),.load none (.t 11),none⟩,
 ⟨(some 13),.len false (.t 12),none⟩,
 ⟨(some 6),.alloc [(.int .i64 0)],none⟩,
 ⟨none,.store 1 (.t 6) (.t 13),none⟩])
 (.seq (.dops 0 [] [(⟨(some 14),.load none (.t 3),none⟩,.R [] [(1,[])]),
 (⟨(some 15),.load none (.t 3),none⟩,.R [] []),
 (⟨(some 16),.nilchk (.t 15),none⟩,.L),
 (⟨(some 17),.fieldAddr 0 (.t 16),none⟩,.L),
 (⟨(some 18),.load none (.t 17),none⟩,.R [] []),
 (⟨(some 19),.mov (.t 1),none⟩,.L),
 (⟨(some 20),.appendZ [(.int .u8 0)] 1 (.t 18) (.t 19),none⟩,.B []),
 (⟨(some 21),.nilchk (.t 14),none⟩,.L),
 (⟨(some 22),.fieldAddr 0 (.t 21),none⟩,.L),
 (⟨none,.store 1 (.t 22) (.t 20),none⟩,.B [])])
 (.seq (.ops [⟨(some 23),.mov (.t 2),none⟩,
 ⟨(some 24),.mov (.t 1),none⟩,
 ⟨(some 25),.call k_octet_highFirst [(.t 23),(.t 24)],none⟩])
 (.block 0 (.rangeF (.t 25) [26,27] (A_octet_Pen_put_0)
 (B_octet_Pen_put_0))))))⟩
def L_purserref01_power_0 : C := .seq (.seq (.ops [⟨(some 5),.mov (.t 4),none⟩,
 ⟨(some 6),.mov (.t 0),none⟩,
 ⟨(some 7),.bin .lss .no (.t 5) (.t 6),none⟩])
 (.cond (.t 7)
 (.skip)
 (.exit 0)))
 (.seq (.block 1 (.ops [⟨(some 10),.mov (.t 3),none⟩,
 ⟨(some 11),.bin .mul .no (.t 10) (.c (.int .u64 256)),none⟩,
 ⟨(some 3),.mov (.t 11),none⟩]))
 (.ops [⟨(some 8),.mov (.t 4),none⟩,
 ⟨(some 9),.bin .add .no (.t 8) (.c (.int .i64 1)),none⟩,
 ⟨(some 4),.mov (.t 9),none⟩]))
def R_purserref01_power_0 : C := .seq (.ops [⟨(some 12),.mov (.t 3),none⟩,
 ⟨(some 2),.mov (.t 12),none⟩])
 (.ret)
/-- purser/purserref01.power -/
def f_purserref01_power : Fn := ⟨13,[.tmp 2],
 .seq (.ops [⟨(some 2),.mov (.c (.int .u64 0)),none⟩])
 (.seq (.ops [⟨(some 3),.mov (.c (.int .u64 1)),none⟩])
 (.seq (.seq (.ops [⟨(some 4),.mov (.c (.int .i64 0)),none⟩])
 (.block 0 (.loop (L_purserref01_power_0))))
 (R_purserref01_power_0)))⟩
/-- purser/octet.mark -/
def f_octet_mark : Fn := ⟨8,[.tmp 2],
 .seq (.ops [⟨(some 2),.mov (.c (.int .u8 0)),none⟩])
 (.seq (.seq (.ops [⟨(some 3),.mov (.t 0),none⟩])
 (.block 0 (.seq (.ops [⟨(some 5),.bin .eql .no (.t 3) (.c (.int .i64 2)),none⟩,
 ⟨(some 4),.mov (.t 5),none⟩])
 (.cond (.t 4)
 (.seq (.ops [⟨(some 2),.mov (.c (.int .u8 253)),none⟩])
 (.ret))
 (.seq (.ops [⟨(some 7),.bin .eql .no (.t 3) (.c (.int .i64 4)),none⟩,
 ⟨(some 6),.mov (.t 7),none⟩])
 (.cond (.t 6)
 (.seq (.ops [⟨(some 2),.mov (.c (.int .u8 254)),none⟩])
 (.ret))
 (.skip)))))))
 (.seq (.ops [⟨(some 2),.mov (.c (.int .u8 255)),none⟩])
 (.ret)))⟩
/-- purser/octet.highFirst -/
def f_octet_highFirst : Fn := ⟨6,[.tmp 4],
 .seq (.ops [⟨(some 2),.box (.t 0),none⟩,
 ⟨(some 3),.box (.t 1),none⟩,
 ⟨(some 4),.mov (.c .nilFn),none⟩])
 (.seq (.ops [⟨(some 5),.mkfn k_octet_highFirst_1 [] [(.t 3),(.t 2)],none⟩,
 ⟨(some 4),.mov (.t 5),none⟩])
 (.ret))⟩
def L_octet_number_0 : C := .seq (.seq (.ops [⟨(some 8),.mov (.t 4),none⟩,
 ⟨(some 9),.bin .geq .no (.t 8) (.c (.int .i64 0)),none⟩])
 (.cond (.t 9)
 (.skip)
 (.exit 0)))
 (.seq (.block 1 (.ops [⟨(some 12),.mov (.t 3),none⟩,
 ⟨(some 13),.bin .shl .no (.t 12) (.c (.int .u64 8)),none⟩,
 ⟨(some 14),.mov (.t 0),none⟩,
 ⟨(some 15),.mov (.t 4),none⟩,
 ⟨(some 16),.idxAddrS 1 (.t 14) (.t 15),none⟩,
 ⟨(some 17),.load none (.t 16),none⟩,
 ⟨(some 18),.conv .u64 (.t 17),none⟩,
 ⟨(some 19),.bin .or .no (.t 13) (.t 18),none⟩,
 ⟨(some 3),.mov (.t 19),none⟩]))
 (.ops [⟨(some 10),.mov (.t 4),none⟩,
 ⟨(some 11),.bin .sub .no (.t 10) (.c (.int .i64 1)),none⟩,
 ⟨(some 4),.mov (.t 11),none⟩]))
def R_octet_number_0 : C := .seq (.ops [⟨(some 20),.mov (.t 3),none⟩,
 ⟨(some 2),.mov (.t 20),none⟩])
 (.ret)
/-- purser/octet.number -/
def f_octet_number : Fn := ⟨21,[.tmp 2],
 .seq (.ops [⟨(some 2),.mov (.c (.int .u64 0)),none⟩])
 (.seq (.ops [⟨(some 3),.mov (.c (.int .u64 0)),none⟩])
 (.seq (.seq (.ops [⟨(some 5),.mov (.t 0),none⟩,
 ⟨(some 6),.len false (.t 5),none⟩,
 ⟨(some 7),.bin .sub .no (.t 6) (.c (.int .i64 1)),none⟩,
 ⟨(some 4),.mov (.t 7),none⟩])
 (.block 0 (.loop (L_octet_number_0))))
 (R_octet_number_0)))⟩
/-- purser/octet.compact -/
def f_octet_compact : Fn := ⟨33,[.tmp 2,.tmp 3,.tmp 4],
 .seq (.ops [⟨(some 2),.mov (.c (.int .u64 0)),none⟩,
 ⟨(some 3),.mov (.c (.int .i64 0)),none⟩,
 ⟨(some 4),.mov (.c (.bool false)),none⟩])
 (.seq (.seq (.ops [⟨(some 5),.mov (.t 0),none⟩,
 ⟨(some 6),.len false (.t 5),none⟩,
 ⟨(some 7),.bin .eql .no (.t 6) (.c (.int .i64 0)),none⟩])
 (.cond (.t 7)
 (.seq (.ops [⟨(some 2),.mov (.c (.int .u64 0)),none⟩,
 ⟨(some 3),.mov (.c (.int .i64 0)),none⟩,
 ⟨(some 4),.mov (.c (.bool false)),none⟩])
 (.ret))
 (.skip)))
 (.seq (.ops [⟨(some 8),.mov (.t 0),none⟩,
 ⟨(some 9),.idxAddrS 1 (.t 8) (.c (.int .i64 0)),none⟩,
 ⟨(some 10),.load none (.t 9),none⟩,
 ⟨(some 11),.call k_octet_following [(.t 10)],none⟩,
 ⟨(some 12),.bin .add .no (.c (.int .i64 1)) (.t 11),none⟩,
 ⟨(some 3),.mov (.t 12),none⟩])
 (.seq (.seq (.ops [⟨(some 13),.mov (.t 0),none⟩,
 ⟨(some 14),.len false (.t 13),none⟩,
 ⟨(some 15),.mov (.t 3),none⟩,
 ⟨(some 16),.bin .lss .no (.t 14) (.t 15),none⟩])
 (.cond (.t 16)
 (.seq (.ops [⟨(some 2),.mov (.c (.int .u64 0)),none⟩,
 ⟨(some 3),.mov (.c (.int .i64 0)),none⟩,
 ⟨(some 4),.mov (.c (.bool false)),none⟩])
 (.ret))
 (.skip)))
 (.seq (.ops [⟨(some 17),.mov (.t 0),none⟩,
 ⟨(some 18),.idxAddrS 1 (.t 17) (.c (.int .i64 0)),none⟩,
 ⟨(some 19),.load none (.t 18),none⟩,
 ⟨(some 20),.conv .u64 (.t 19),none⟩,
 ⟨(some 2),.mov (.t 20),none⟩])
 (.seq (.seq (.ops [⟨(some 21),.mov (.t 3),none⟩,
 ⟨(some 22),.bin .gtr .no (.t 21) (.c (.int .i64 1)),none⟩])
 (.cond (.t 22)
 (.ops [⟨(some 23),.mov (.t 0),none⟩,
 ⟨(some 24),.mov (.t 3),none⟩,
 ⟨(some 25),.slcS 1 (.t 23) (some (.c (.int .i64 1))) (some (.t 24)) none,none⟩,
 ⟨(some 26),.call k_octet_number [(.t 25)],none⟩,
 ⟨(some 2),.mov (.t 26),none⟩])
 (.skip)))
 (.seq (.ops [⟨(some 27),.mov (.t 2),none⟩,
 ⟨(some 28),.mov (.t 3),none⟩,
 ⟨(some 29),.mov (.t 2),none⟩,
 ⟨(some 30),.call k_octet_Compact [(.t 29)],none⟩,
 ⟨(some 31),.mov (.t 3),none⟩,
 ⟨(some 32),.bin .eql .no (.t 30) (.t 31),none⟩,
 ⟨(some 2),.mov (.t 27),none⟩,
 ⟨(some 3),.mov (.t 28),none⟩,
 ⟨(some 4),.mov (.t 32),none⟩])
 (.ret)))))))⟩
/-- (*purser/octet.Eye).take -/
def f_octet_Eye_take : Fn := ⟨31,[.tmp 4],
 .seq (.ops [⟨(some 4),.mov (.c (.slice none 0 (some 0) 0)),none⟩])
 (.seq (.dops 0 [] [(⟨(some 6),.mov (.t 0),none⟩,.L),
 (⟨(some 7),.nilchk (.t 6),none⟩,.L),
 (⟨(some 8),.fieldAddr 0 (.t 7),none⟩,.L),
 (⟨(some 9),.load none (.t 8),none⟩,.R [] []),
 (⟨(some 10),.mov (.t 0),none⟩,.L),
 (⟨(some 11),.nilchk (.t 10),none⟩,.L),
 (⟨(some 12),.fieldAddr 1 (.t 11),none⟩,.L),
 (⟨(some 13),.load none (.t 12),none⟩,.R [] []),
 (⟨(some 14),.mov (.t 0),none⟩,.L),
 (⟨(some 15),.nilchk (.t 14),none⟩,.L),
 (⟨(some 16),.fieldAddr 1 (.t 15),none⟩,.L),
 (⟨(some 17),.load none (.t 16),none⟩,.R [] []),
 (⟨(some 18),.mov (.t 1),none⟩,.L),
 (⟨(some 19),.bin .add .no (.t 17) (.t 18),none⟩,.L),
 (⟨(some 20),.slcS 1 (.t 9) (some (.t 13)) (some (.t 19)) none,none⟩,.L),
 (⟨(some 21),.append 1 1 (.c (.slice none 0 (some 0) 0)) (.t 20),none⟩,.B []),
 (⟨(some 5),.mov (.t 21),none⟩,.L)])
 (.seq (.ops [⟨(some 22),.mov (.t 0),none⟩,
 ⟨(some 23),.nilchk (.t 22),none⟩,
 ⟨(some 24),.fieldAddr 1 (.t 23),none⟩,
 ⟨(some 25),.load none (.t 24),none⟩,
 ⟨(some 26),.mov (.t 1),none⟩,
 ⟨(some 27),.bin .add .no (.t 25) (.t 26),none⟩,
 ⟨(some 28),.nilchk (.t 22),none⟩,
 ⟨(some 29),.fieldAddr 1 (.t 28),none⟩,
 ⟨none,.store 1 (.t 29) (.t 27),none⟩])
 (.seq (.ops [⟨(some 30),.mov (.t 5),none⟩,
 ⟨(some 4),.mov (.t 30),none⟩])
 (.ret))))⟩
/-- purser/tx.counted -/
def f_tx_counted : Fn := ⟨9,[.tmp 2],
 .seq (.ops [⟨(some 2),.mov (.c (.bool false)),none⟩])
 (.seq (.ops [⟨(some 3),.mov (.t 0),none⟩,
 ⟨(some 4),.bin .geq .no (.t 3) (.c (.int .i64 1)),none⟩,
 ⟨(some 5),.mov (.t 4),none⟩,
 ⟨(some 6),.mov (.t 0),(some (5,true))⟩,
 ⟨(some 7),.bin .leq .no (.t 6) (.c (.int .i64 50)),(some (5,true))⟩,
 ⟨(some 8),.pick (.t 5) (.t 7) (.c (.bool false)),none⟩,
 ⟨(some 2),.mov (.t 8),none⟩])
 (.ret))⟩
/-- purser/tx.scripts -/
def f_tx_scripts : Fn := ⟨4,[.tmp 2],
 .seq (.ops [⟨(some 1),.box (.t 0),none⟩,
 ⟨(some 2),.mov (.c .nilFn),none⟩])
 (.seq (.ops [⟨(some 3),.mkfn k_tx_scripts_1 [] [(.t 1)],none⟩,
 ⟨(some 2),.mov (.t 3),none⟩])
 (.ret))⟩
/-- (*purser/tx.reader).word -/
def f_tx_reader_word : Fn := ⟨18,[.tmp 2],
 .seq (.ops [⟨(some 2),.mov (.c (.int .u32 0)),none⟩])
 (.seq (.ops [⟨(some 6),.mov (.t 0),none⟩,
 ⟨(some 7),.nilchk (.t 6),none⟩,
 ⟨(some 8),.fieldAddr 0 (.t 7),none⟩,
 ⟨(some 9),.load none (.t 8),none⟩,
 ⟨(some 10),.call k_octet_Eye_Fixed [(.t 9),(.c (.int .i64 4))],none⟩,
 ⟨(some 5),.mov (.t 10),none⟩,
 ⟨(some 11),.ext (.t 5) 0,none⟩,
 ⟨(some 12),.ext (.t 5) 1,none⟩,
 ⟨(some 3),.mov (.t 11),none⟩,
 ⟨(some 4),.mov (.t 12),none⟩])
 (.seq (.ops [⟨(some 13),.mov (.t 0),none⟩,
 ⟨(some 14),.mov (.t 4),none⟩,
 ⟨(some 15),.call k_tx_reader_note [(.t 13),(.t 14)],none⟩])
 (.seq (.ops [⟨(some 16),.mov (.t 3),none⟩,
 ⟨(some 17),.conv .u32 (.t 16),none⟩,
 ⟨(some 2),.mov (.t 17),none⟩])
 (.ret))))⟩
def L_tx_list_api_In_0 : C := .seq (.seq (.ops [⟨(some 28),.mov (.t 7),none⟩,
 ⟨(some 29),.len false (.t 28),none⟩,
 ⟨(some 30),.conv .u64 (.t 29),none⟩,
 ⟨(some 31),.mov (.t 5),none⟩,
 ⟨(some 32),.bin .lss .no (.t 30) (.t 31),none⟩,
 ⟨(some 33),.mov (.t 32),none⟩,
 ⟨(some 34),.mov (.t 0),(some (33,true))⟩,
 ⟨(some 35),.nilchk (.t 34),(some (33,true))⟩,
 ⟨(some 36),.fieldAddr 1 (.t 35),(some (33,true))⟩,
 ⟨(some 37),.load none (.t 36),(some (33,true))⟩,
 ⟨(some 38),.un .not (.t 37),(some (33,true))⟩,
 ⟨(some 39),.pick (.t 33) (.t 38) (.c (.bool false)),none⟩])
 (.cond (.t 39)
 (.skip)
 (.exit 0)))
 (.block 1 (.ops [⟨(some 40),.mov (.t 7),none⟩,
 ⟨(some 41),.mov (.t 1),none⟩,
 ⟨(some 42),.callv (.t 41) [],none⟩,
 ⟨(some 43),.buildS [(.int .u8 0),(.int .u8 0),(.int .u8 0),(.int .u8 0),(.int .u8 0),(.int .u8 0),(.int .u8 0),(.int .u8 0),(.int .u8 0),(.int .u8 0),(.int .u8 0),(.int .u8 0),(.int .u8 0),(.int .u8 0),(.int .u8 0),(.int .u8 0),(.int .u8 0),(.int .u8 0),(.int .u8 0),(.int .u8 0),(.int .u8 0),(.int .u8 0),(.int .u8 0),(.int .u8 0),(.int .u8 0),(.int .u8 0),(.int .u8 0),(.int .u8 0),(.int .u8 0),(.int .u8 0),(.int .u8 0),(.int .u8 0),(.int .u32 0),(.slice none 0 (some 0) 0),(.int .u32 0)] 1 35 [(0,35,(.t 42))],none⟩,
 ⟨(some 44),.append 35 72 (.t 40) (.t 43),none⟩,
 ⟨(some 7),.mov (.t 44),none⟩]))
def R_tx_list_api_In_0 : C := .seq (.ops [⟨(some 45),.mov (.t 7),none⟩,
 ⟨(some 4),.mov (.t 45),none⟩])
 (.ret)
/-- purser/tx.list[purser/api.In] -/
def f_tx_list_api_In : Fn := ⟨46,[.tmp 4],
 .seq (.ops [⟨(some 4),.mov (.c (.slice none 0 (some 0) 0)),none⟩])
 (.seq (.ops [⟨(some 9),.mov (.t 0),none⟩,
 ⟨(some 10),.nilchk (.t 9),none⟩,
 ⟨(some 11),.fieldAddr 0 (.t 10),none⟩,
 ⟨(some 12),.load none (.t 11),none⟩,
 ⟨(some 13),.call k_octet_Eye_Size [(.t 12)],none⟩,
 ⟨(some 8),.mov (.t 13),none⟩,
 ⟨(some 14),.ext (.t 8) 0,none⟩,
 ⟨(some 15),.ext (.t 8) 1,none⟩,
 ⟨(some 5),.mov (.t 14),none⟩,
 ⟨(some 6),.mov (.t 15),none⟩])
 (.seq (.ops [⟨(some 16),.mov (.t 0),none⟩,
 ⟨(some 17),.mov (.t 6),none⟩,
 ⟨(some 18),.call k_tx_reader_note [(.t 16),(.t 17)],none⟩])
 (.seq (.seq (.ops [⟨(some 19),.mov (.t 5),none⟩,
 ⟨(some 20),.bin .lss .no (.t 19) (.c (.int .u64 1)),none⟩,
 ⟨(some 21),.mov (.t 20),none⟩,
 ⟨(some 22),.mov (.t 5),(some (21,false))⟩,
 ⟨(some 23),.bin .gtr .no (.t 22) (.c (.int .u64 50)),(some (21,false))⟩,
 ⟨(some 24),.pick (.t 21) (.c (.bool true)) (.t 23),none⟩])
 (.cond (.t 24)
 (.ops [⟨(some 25),.mov (.t 0),none⟩,
 ⟨(some 26),.nilchk (.t 25),none⟩,
 ⟨(some 27),.fieldAddr 1 (.t 26),none⟩,
 ⟨none,.store 1 (.t 27) (.c (.bool true)),none⟩])
 (.skip)))
 (.seq (.ops [⟨(some 7),.mov (.c (.slice none 0 (some 0) 0)),none⟩])
 (.seq (.block 0 (.loop (L_tx_list_api_In_0)))
 (R_tx_list_api_In_0))))))⟩
/-- (*purser/tx.reader).in -/
def f_tx_reader_in : Fn := ⟨13,[.cell 2 (some 35)],
 .seq (.ops [⟨(some 2),.alloc [(.int .u8 0),(.int .u8 0),(.int .u8 0),(.int .u8 0),(.int .u8 0),(.int .u8 0),(.int .u8 0),(.int .u8 0),(.int .u8 0),(.int .u8 0),(.int .u8 0),(.int .u8 0),(.int .u8 0),(.int .u8 0),(.int .u8 0),(.int .u8 0),(.int .u8 0),(.int .u8 0),(.int .u8 0),(.int .u8 0),(.int .u8 0),(.int .u8 0),(.int .u8 0),(.int .u8 0),(.int .u8 0),(.int .u8 0),(.int .u8 0),(.int .u8 0),(.int .u8 0),(.int .u8 0),(.int .u8 0),(.int .u8 0),(.int .u32 0),(.slice none 0 (some 0) 0),(.int .u32 0)],none⟩])
 (.seq (.ops [⟨(some 3),.mov (.t 0),none⟩,
 ⟨(some 4),.call k_tx_reader_hash [(.t 3)],none⟩,
 ⟨(some 5),.mov (.t 0),none⟩,
 ⟨(some 6),.call k_tx_reader_word [(.t 5)],none⟩,
 ⟨(some 7),.build [(.int .u8 0),(.int .u8 0),(.int .u8 0),(.int .u8 0),(.int .u8 0),(.int .u8 0),(.int .u8 0),(.int .u8 0),(.int .u8 0),(.int .u8 0),(.int .u8 0),(.int .u8 0),(.int .u8 0),(.int .u8 0),(.int .u8 0),(.int .u8 0),(.int .u8 0),(.int .u8 0),(.int .u8 0),(.int .u8 0),(.int .u8 0),(.int .u8 0),(.int .u8 0),(.int .u8 0),(.int .u8 0),(.int .u8 0),(.int .u8 0),(.int .u8 0),(.int .u8 0),(.int .u8 0),(.int .u8 0),(.int .u8 0),(.int .u32 0)] [(0,32,(.t 4)),(32,1,(.t 6))],none⟩,
 ⟨(some 8),.mov (.t 0),none⟩,
 ⟨(some 9),.call k_tx_reader_script [(.t 8)],none⟩,
 ⟨(some 10),.mov (.t 0),none⟩,
 ⟨(some 11),.call k_tx_reader_word [(.t 10)],none⟩,
 ⟨(some 12),.build [(.int .u8 0),(.int .u8 0),(.int .u8 0),(.int .u8 0),(.int .u8 0),(.int .u8 0),(.int .u8 0),(.int .u8 0),(.int .u8 0),(.int .u8 0),(.int .u8 0),(.int .u8 0),(.int .u8 0),(.int .u8 0),(.int .u8 0),(.int .u8 0),(.int .u8 0),(.int .u8 0),(.int .u8 0),(.int .u8 0),(.int .u8 0),(.int .u8 0),(.int .u8 0),(.int .u8 0),(.int .u8 0),(.int .u8 0),(.int .u8 0),(.int .u8 0),(.int .u8 0),(.int .u8 0),(.int .u8 0),(.int .u8 0),(.int .u32 0),(.slice none 0 (some 0) 0),(.int .u32 0)] [(0,33,(.t 7)),(33,1,(.t 9)),(34,1,(.t 11))],none⟩,
 ⟨none,.store 35 (.t 2) (.t 12),none⟩])
 (.ret))⟩
def L_tx_list_api_Out_0 : C := .seq (.seq (.ops [⟨(some 28),.mov (.t 7),none⟩,
 ⟨(some 29),.len false (.t 28),none⟩,
 ⟨(some 30),.conv .u64 (.t 29),none⟩,
 ⟨(some 31),.mov (.t 5),none⟩,
 ⟨(some 32),.bin .lss .no (.t 30) (.t 31),none⟩,
 ⟨(some 33),.mov (.t 32),none⟩,
 ⟨(some 34),.mov (.t 0),(some (33,true))⟩,
 ⟨(some 35),.nilchk (.t 34),(some (33,true))⟩,
 ⟨(some 36),.fieldAddr 1 (.t 35),(some (33,true))⟩,
 ⟨(some 37),.load none (.t 36),(some (33,true))⟩,
 ⟨(some 38),.un .not (.t 37),(some (33,true))⟩,
 ⟨(some 39),.pick (.t 33) (.t 38) (.c (.bool false)),none⟩])
 (.cond (.t 39)
 (.skip)
 (.exit 0)))
 (.block 1 (.ops [⟨(some 40),.mov (.t 7),none⟩,
 ⟨(some 41),.mov (.t 1),none⟩,
 ⟨(some 42),.callv (.t 41) [],none⟩,
 ⟨(some 43),.buildS [(.int .i64 0),(.slice none 0 (some 0) 0)] 1 2 [(0,2,(.t 42))],none⟩,
 ⟨(some 44),.append 2 32 (.t 40) (.t 43),none⟩,
 ⟨(some 7),.mov (.t 44),none⟩]))
def R_tx_list_api_Out_0 : C := .seq (.ops [⟨(some 45),.mov (.t 7),none⟩,
 ⟨(some 4),.mov (.t 45),none⟩])
 (.ret)
/-- purser/tx.list[purser/api.Out] -/
def f_tx_list_api_Out : Fn := ⟨46,[.tmp 4],
 .seq (.ops [⟨(some 4),.mov (.c (.slice none 0 (some 0) 0)),none⟩])
 (.seq (.ops [⟨(some 9),.mov (.t 0),none⟩,
 ⟨(some 10),.nilchk (.t 9),none⟩,
 ⟨(some 11),.fieldAddr 0 (.t 10),none⟩,
 ⟨(some 12),.load none (.t 11),none⟩,
 ⟨(some 13),.call k_octet_Eye_Size [(.t 12)],none⟩,
 ⟨(some 8),.mov (.t 13),none⟩,
 ⟨(some 14),.ext (.t 8) 0,none⟩,
 ⟨(some 15),.ext (.t 8) 1,none⟩,
 ⟨(some 5),.mov (.t 14),none⟩,
 ⟨(some 6),.mov (.t 15),none⟩])
 (.seq (.ops [⟨(some 16),.mov (.t 0),none⟩,
 ⟨(some 17),.mov (.t 6),none⟩,
 ⟨(some 18),.call k_tx_reader_note [(.t 16),(.t 17)],none⟩])
 (.seq (.seq (.ops [⟨(some 19),.mov (.t 5),none⟩,
 ⟨(some 20),.bin .lss .no (.t 19) (.c (.int .u64 1)),none⟩,
 ⟨(some 21),.mov (.t 20),none⟩,
 ⟨(some 22),.mov (.t 5),(some (21,false))⟩,
 ⟨(some 23),.bin .gtr .no (.t 22) (.c (.int .u64 50)),(some (21,false))⟩,
 ⟨(some 24),.pick (.t 21) (.c (.bool true)) (.t 23),none⟩])
 (.cond (.t 24)
 (.ops [⟨(some 25),.mov (.t 0),none⟩,
 ⟨(some 26),.nilchk (.t 25),none⟩,
 ⟨(some 27),.fieldAddr 1 (.t 26),none⟩,
 ⟨none,.store 1 (.t 27) (.c (.bool true)),none⟩])
 (.skip)))
 (.seq (.ops [⟨(some 7),.mov (.c (.slice none 0 (some 0) 0)),none⟩])
 (.seq (.block 0 (.loop (L_tx_list_api_Out_0)))
 (R_tx_list_api_Out_0))))))⟩
/-- (*purser/tx.reader).out -/
def f_tx_reader_out : Fn := ⟨21,[.cell 2 (some 2)],
 .seq (.ops [⟨(some 2),.alloc [(.int .i64 0),(.slice none 0 (some 0) 0)],none⟩])
 (.seq (.ops [⟨(some 6),.mov (.t 0),none⟩,
 ⟨(some 7),.nilchk (.t 6),none⟩,
 ⟨(some 8),.fieldAddr 0 (.t 7),none⟩,
 ⟨(some 9),.load none (.t 8),none⟩,
 ⟨(some 10),.call k_octet_Eye_Fixed [(.t 9),(.c (.int .i64 8))],none⟩,
 ⟨(some 5),.mov (.t 10),none⟩,
 ⟨(some 11),.ext (.t 5) 0,none⟩,
 ⟨(some 12),.ext (.t 5) 1,none⟩,
 ⟨(some 3),.mov (.t 11),none⟩,
 ⟨(some 4),.mov (.t 12),none⟩])
 (.seq (.ops [⟨(some 13),.mov (.t 0),none⟩,
 ⟨(some 14),.mov (.t 4),none⟩,
 ⟨(some 15),.call k_tx_reader_note [(.t 13),(.t 14)],none⟩])
 (.seq (.ops [⟨(some 16),.mov (.t 3),none⟩,
 ⟨(some 17),.conv .i64 (.t 16),none⟩,
 ⟨(some 18),.mov (.t 0),none⟩,
 ⟨(some 19),.call k_tx_reader_script [(.t 18)],none⟩,
 ⟨(some 20),.build [(.int .i64 0),(.slice none 0 (some 0) 0)] [(0,1,(.t 17)),(1,1,(.t 19))],none⟩,
 ⟨none,.store 2 (.t 2) (.t 20),none⟩])
 (.ret))))⟩
def L_slices_Reverse_byte_byte_0 : C := .seq (.seq (.ops [⟨(some 7),.mov (.t 2),none⟩,
 ⟨(some 8),.mov (.t 3),none⟩,
 ⟨(some 9),.bin .lss .no (.t 7) (.t 8),none⟩])
 (.cond (.t 9)
 (.skip)
 (.exit 0)))
 (.seq (.block 1 (.dops 0 [] [(⟨(some 14),.mov (.t 0),none⟩,.L),
 (⟨(some 15),.mov (.t 2),none⟩,.L),
 (⟨(some 16),.mov (.t 0),none⟩,.L),
 (⟨(some 17),.mov (.t 3),none⟩,.L),
 (⟨(some 18),.mov (.t 0),none⟩,.L),
 (⟨(some 19),.mov (.t 3),none⟩,.L),
 (⟨(some 20),.idxAddrS 1 (.t 18) (.t 19),none⟩,.L),
 (⟨(some 21),.load none (.t 20),none⟩,.R [] []),
 (⟨(some 22),.mov (.t 0),none⟩,.L),
 (⟨(some 23),.mov (.t 2),none⟩,.L),
 (⟨(some 24),.idxAddrS 1 (.t 22) (.t 23),none⟩,.L),
 (⟨(some 25),.load none (.t 24),none⟩,.R [] []),
 (⟨(some 26),.idxAddrS 1 (.t 14) (.t 15),none⟩,.L),
 (⟨none,.store 1 (.t 26) (.t 21),none⟩,.B []),
 (⟨(some 27),.idxAddrS 1 (.t 16) (.t 17),none⟩,.L),
 (⟨none,.store 1 (.t 27) (.t 25),none⟩,.B [])]))
 (.ops [⟨(some 10),.mov (.t 2),none⟩,
 ⟨(some 11),.bin .add .no (.t 10) (.c (.int .i64 1)),none⟩,
 ⟨(some 12),.mov (.t 3),none⟩,
 ⟨(some 13),.bin .sub .no (.t 12) (.c (.int .i64 1)),none⟩,
 ⟨(some 2),.mov (.t 11),none⟩,
 ⟨(some 3),.mov (.t 13),none⟩]))
/-- slices.Reverse[[]byte,byte] -/
def f_slices_Reverse_byte_byte : Fn := ⟨28,[],
 .seq (.ops [⟨(some 4),.mov (.t 0),none⟩,
 ⟨(some 5),.len false (.t 4),none⟩,
 ⟨(some 6),.bin .sub .no (.t 5) (.c (.int .i64 1)),none⟩,
 ⟨(some 2),.mov (.c (.int .i64 0)),none⟩,
 ⟨(some 3),.mov (.t 6),none⟩])
 (.block 0 (.loop (L_slices_Reverse_byte_byte_0)))⟩
def L_block_txs_1_0 : C := .block 1 (.seq (.ops [⟨(some 7),.load none (.t 1),none⟩,
 ⟨(some 8),.call k_tx_First [(.t 7)],none⟩,
 ⟨(some 6),.mov (.t 8),none⟩,
 ⟨(some 9),.ext (.t 6) 0,none⟩,
 ⟨(some 10),.ext (.t 6) 1,none⟩,
 ⟨(some 11),.ext (.t 6) 2,none⟩,
 ⟨(some 3),.alloc [(.int .u32 0),(.slice none 0 (some 0) 0),(.slice none 0 (some 0) 0),(.int .u32 0)],none⟩,
 ⟨none,.store 4 (.t 3) (.t 9),none⟩,
 ⟨(some 4),.mov (.t 10),none⟩,
 ⟨(some 5),.mov (.t 11),none⟩])
 (.seq (.seq (.ops [⟨(some 12),.mov (.t 5),none⟩,
 ⟨(some 13),.bin .neq .no (.t 12) (.c (.int .i64 0)),none⟩,
 ⟨(some 14),.mov (.t 13),none⟩,
 ⟨(some 15),.mov (.t 0),(some (14,false))⟩,
 ⟨(some 16),.load (some 4) (.t 3),(some (14,false))⟩,
 ⟨(some 17),.mov (.t 4),(some (14,false))⟩,
 ⟨(some 18),.callv (.t 15) [(.t 16),(.t 17)],(some (14,false))⟩,
 ⟨(some 19),.un .not (.t 18),(some (14,false))⟩,
 ⟨(some 20),.pick (.t 14) (.c (.bool true)) (.t 19),none⟩])
 (.cond (.t 20)
 (.ret)
 (.skip)))
 (.ops [⟨(some 21),.load none (.t 1),none⟩,
 ⟨(some 22),.mov (.t 4),none⟩,
 ⟨(some 23),.slcS 1 (.t 21) (some (.t 22)) none none,none⟩,
 ⟨none,.store 1 (.t 1) (.t 23),none⟩])))
/-- purser/block.txs$1 -/
def f_block_txs_1 : Fn := ⟨24,[],
 .block 0 (.loop (L_block_txs_1_0))⟩
def L_purserref06_Bytes_0 : C := .seq (.seq (.ops [⟨(some 18),.mov (.t 4),none⟩,
 ⟨(some 19),.fieldAddr 1 (.t 1),none⟩,
 ⟨(some 20),.load none (.t 19),none⟩,
 ⟨(some 21),.len false (.t 20),none⟩,
 ⟨(some 22),.bin .lss .no (.t 18) (.t 21),none⟩])
 (.cond (.t 22)
 (.skip)
 (.exit 0)))
 (.seq (.block 1 (.seq (.ops [⟨(some 25),.fieldAddr 1 (.t 1),none⟩,
 ⟨(some 26),.load none (.t 25),none⟩,
 ⟨(some 27),.mov (.t 4),none⟩,
 ⟨(some 28),.idxAddrS 35 (.t 26) (.t 27),none⟩,
 ⟨(some 29),.load (some 35) (.t 28),none⟩,
 ⟨(some 5),.alloc [(.int .u8 0),(.int .u8 0),(.int .u8 0),(.int .u8 0),(.int .u8 0),(.int .u8 0),(.int .u8 0),(.int .u8 0),(.int .u8 0),(.int .u8 0),(.int .u8 0),(.int .u8 0),(.int .u8 0),(.int .u8 0),(.int .u8 0),(.int .u8 0),(.int .u8 0),(.int .u8 0),(.int .u8 0),(.int .u8 0),(.int .u8 0),(.int .u8 0),(.int .u8 0),(.int .u8 0),(.int .u8 0),(.int .u8 0),(.int .u8 0),(.int .u8 0),(.int .u8 0),(.int .u8 0),(.int .u8 0),(.int .u8 0),(.int .u32 0),(.slice none 0 (some 0) 0),(.int .u32 0)],none⟩,
 ⟨none,.store 35 (.t 5) (.t 29),none⟩])
 (.seq (.ops [⟨(some 30),.mov (.t 3),none⟩,
 ⟨(some 31),.fieldAddr 0 (.t 5),none⟩,
 ⟨(some 32),.fieldAddr 0 (.t 31),none⟩,
 ⟨(some 33),.slcA 32 1 (.t 32) none none none,none⟩,
 ⟨(some 34),.append 1 1 (.t 30) (.t 33),none⟩,
 ⟨(some 3),.mov (.t 34),none⟩])
 (.seq (.ops [⟨(some 35),.mov (.t 3),none⟩,
 ⟨(some 36),.fieldAddr 0 (.t 5),none⟩,
 ⟨(some 37),.fieldAddr 32 (.t 36),none⟩,
 ⟨(some 38),.load none (.t 37),none⟩,
 ⟨(some 39),.conv .u64 (.t 38),none⟩,
 ⟨(some 40),.call k_purserref06_num [(.c (.int .i64 4)),(.t 39)],none⟩,
 ⟨(some 41),.append 1 1 (.t 35) (.t 40),none⟩,
 ⟨(some 3),.mov (.t 41),none⟩])
 (.seq (.ops [⟨(some 42),.mov (.t 3),none⟩,
 ⟨(some 43),.fieldAddr 33 (.t 5),none⟩,
 ⟨(some 44),.load none (.t 43),none⟩,
 ⟨(some 45),.call k_purserref01_Bytes [(.t 44)],none⟩,
 ⟨(some 46),.append 1 1 (.t 42) (.t 45),none⟩,
 ⟨(some 3),.mov (.t 46),none⟩])
 (.ops [⟨(some 47),.mov (.t 3),none⟩,
 ⟨(some 48),.fieldAddr 34 (.t 5),none⟩,
 ⟨(some 49),.load none (.t 48),none⟩,
 ⟨(some 50),.conv .u64 (.t 49),none⟩,
 ⟨(some 51),.call k_purserref06_num [(.c (.int .i64 4)),(.t 50)],none⟩,
 ⟨(some 52),.append 1 1 (.t 47) (.t 51),none⟩,
 ⟨(some 3),.mov (.t 52),none⟩]))))))
 (.ops [⟨(some 23),.mov (.t 4),none⟩,
 ⟨(some 24),.bin .add .no (.t 23) (.c (.int .i64 1)),none⟩,
 ⟨(some 4),.mov (.t 24),none⟩]))
def L_purserref06_Bytes_1 : C := .seq (.seq (.ops [⟨(some 60),.mov (.t 6),none⟩,
 ⟨(some 61),.fieldAddr 2 (.t 1),none⟩,
 ⟨(some 62),.load none (.t 61),none⟩,
 ⟨(some 63),.len false (.t 62),none⟩,
 ⟨(some 64),.bin .lss .no (.t 60) (.t 63),none⟩])
 (.cond (.t 64)
 (.skip)
 (.exit 2)))
 (.seq (.block 3 (.seq (.ops [⟨(some 67),.mov (.t 3),none⟩,
 ⟨(some 68),.fieldAddr 2 (.t 1),none⟩,
 ⟨(some 69),.load none (.t 68),none⟩,
 ⟨(some 70),.mov (.t 6),none⟩,
 ⟨(some 71),.idxAddrS 2 (.t 69) (.t 70),none⟩,
 ⟨(some 72),.fieldAddr 0 (.t 71),none⟩,
 ⟨(some 73),.load none (.t 72),none⟩,
 ⟨(some 74),.conv .u64 (.t 73),none⟩,
 ⟨(some 75),.call k_purserref06_num [(.c (.int .i64 8)),(.t 74)],none⟩,
 ⟨(some 76),.append 1 1 (.t 67) (.t 75),none⟩,
 ⟨(some 3),.mov (.t 76),none⟩])
 (.ops [⟨(some 77),.mov (.t 3),none⟩,
 ⟨(some 78),.fieldAddr 2 (.t 1),none⟩,
 ⟨(some 79),.load none (.t 78),none⟩,
 ⟨(some 80),.mov (.t 6),none⟩,
 ⟨(some 81),.idxAddrS 2 (.t 79) (.t 80),none⟩,
 ⟨(some 82),.fieldAddr 1 (.t 81),none⟩,
 ⟨(some 83),.load none (.t 82),none⟩,
 ⟨(some 84),.call k_purserref01_Bytes [(.t 83)],none⟩,
 ⟨(some 85),.append 1 1 (.t 77) (.t 84),none⟩,
 ⟨(some 3),.mov (.t 85),none⟩])))
 (.ops [⟨(some 65),.mov (.t 6),none⟩,
 ⟨(some 66),.bin .add .no (.t 65) (.c (.int .i64 1)),none⟩,
 ⟨(some 6),.mov (.t 66),none⟩]))
def R_purserref06_Bytes_0 : C := .seq (.ops [⟨(some 86),.mov (.t 3),none⟩,
 ⟨(some 87),.fieldAddr 3 (.t 1),none⟩,
 ⟨(some 88),.load none (.t 87),none⟩,
 ⟨(some 89),.conv .u64 (.t 88),none⟩,
 ⟨(some 90),.call k_purserref06_num [(.c (.int .i64 4)),(.t 89)],none⟩,
 ⟨(some 91),.append 1 1 (.t 86) (.t 90),none⟩,
 ⟨(some 2),.mov (.t 91),none⟩])
 (.ret)
def R_purserref06_Bytes_1 : C := .seq (.ops [⟨(some 53),.mov (.t 3),none⟩,
 ⟨(some 54),.fieldAddr 2 (.t 1),none⟩,
 ⟨(some 55),.load none (.t 54),none⟩,
 ⟨(some 56),.len false (.t 55),none⟩,
 ⟨(some 57),.conv .u64 (.t 56),none⟩,
 ⟨(some 58),.call k_purserref01_Size [(.t 57)],none⟩,
 ⟨(some 59),.append 1 1 (.t 53) (.t 58),none⟩,
 ⟨(some 3),.mov (.t 59),none⟩])
 (.seq (.seq (.ops [⟨(some 6),.mov (.c (.int .i64 0)),none⟩])
 (.block 2 (.loop (L_purserref06_Bytes_1))))
 (R_purserref06_Bytes_0))
/-- purser/purserref06.Bytes -/
def f_purserref06_Bytes : Fn := ⟨92,[.tmp 2],
 .seq (.ops [⟨(some 1),.box (.t 0),none⟩,
 ⟨(some 2),.mov (.c (.slice none 0 (some 0) 0)),none⟩])
 (.seq (.ops [⟨(some 7),.fieldAddr 0 (.t 1),none⟩,
 ⟨(some 8),.load none (.t 7),none⟩,
 ⟨(some 9),.conv .u64 (.t 8),none⟩,
 ⟨(some 10),.call k_purserref06_num [(.c (.int .i64 4)),(.t 9)],none⟩,
 ⟨(some 3),.mov (.t 10),none⟩])
 (.seq (.ops [⟨(some 11),.mov (.t 3),none⟩,
 ⟨(some 12),.fieldAddr 1 (.t 1),none⟩,
 ⟨(some 13),.load none (.t 12),none⟩,
 ⟨(some 14),.len false (.t 13),none⟩,
 ⟨(some 15),.conv .u64 (.t 14),none⟩,
 ⟨(some 16),.call k_purserref01_Size [(.t 15)],none⟩,
 ⟨(some 17),.append 1 1 (.t 11) (.t 16),none⟩,
 ⟨(some 3),.mov (.t 17),none⟩])
 (.seq (.seq (.ops [⟨(some 4),.mov (.c (.int .i64 0)),none⟩])
 (.block 0 (.loop (L_purserref06_Bytes_0))))
 (R_purserref06_Bytes_1))))⟩
def L_octet_highFirst_1_0 : C := .seq (.seq (.ops [⟨(some 7),.mov (.t 4),none⟩,
 ⟨(some 8),.bin .geq .no (.t 7) (.c (.int .i64 0)),none⟩])
 (.cond (.t 8)
 (.skip)
 (.exit 0)))
 (.seq (.block 1 (.seq (.ops [⟨(some 11),.mov (.t 0),none⟩,
 ⟨(some 12),.mov (.t 4),none⟩,
 ⟨(some 13),.load none (.t 2),none⟩,
 ⟨(some 14),.mov (.t 4),none⟩,
 ⟨(some 15),.bin .mul .no (.c (.int .i64 8)) (.t 14),none⟩,
 ⟨(some 16),.bin .shr .no (.t 13) (.t 15),none⟩,
 ⟨(some 17),.conv .u8 (.t 16),none⟩,
 ⟨(some 18),.callv (.t 11) [(.t 12),(.t 17)],none⟩,
 ⟨(some 19),.un .not (.t 18),none⟩])
 (.cond (.t 19)
 (.ret)
 (.skip))))
 (.ops [⟨(some 9),.mov (.t 4),none⟩,
 ⟨(some 10),.bin .sub .no (.t 9) (.c (.int .i64 1)),none⟩,
 ⟨(some 4),.mov (.t 10),none⟩]))
/-- purser/octet.highFirst$1 -/
def f_octet_highFirst_1 : Fn := ⟨20,[],
 .seq (.ops [⟨(some 5),.load none (.t 1),none⟩,
 ⟨(some 6),.bin .sub .no (.t 5) (.c (.int .i64 1)),none⟩,
 ⟨(some 4),.mov (.t 6),none⟩])
 (.block 0 (.loop (L_octet_highFirst_1_0)))⟩
/-- purser/octet.following -/
def f_octet_following : Fn := ⟨10,[.tmp 2],
 .seq (.ops [⟨(some 2),.mov (.c (.int .i64 0)),none⟩])
 (.seq (.seq (.ops [⟨(some 3),.mov (.t 0),none⟩])
 (.block 0 (.seq (.ops [⟨(some 5),.bin .eql .no (.t 3) (.c (.int .u8 253)),none⟩,
 ⟨(some 4),.mov (.t 5),none⟩])
 (.cond (.t 4)
 (.seq (.ops [⟨(some 2),.mov (.c (.int .i64 2)),none⟩])
 (.ret))
 (.seq (.ops [⟨(some 7),.bin .eql .no (.t 3) (.c (.int .u8 254)),none⟩,
 ⟨(some 6),.mov (.t 7),none⟩])
 (.cond (.t 6)
 (.seq (.ops [⟨(some 2),.mov (.c (.int .i64 4)),none⟩])
 (.ret))
 (.seq (.ops [⟨(some 9),.bin .eql .no (.t 3) (.c (.int .u8 255)),none⟩,
 ⟨(some 8),.mov (.t 9),none⟩])
 (.cond (.t 8)
 (.seq (.ops [⟨(some 2),.mov (.c (.int .i64 8)),none⟩])
 (.ret))
 (.skip)))))))))
 (.seq (.ops [⟨(some 2),.mov (.c (.int .i64 0)),none⟩])
 (.ret)))⟩
def L_tx_scripts_1_0 : C := .seq (.ops [⟨(some 11),.bin .lss .no (.t 10) (.t 9),none⟩])
 (.seq (.cond (.t 11)
 (.skip)
 (.exit 0))
 (.seq (.block 1 (.seq (.ops [⟨(some 12),.idxAddrS 35 (.t 8) (.t 10),none⟩,
 ⟨(some 13),.load (some 35) (.t 12),none⟩,
 ⟨(some 4),.alloc [(.int .u8 0),(.int .u8 0),(.int .u8 0),(.int .u8 0),(.int .u8 0),(.int .u8 0),(.int .u8 0),(.int .u8 0),(.int .u8 0),(.int .u8 0),(.int .u8 0),(.int .u8 0),(.int .u8 0),(.int .u8 0),(.int .u8 0),(.int .u8 0),(.int .u8 0),(.int .u8 0),(.int .u8 0),(.int .u8 0),(.int .u8 0),(.int .u8 0),(.int .u8 0),(.int .u8 0),(.int .u8 0),(.int .u8 0),(.int .u8 0),(.int .u8 0),(.int .u8 0),(.int .u8 0),(.int .u8 0),(.int .u8 0),(.int .u32 0),(.slice none 0 (some 0) 0),(.int .u32 0)],none⟩,
 ⟨none,.store 35 (.t 4) (.t 13),none⟩])
 (.seq (.ops [⟨(some 14),.mov (.t 0),none⟩,
 ⟨(some 15),.fieldAddr 33 (.t 4),none⟩,
 ⟨(some 16),.load none (.t 15),none⟩,
 ⟨(some 17),.callv (.t 14) [(.t 16)],none⟩,
 ⟨(some 18),.un .not (.t 17),none⟩])
 (.cond (.t 18)
 (.ret)
 (.skip)))))
 (.ops [⟨(some 19),.bin .add .no (.t 10) (.c (.int .i64 1)),none⟩,
 ⟨(some 10),.mov (.t 19),none⟩])))
def L_tx_scripts_1_1 : C := .seq (.ops [⟨(some 24),.bin .lss .no (.t 23) (.t 22),none⟩])
 (.seq (.cond (.t 24)
 (.skip)
 (.exit 2))
 (.seq (.block 3 (.seq (.ops [⟨(some 25),.idxAddrS 2 (.t 21) (.t 23),none⟩,
 ⟨(some 26),.load (some 2) (.t 25),none⟩,
 ⟨(some 6),.alloc [(.int .i64 0),(.slice none 0 (some 0) 0)],none⟩,
 ⟨none,.store 2 (.t 6) (.t 26),none⟩])
 (.seq (.ops [⟨(some 27),.mov (.t 0),none⟩,
 ⟨(some 28),.fieldAddr 1 (.t 6),none⟩,
 ⟨(some 29),.load none (.t 28),none⟩,
 ⟨(some 30),.callv (.t 27) [(.t 29)],none⟩,
 ⟨(some 31),.un .not (.t 30),none⟩])
 (.cond (.t 31)
 (.ret)
 (.skip)))))
 (.ops [⟨(some 32),.bin .add .no (.t 23) (.c (.int .i64 1)),none⟩,
 ⟨(some 23),.mov (.t 32),none⟩])))
def R_tx_scripts_1_0 : C := .seq (.ops [⟨(some 20),.fieldAddr 2 (.t 1),none⟩,
 ⟨(some 21),.load none (.t 20),none⟩,
 ⟨(some 22),.len false (.t 21),none⟩,
 ⟨(some 23),.mov (.c (.int .i64 0)),none⟩])
 (.block 2 (.loop (L_tx_scripts_1_1)))
/-- purser/tx.scripts$1 -/
def f_tx_scripts_1 : Fn := ⟨33,[],
 .seq (.seq (.ops [⟨(some 7),.fieldAddr 1 (.t 1),none⟩,
 ⟨(some 8),.load none (.t 7),none⟩,
 ⟨(some 9),.len false (.t 8),none⟩,
 ⟨(some 10),.mov (.c (.int .i64 0)),none⟩])
 (.block 0 (.loop (L_tx_scripts_1_0))))
 (R_tx_scripts_1_0)⟩
/-- (*purser/tx.reader).note -/
def f_tx_reader_note : Fn := ⟨9,[],
 .seq (.ops [⟨(some 4),.mov (.t 1),none⟩,
 ⟨(some 5),.bin .neq .no (.t 4) (.c (.int .i64 0)),none⟩])
 (.cond (.t 5)
 (.ops [⟨(some 6),.mov (.t 0),none⟩,
 ⟨(some 7),.nilchk (.t 6),none⟩,
 ⟨(some 8),.fieldAddr 1 (.t 7),none⟩,
 ⟨none,.store 1 (.t 8) (.c (.bool true)),none⟩])
 (.skip))⟩
/-- (*purser/tx.reader).hash -/
def f_tx_reader_hash : Fn := ⟨21,[.cell 2 (some 32)],
 .seq (.ops [⟨(some 2),.alloc [(.int .u8 0),(.int .u8 0),(.int .u8 0),(.int .u8 0),(.int .u8 0),(.int .u8 0),(.int .u8 0),(.int .u8 0),(.int .u8 0),(.int .u8 0),(.int .u8 0),(.int .u8 0),(.int .u8 0),(.int .u8 0),(.int .u8 0),(.int .u8 0),(.int .u8 0),(.int .u8 0),(.int .u8 0),(.int .u8 0),(.int .u8 0),(.int .u8 0),(.int .u8 0),(.int .u8 0),(.int .u8 0),(.int .u8 0),(.int .u8 0),(.int .u8 0),(.int .u8 0),(.int .u8 0),(.int .u8 0),(.int .u8 0)],none⟩])
 (.seq (.ops [⟨(some 3),.alloc [(.int .u8 0),(.int .u8 0),(.int .u8 0),(.int .u8 0),(.int .u8 0),(.int .u8 0),(.int .u8 0),(.int .u8 0),(.int .u8 0),(.int .u8 0),(.int .u8 0),(.int .u8 0),(.int .u8 0),(.int .u8 0),(.int .u8 0),(.int .u8 0),(.int .u8 0),(.int .u8 0),(.int .u8 0),(.int .u8 0),(.int .u8 0),(.int .u8 0),(.int .u8 0),(.int .u8 0),(.int .u8 0),(.int .u8 0),(.int .u8 0),(.int .u8 0),(.int .u8 0),(.int .u8 0),(.int .u8 0),(.int .u8 0)],none⟩])
 (.seq (.ops [⟨(some 7),.mov (.t 0),none⟩,
 ⟨(some 8),.nilchk (.t 7),none⟩,
 ⟨(some 9),.fieldAddr 0 (.t 8),none⟩,
 ⟨(some 10),.load none (.t 9),none⟩,
 ⟨(some 11),.call k_octet_Eye_Raw [(.t 10),(.c (.int .i64 32))],none⟩,
 ⟨(some 6),.mov (.t 11),none⟩,
 ⟨(some 12),.ext (.t 6) 0,none⟩,
 ⟨(some 13),.ext (.t 6) 1,none⟩,
 ⟨(some 4),.mov (.t 12),none⟩,
 ⟨(some 5),.mov (.t 13),none⟩])
 (.seq (.ops [⟨(some 14),.mov (.t 0),none⟩,
 ⟨(some 15),.mov (.t 5),none⟩,
 ⟨(some 16),.call k_tx_reader_note [(.t 14),(.t 15)],none⟩])
 (.seq (.ops [⟨(some 17),.slcA 32 1 (.t 3) none none none,none⟩,
 ⟨(some 18),.mov (.t 4),none⟩,
 ⟨(some 19),.copy 1 (.t 17) (.t 18),none⟩])
 (.seq (.ops [⟨(some 20),.load (some 32) (.t 3),none⟩,
 ⟨none,.store 32 (.t 2) (.t 20),none⟩])
 (.ret))))))⟩
/-- (*purser/tx.reader).script -/
def f_tx_reader_script : Fn := ⟨17,[.tmp 2],
 .seq (.ops [⟨(some 2),.mov (.c (.slice none 0 (some 0) 0)),none⟩])
 (.seq (.ops [⟨(some 6),.mov (.t 0),none⟩,
 ⟨(some 7),.nilchk (.t 6),none⟩,
 ⟨(some 8),.fieldAddr 0 (.t 7),none⟩,
 ⟨(some 9),.load none (.t 8),none⟩,
 ⟨(some 10),.call k_octet_Eye_Bytes [(.t 9),(.c (.int .i64 2000))],none⟩,
 ⟨(some 5),.mov (.t 10),none⟩,
 ⟨(some 11),.ext (.t 5) 0,none⟩,
 ⟨(some 12),.ext (.t 5) 1,none⟩,
 ⟨(some 3),.mov (.t 11),none⟩,
 ⟨(some 4),.mov (.t 12),none⟩])
 (.seq (.ops [⟨(some 13),.mov (.t 0),none⟩,
 ⟨(some 14),.mov (.t 4),none⟩,
 ⟨(some 15),.call k_tx_reader_note [(.t 13),(.t 14)],none⟩])
 (.seq (.ops [⟨(some 16),.mov (.t 3),none⟩,
 ⟨(some 2),.mov (.t 16),none⟩])
 (.ret))))⟩
/-- purser/purserref06.num -/
def f_purserref06_num : Fn := ⟨14,[.tmp 4],
 .seq (.ops [⟨(some 4),.mov (.c (.slice none 0 (some 0) 0)),none⟩])
 (.seq (.ops [⟨(some 8),.mov (.t 0),none⟩,
 ⟨(some 9),.mov (.t 1),none⟩,
 ⟨(some 10),.call k_purserref01_Fixed [(.t 8),(.t 9)],none⟩,
 ⟨(some 7),.mov (.t 10),none⟩,
 ⟨(some 11),.ext (.t 7) 0,none⟩,
 ⟨(some 12),.ext (.t 7) 1,none⟩,
 ⟨(some 5),.mov (.t 11),none⟩,
 ⟨(some 6),.mov (.t 12),none⟩])
 (.seq (.ops [⟨(some 13),.mov (.t 5),none⟩,
 ⟨(some 4),.mov (.t 13),none⟩])
 (.ret)))⟩
-- no text: internal/abi.NoEscape
-- no text: internal/bytealg.MakeNoZero
end Go.Eng
