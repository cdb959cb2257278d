/- Functions of the program,as the evaluator takes them: printed by program. -/
import Derived.Test.YtnhjmgkmjgfiiaaEnqI
namespace Go.Eng
open Go
/-- purser/purserlaw17.SegmentReads -/
abbrev k_purserlaw17_SegmentReads : Nat := 7
/-- (*purser/octet.Pen).All -/
abbrev k_octet_Pen_All : Nat := 15
/-- purser/octet.Compact -/
abbrev k_octet_Compact : Nat := 16
/-- purser/purserref01.Size -/
abbrev k_purserref01_Size : Nat := 17
/-- purser/octet.Look -/
abbrev k_octet_Look : Nat := 20
/-- (*purser/octet.Eye).End -/
abbrev k_octet_Eye_End : Nat := 22
/-- purser/purserref01.Twin -/
abbrev k_purserref01_Twin : Nat := 23
/-- purser/crc.Mark -/
abbrev k_crc_Mark : Nat := 24
/-- purser/crc.Bare -/
abbrev k_crc_Bare : Nat := 25
/-- purser/purserref02.Bare -/
abbrev k_purserref02_Bare : Nat := 26
/-- purser/purserref02.Mark -/
abbrev k_purserref02_Mark : Nat := 27
/-- purser/purserref17.Great -/
abbrev k_purserref17_Great : Nat := 34
/-- purser/segment.Read -/
abbrev k_segment_Read : Nat := 35
/-- purser/purserref17.Read -/
abbrev k_purserref17_Read : Nat := 36
/-- purser/purserref17.Same -/
abbrev k_purserref17_Same : Nat := 37
/-- purser/segment.Same -/
abbrev k_segment_Same : Nat := 38
/-- purser/purserlaw17.spoil -/
abbrev k_purserlaw17_spoil : Nat := 39
/-- purser/purserlaw17.written -/
abbrev k_purserlaw17_written : Nat := 41
/-- purser/segment.Encode -/
abbrev k_segment_Encode : Nat := 42
/-- purser/purserref16.Same -/
abbrev k_purserref16_Same : Nat := 32
/-- (*purser/octet.Pen).Fixed -/
abbrev k_octet_Pen_Fixed : Nat := 43
/-- purser/purserref01.Fixed -/
abbrev k_purserref01_Fixed : Nat := 44
/-- (*purser/octet.Pen).Size -/
abbrev k_octet_Pen_Size : Nat := 45
/-- (*purser/octet.Pen).Bytes -/
abbrev k_octet_Pen_Bytes : Nat := 46
/-- purser/purserref01.Bytes -/
abbrev k_purserref01_Bytes : Nat := 47
/-- (*purser/octet.Pen).Raw -/
abbrev k_octet_Pen_Raw : Nat := 48
/-- purser/octet.width -/
abbrev k_octet_width : Nat := 49
/-- (*purser/octet.Eye).Fixed -/
abbrev k_octet_Eye_Fixed : Nat := 50
/-- (*purser/octet.Eye).Size -/
abbrev k_octet_Eye_Size : Nat := 51
/-- (*purser/octet.Eye).Bytes -/
abbrev k_octet_Eye_Bytes : Nat := 52
/-- (*purser/octet.Eye).Raw -/
abbrev k_octet_Eye_Raw : Nat := 53
/-- (*purser/octet.Eye).looks -/
abbrev k_octet_Eye_looks : Nat := 54
/-- (*purser/octet.Eye).Left -/
abbrev k_octet_Eye_Left : Nat := 55
/-- purser/crc.Sum -/
abbrev k_crc_Sum : Nat := 56
/-- purser/purserref02.Four -/
abbrev k_purserref02_Four : Nat := 57
/-- purser/purserref02.Sum -/
abbrev k_purserref02_Sum : Nat := 58
/-- purser/purserref16.Great -/
abbrev k_purserref16_Great : Nat := 63
/-- purser/segment.groups -/
abbrev k_segment_groups : Nat := 64
/-- purser/purserref17.group -/
abbrev k_purserref17_group : Nat := 65
/-- slices.EqualFunc[[][]purser/api.Record,[][]purser/api.Record,[]purser/api.Record,[]purser/api.Record] -/
abbrev k_slices_EqualFunc_api_Record_api_Record_api_Record_api_Record : Nat := 66
/-- purser/record.Same -/
abbrev k_record_Same : Nat := 67
/-- purser/segment.fits -/
abbrev k_segment_fits : Nat := 68
/-- purser/record.Encode -/
abbrev k_record_Encode : Nat := 69
/-- slices.Clone[[]purser/api.Record,purser/api.Record] -/
abbrev k_slices_Clone_api_Record_api_Record : Nat := 70
/-- purser/segment.marker -/
abbrev k_segment_marker : Nat := 71
/-- purser/octet.sized -/
abbrev k_octet_sized : Nat := 72
/-- (*purser/octet.Pen).put -/
abbrev k_octet_Pen_put : Nat := 73
/-- purser/purserref01.power -/
abbrev k_purserref01_power : Nat := 74
/-- purser/octet.mark -/
abbrev k_octet_mark : Nat := 75
/-- purser/octet.highFirst -/
abbrev k_octet_highFirst : Nat := 76
/-- purser/octet.number -/
abbrev k_octet_number : Nat := 77
/-- purser/octet.compact -/
abbrev k_octet_compact : Nat := 78
/-- (*purser/octet.Eye).take -/
abbrev k_octet_Eye_take : Nat := 79
/-- purser/crc.On -/
abbrev k_crc_On : Nat := 80
/-- purser/purserref02.On -/
abbrev k_purserref02_On : Nat := 81
/-- purser/segment.groups$1 -/
abbrev k_segment_groups_1 : Nat := 83
/-- purser/purserref16.Decode -/
abbrev k_purserref16_Decode : Nat := 29
/-- purser/purserref17.Encode -/
abbrev k_purserref17_Encode : Nat := 85
/-- slices.EqualFunc[[]purser/api.Record,[]purser/api.Record,purser/api.Record,purser/api.Record] -/
abbrev k_slices_EqualFunc_api_Record_api_Record_api_Record_api_Record_86 : Nat := 86
/-- purser/record.same -/
abbrev k_record_same : Nat := 87
/-- purser/record.Check -/
abbrev k_record_Check : Nat := 88
/-- purser/record.head -/
abbrev k_record_head : Nat := 89
/-- purser/octet.highFirst$1 -/
abbrev k_octet_highFirst_1 : Nat := 90
/-- purser/octet.following -/
abbrev k_octet_following : Nat := 91
/-- purser/crc.steps -/
abbrev k_crc_steps : Nat := 92
/-- purser/crc.halves -/
abbrev k_crc_halves : Nat := 93
/-- purser/purserref02.about -/
abbrev k_purserref02_about : Nat := 94
/-- purser/purserref02.rest -/
abbrev k_purserref02_rest : Nat := 95
/-- purser/segment.groupAt -/
abbrev k_segment_groupAt : Nat := 84
/-- purser/purserref01.Number -/
abbrev k_purserref01_Number : Nat := 60
/-- purser/purserref16.One -/
abbrev k_purserref16_One : Nat := 61
/-- purser/purserref16.Encode -/
abbrev k_purserref16_Encode : Nat := 98
/-- bytes.Equal -/
abbrev k_bytes_Equal : Nat := 97
/-- purser/crc.halves$1 -/
abbrev k_crc_halves_1 : Nat := 99
/-- purser/record.Decode -/
abbrev k_record_Decode : Nat := 28
/-- purser/segment.groupAt$1 -/
abbrev k_segment_groupAt_1 : Nat := 96
/-- purser/purserref16.Check -/
abbrev k_purserref16_Check : Nat := 100
/-- purser/record.readHead -/
abbrev k_record_readHead : Nat := 59
/-- purser/purserlaw17.SegmentReads -/
def f_purserlaw17_SegmentReads : Fn := ⟨78,[.tmp 6],
 .seq (.ops [⟨(some 6),.mov (.c (.bool false)),none⟩])
 (.seq (.seq (.ops [⟨(some 14),.mov (.t 0),none⟩,
 ⟨(some 15),.len false (.t 14),none⟩,
 ⟨(some 16),.bin .gtr .no (.t 15) (.c (.int .i64 20000)),none⟩,
 ⟨(some 17),.mov (.t 16),none⟩,
 ⟨(some 18),.mov (.t 2),(some (17,false))⟩,
 ⟨(some 19),.call k_purserref17_Great [(.t 18)],(some (17,false))⟩,
 ⟨(some 20),.bin .gtr .no (.t 19) (.c (.int .i64 0)),(some (17,false))⟩,
 ⟨(some 21),.pick (.t 17) (.c (.bool true)) (.t 20),none⟩])
 (.cond (.t 21)
 (.seq (.ops [⟨(some 6),.mov (.c (.bool true)),none⟩])
 (.ret))
 (.skip)))
 (.seq (.ops [⟨(some 22),.mov (.t 0),none⟩,
 ⟨(some 23),.call k_purserref01_Twin [(.t 22)],none⟩,
 ⟨(some 7),.mov (.t 23),none⟩])
 (.seq (.ops [⟨(some 25),.mov (.t 7),none⟩,
 ⟨(some 26),.mov (.t 1),none⟩,
 ⟨(some 27),.call k_segment_Read [(.t 25),(.t 26)],none⟩,
 ⟨(some 24),.mov (.t 27),none⟩,
 ⟨(some 28),.ext (.t 24) 0,none⟩,
 ⟨(some 29),.ext (.t 24) 1,none⟩,
 ⟨(some 8),.mov (.t 28),none⟩,
 ⟨(some 9),.mov (.t 29),none⟩])
 (.seq (.ops [⟨(some 31),.mov (.t 0),none⟩,
 ⟨(some 32),.mov (.t 1),none⟩,
 ⟨(some 33),.call k_purserref17_Read [(.t 31),(.t 32)],none⟩,
 ⟨(some 30),.mov (.t 33),none⟩,
 ⟨(some 34),.ext (.t 30) 0,none⟩,
 ⟨(some 35),.ext (.t 30) 1,none⟩,
 ⟨(some 10),.mov (.t 34),none⟩,
 ⟨(some 11),.mov (.t 35),none⟩])
 (.seq (.seq (.ops [⟨(some 36),.mov (.t 8),none⟩,
 ⟨(some 37),.mov (.t 10),none⟩,
 ⟨(some 38),.call k_purserref17_Same [(.t 36),(.t 37)],none⟩,
 ⟨(some 39),.un .not (.t 38),none⟩,
 ⟨(some 40),.mov (.t 39),none⟩,
 ⟨(some 41),.mov (.t 9),(some (40,false))⟩,
 ⟨(some 42),.mov (.t 11),(some (40,false))⟩,
 ⟨(some 43),.bin .neq .no (.t 41) (.t 42),(some (40,false))⟩,
 ⟨(some 44),.pick (.t 40) (.c (.bool true)) (.t 43),none⟩,
 ⟨(some 45),.mov (.t 44),none⟩,
 ⟨(some 46),.mov (.t 8),(some (45,false))⟩,
 ⟨(some 47),.mov (.t 2),(some (45,false))⟩,
 ⟨(some 48),.call k_segment_Same [(.t 46),(.t 47)],(some (45,false))⟩,
 ⟨(some 49),.mov (.t 10),(some (45,false))⟩,
 ⟨(some 50),.mov (.t 2),(some (45,false))⟩,
 ⟨(some 51),.call k_purserref17_Same [(.t 49),(.t 50)],(some (45,false))⟩,
 ⟨(some 52),.bin .neq .bool (.t 48) (.t 51),(some (45,false))⟩,
 ⟨(some 53),.pick (.t 45) (.c (.bool true)) (.t 52),none⟩,
 ⟨(some 54),.mov (.t 53),none⟩,
 ⟨(some 55),.mov (.t 8),(some (54,false))⟩,
 ⟨(some 56),.mov (.t 10),(some (54,false))⟩,
 ⟨(some 57),.call k_segment_Same [(.t 55),(.t 56)],(some (54,false))⟩,
 ⟨(some 58),.un .not (.t 57),(some (54,false))⟩,
 ⟨(some 59),.pick (.t 54) (.c (.bool true)) (.t 58),none⟩])
 (.cond (.t 59)
 (.seq (.ops [⟨(some 6),.mov (.c (.bool false)),none⟩])
 (.ret))
 (.skip)))
 (.seq (.ops [⟨(some 60),.mov (.t 8),none⟩,
 ⟨(some 61),.call k_purserlaw17_spoil [(.t 60)],none⟩])
 (.seq (.ops [⟨(some 63),.mov (.t 7),none⟩,
 ⟨(some 64),.mov (.t 1),none⟩,
 ⟨(some 65),.call k_segment_Read [(.t 63),(.t 64)],none⟩,
 ⟨(some 62),.mov (.t 65),none⟩,
 ⟨(some 66),.ext (.t 62) 0,none⟩,
 ⟨(some 67),.ext (.t 62) 1,none⟩,
 ⟨(some 12),.mov (.t 66),none⟩,
 ⟨(some 13),.mov (.t 67),none⟩])
 (.seq (.ops [⟨(some 68),.mov (.t 7),none⟩,
 ⟨(some 69),.b2s (.t 68),none⟩,
 ⟨(some 70),.mov (.t 0),none⟩,
 ⟨(some 71),.b2s (.t 70),none⟩,
 ⟨(some 72),.bin .eql .no (.t 69) (.t 71),none⟩,
 ⟨(some 73),.mov (.t 72),none⟩,
 ⟨(some 74),.mov (.t 12),(some (73,true))⟩,
 ⟨(some 75),.mov (.t 10),(some (73,true))⟩,
 ⟨(some 76),.call k_purserref17_Same [(.t 74),(.t 75)],(some (73,true))⟩,
 ⟨(some 77),.pick (.t 73) (.t 76) (.c (.bool false)),none⟩,
 ⟨(some 6),.mov (.t 77),none⟩])
 (.ret)))))))))⟩
/-- (*purser/octet.Pen).All -/
def f_octet_Pen_All : Fn := ⟨10,[.tmp 2],
 .seq (.ops [⟨(some 2),.mov (.c (.slice none 0 (some 0) 0)),none⟩])
 (.seq (.seq (.ops [⟨(some 3),.mov (.t 0),none⟩,
 ⟨(some 4),.bin .eql (.ref .p) (.t 3) (.c (.ptr none)),none⟩])
 (.cond (.t 4)
 (.seq (.ops [⟨(some 2),.mov (.c (.slice none 0 (some 0) 0)),none⟩])
 (.ret))
 (.skip)))
 (.seq (.ops [⟨(some 5),.mov (.t 0),none⟩,
 ⟨(some 6),.nilchk (.t 5),none⟩,
 ⟨(some 7),.fieldAddr 0 (.t 6),none⟩,
 ⟨(some 8),.load none (.t 7),none⟩,
 ⟨(some 9),.append 1 1 (.c (.slice none 0 (some 0) 0)) (.t 8),none⟩,
 ⟨(some 2),.mov (.t 9),none⟩])
 (.ret)))⟩
/-- purser/octet.Compact -/
def f_octet_Compact : Fn := ⟨14,[.tmp 2],
 .seq (.ops [⟨(some 2),.mov (.c (.int .i64 0)),none⟩])
 (.seq (.seq (.ops [⟨(some 4),.mov (.t 0),none⟩,
 ⟨(some 5),.bin .lss .no (.t 4) (.c (.int .u64 253)),none⟩])
 (.cond (.t 5)
 (.seq (.ops [⟨(some 2),.mov (.c (.int .i64 1)),none⟩])
 (.ret))
 (.skip)))
 (.seq (.seq (.ops [⟨(some 6),.mov (.t 0),none⟩,
 ⟨(some 7),.call k_octet_width [(.t 6)],none⟩,
 ⟨(some 3),.mov (.t 7),none⟩])
 (.block 0 (.seq (.ops [⟨(some 9),.mov (.t 3),none⟩,
 ⟨(some 10),.bin .leq .no (.t 9) (.c (.int .i64 2)),none⟩,
 ⟨(some 8),.mov (.t 10),none⟩])
 (.cond (.t 8)
 (.seq (.ops [⟨(some 2),.mov (.c (.int .i64 3)),none⟩])
 (.ret))
 (.seq (.ops [⟨(some 12),.mov (.t 3),none⟩,
 ⟨(some 13),.bin .leq .no (.t 12) (.c (.int .i64 4)),none⟩,
 ⟨(some 11),.mov (.t 13),none⟩])
 (.cond (.t 11)
 (.seq (.ops [⟨(some 2),.mov (.c (.int .i64 5)),none⟩])
 (.ret))
 (.skip)))))))
 (.seq (.ops [⟨(some 2),.mov (.c (.int .i64 9)),none⟩])
 (.ret))))⟩
/-- purser/purserref01.Size -/
def f_purserref01_Size : Fn := ⟨26,[.tmp 2],
 .seq (.ops [⟨(some 2),.mov (.c (.slice none 0 (some 0) 0)),none⟩])
 (.seq (.seq (.ops [⟨(some 7),.mov (.t 0),none⟩,
 ⟨(some 8),.bin .lss .no (.t 7) (.c (.int .u64 253)),none⟩])
 (.cond (.t 8)
 (.seq (.ops [⟨(some 9),.mov (.t 0),none⟩,
 ⟨(some 10),.conv .u8 (.t 9),none⟩,
 ⟨(some 11),.buildS [(.int .u8 0)] 1 1 [(0,1,(.t 10))],none⟩,
 ⟨(some 2),.mov (.t 11),none⟩])
 (.ret))
 (.skip)))
 (.seq (.ops [⟨(some 3),.mov (.c (.int .u8 253)),none⟩])
 (.seq (.ops [⟨(some 4),.mov (.c (.int .i64 2)),none⟩])
 (.seq (.seq (.ops [⟨(some 12),.mov (.t 0),none⟩,
 ⟨(some 13),.bin .gtr .no (.t 12) (.c (.int .u64 65535)),none⟩])
 (.cond (.t 13)
 (.seq (.ops [⟨(some 3),.mov (.c (.int .u8 254)),none⟩])
 (.ops [⟨(some 4),.mov (.c (.int .i64 4)),none⟩]))
 (.skip)))
 (.seq (.seq (.ops [⟨(some 14),.mov (.t 0),none⟩,
 ⟨(some 15),.bin .gtr .no (.t 14) (.c (.int .u64 4294967295)),none⟩])
 (.cond (.t 15)
 (.seq (.ops [⟨(some 3),.mov (.c (.int .u8 255)),none⟩])
 (.ops [⟨(some 4),.mov (.c (.int .i64 8)),none⟩]))
 (.skip)))
 (.seq (.ops [⟨(some 17),.mov (.t 4),none⟩,
 ⟨(some 18),.mov (.t 0),none⟩,
 ⟨(some 19),.call k_purserref01_Fixed [(.t 17),(.t 18)],none⟩,
 ⟨(some 16),.mov (.t 19),none⟩,
 ⟨(some 20),.ext (.t 16) 0,none⟩,
 ⟨(some 21),.ext (.t 16) 1,none⟩,
 ⟨(some 5),.mov (.t 20),none⟩,
 ⟨(some 6),.mov (.t 21),none⟩])
 (.seq (.ops [⟨(some 22),.mov (.t 3),none⟩,
 ⟨(some 23),.buildS [(.int .u8 0)] 1 1 [(0,1,(.t 22))],none⟩,
 ⟨(some 24),.mov (.t 5),none⟩,
 ⟨(some 25),.append 1 1 (.t 23) (.t 24),none⟩,
 ⟨(some 2),.mov (.t 25),none⟩])
 (.ret))))))))⟩
/-- purser/octet.Look -/
def f_octet_Look : Fn := ⟨7,[.tmp 2],
 .seq (.ops [⟨(some 2),.mov (.c (.ptr none)),none⟩])
 (.seq (.ops [⟨(some 3),.mov (.t 0),none⟩,
 ⟨(some 4),.append 1 1 (.c (.slice none 0 (some 0) 0)) (.t 3),none⟩,
 ⟨(some 5),.build [(.slice none 0 (some 0) 0),(.int .i64 0),(.bool false)] [(0,1,(.t 4)),(2,1,(.c (.bool true)))],none⟩,
 ⟨(some 6),.box (.t 5),none⟩,
 ⟨(some 2),.mov (.t 6),none⟩])
 (.ret))⟩
/-- (*purser/octet.Eye).End -/
def f_octet_Eye_End : Fn := ⟨9,[.tmp 2],
 .seq (.ops [⟨(some 2),.mov (.c (.int .i64 0)),none⟩])
 (.seq (.seq (.ops [⟨(some 3),.mov (.t 0),none⟩,
 ⟨(some 4),.call k_octet_Eye_looks [(.t 3)],none⟩,
 ⟨(some 5),.un .not (.t 4),none⟩])
 (.cond (.t 5)
 (.seq (.ops [⟨(some 2),.mov (.c (.int .i64 1)),none⟩])
 (.ret))
 (.skip)))
 (.seq (.seq (.ops [⟨(some 6),.mov (.t 0),none⟩,
 ⟨(some 7),.call k_octet_Eye_Left [(.t 6)],none⟩,
 ⟨(some 8),.bin .gtr .no (.t 7) (.c (.int .i64 0)),none⟩])
 (.cond (.t 8)
 (.seq (.ops [⟨(some 2),.mov (.c (.int .i64 10)),none⟩])
 (.ret))
 (.skip)))
 (.seq (.ops [⟨(some 2),.mov (.c (.int .i64 0)),none⟩])
 (.ret))))⟩
/-- purser/purserref01.Twin -/
def f_purserref01_Twin : Fn := ⟨7,[.tmp 2],
 .seq (.ops [⟨(some 2),.mov (.c (.slice none 0 (some 0) 0)),none⟩])
 (.seq (.ops [⟨(some 3),.mov (.c (.slice none 0 (some 0) 0)),none⟩])
 (.seq (.ops [⟨(some 4),.mov (.t 3),none⟩,
 ⟨(some 5),.mov (.t 0),none⟩,
 ⟨(some 6),.append 1 1 (.t 4) (.t 5),none⟩,
 ⟨(some 2),.mov (.t 6),none⟩])
 (.ret)))⟩
/-- purser/crc.Mark -/
def f_crc_Mark : Fn := ⟨13,[.tmp 2],
 .seq (.ops [⟨(some 2),.mov (.c (.slice none 0 (some 0) 0)),none⟩])
 (.seq (.ops [⟨(some 3),.alloc [(.slice none 0 (some 0) 0)],none⟩])
 (.seq (.ops [⟨(some 4),.mov (.t 0),none⟩,
 ⟨(some 5),.buildS [(.slice none 0 (some 0) 0)] 1 1 [(0,1,(.t 4))],none⟩,
 ⟨(some 6),.call k_octet_Pen_Raw [(.t 3),(.t 5)],none⟩])
 (.seq (.ops [⟨(some 7),.mov (.t 0),none⟩,
 ⟨(some 8),.buildS [(.slice none 0 (some 0) 0)] 1 1 [(0,1,(.t 7))],none⟩,
 ⟨(some 9),.call k_crc_Sum [(.t 8)],none⟩,
 ⟨(some 10),.conv .u64 (.t 9),none⟩,
 ⟨(some 11),.call k_octet_Pen_Fixed [(.t 3),(.c (.int .i64 4)),(.t 10)],none⟩])
 (.seq (.ops [⟨(some 12),.call k_octet_Pen_All [(.t 3)],none⟩,
 ⟨(some 2),.mov (.t 12),none⟩])
 (.ret)))))⟩
/-- purser/crc.Bare -/
def f_crc_Bare : Fn := ⟨39,[.tmp 2,.tmp 3],
 .seq (.ops [⟨(some 2),.mov (.c (.slice none 0 (some 0) 0)),none⟩,
 ⟨(some 3),.mov (.c (.int .i64 0)),none⟩])
 (.seq (.seq (.ops [⟨(some 8),.mov (.t 0),none⟩,
 ⟨(some 9),.len false (.t 8),none⟩,
 ⟨(some 10),.bin .lss .no (.t 9) (.c (.int .i64 4)),none⟩])
 (.cond (.t 10)
 (.seq (.ops [⟨(some 2),.mov (.c (.slice none 0 (some 0) 0)),none⟩,
 ⟨(some 3),.mov (.c (.int .i64 20)),none⟩])
 (.ret))
 (.skip)))
 (.seq (.dops 0 [] [(⟨(some 11),.mov (.t 0),none⟩,.L),
 (⟨(some 12),.mov (.t 0),none⟩,.L),
 (⟨(some 13),.len false (.t 12),none⟩,.L),
 (⟨(some 14),.bin .sub .no (.t 13) (.c (.int .i64 4)),none⟩,.L),
 (⟨(some 15),.slcS 1 (.t 11) none (some (.t 14)) none,none⟩,.L),
 (⟨(some 16),.mov (.t 0),none⟩,.L),
 (⟨(some 17),.mov (.t 0),none⟩,.L),
 (⟨(some 18),.len false (.t 17),none⟩,.L),
 (⟨(some 19),.bin .sub .no (.t 18) (.c (.int .i64 4)),none⟩,.L),
 (⟨(some 20),.slcS 1 (.t 16) (some (.t 19)) none none,none⟩,.L),
 (⟨(some 4),.mov (.t 15),none⟩,.L),
 (⟨(some 5),.mov (.t 20),none⟩,.L)])
 (.seq (.ops [⟨(some 22),.mov (.t 5),none⟩,
 ⟨(some 23),.call k_octet_Look [(.t 22)],none⟩,
 ⟨(some 24),.call k_octet_Eye_Fixed [(.t 23),(.c (.int .i64 4))],none⟩,
 ⟨(some 21),.mov (.t 24),none⟩,
 ⟨(some 25),.ext (.t 21) 0,none⟩,
 ⟨(some 26),.ext (.t 21) 1,none⟩,
 ⟨(some 6),.mov (.t 25),none⟩,
 ⟨(some 7),.mov (.t 26),none⟩])
 (.seq (.seq (.ops [⟨(some 27),.mov (.t 7),none⟩,
 ⟨(some 28),.bin .neq .no (.t 27) (.c (.int .i64 0)),none⟩,
 ⟨(some 29),.mov (.t 28),none⟩,
 ⟨(some 30),.mov (.t 4),(some (29,false))⟩,
 ⟨(some 31),.buildS [(.slice none 0 (some 0) 0)] 1 1 [(0,1,(.t 30))],(some (29,false))⟩,
 ⟨(some 32),.call k_crc_Sum [(.t 31)],(some (29,false))⟩,
 ⟨(some 33),.conv .u64 (.t 32),(some (29,false))⟩,
 ⟨(some 34),.mov (.t 6),(some (29,false))⟩,
 ⟨(some 35),.bin .neq .no (.t 33) (.t 34),(some (29,false))⟩,
 ⟨(some 36),.pick (.t 29) (.c (.bool true)) (.t 35),none⟩])
 (.cond (.t 36)
 (.seq (.ops [⟨(some 2),.mov (.c (.slice none 0 (some 0) 0)),none⟩,
 ⟨(some 3),.mov (.c (.int .i64 20)),none⟩])
 (.ret))
 (.skip)))
 (.seq (.ops [⟨(some 37),.mov (.t 4),none⟩,
 ⟨(some 38),.append 1 1 (.c (.slice none 0 (some 0) 0)) (.t 37),none⟩,
 ⟨(some 2),.mov (.t 38),none⟩,
 ⟨(some 3),.mov (.c (.int .i64 0)),none⟩])
 (.ret))))))⟩
/-- purser/purserref02.Bare -/
def f_purserref02_Bare : Fn := ⟨27,[.tmp 2,.tmp 3],
 .seq (.ops [⟨(some 2),.mov (.c (.slice none 0 (some 0) 0)),none⟩,
 ⟨(some 3),.mov (.c (.int .i64 0)),none⟩])
 (.seq (.ops [⟨(some 5),.mov (.t 0),none⟩,
 ⟨(some 6),.len false (.t 5),none⟩,
 ⟨(some 7),.bin .sub .no (.t 6) (.c (.int .i64 4)),none⟩,
 ⟨(some 4),.mov (.t 7),none⟩])
 (.seq (.seq (.dops 0 [] [(⟨(some 8),.mov (.t 4),none⟩,.L),
 (⟨(some 9),.bin .lss .no (.t 8) (.c (.int .i64 0)),none⟩,.L),
 (⟨(some 10),.mov (.t 9),none⟩,.L),
 (⟨(some 11),.mov (.t 0),(some (10,false))⟩,.L),
 (⟨(some 12),.mov (.t 4),(some (10,false))⟩,.L),
 (⟨(some 13),.slcS 1 (.t 11) none (some (.t 12)) none,(some (10,false))⟩,.L),
 (⟨(some 14),.call k_purserref02_Sum [(.t 13)],(some (10,false))⟩,.B []),
 (⟨(some 15),.call k_purserref02_Four [(.t 14)],(some (10,false))⟩,.B []),
 (⟨(some 16),.b2s (.t 15),(some (10,false))⟩,.R [] []),
 (⟨(some 17),.mov (.t 0),(some (10,false))⟩,.L),
 (⟨(some 18),.mov (.t 4),(some (10,false))⟩,.L),
 (⟨(some 19),.slcS 1 (.t 17) (some (.t 18)) none none,(some (10,false))⟩,.L),
 (⟨(some 20),.b2s (.t 19),(some (10,false))⟩,.R [] [(2,[]),(1,[])]),
 (⟨(some 21),.bin .neq .no (.t 16) (.t 20),(some (10,false))⟩,.L),
 (⟨(some 22),.pick (.t 10) (.c (.bool true)) (.t 21),none⟩,.L)])
 (.cond (.t 22)
 (.seq (.ops [⟨(some 2),.mov (.c (.slice none 0 (some 0) 0)),none⟩,
 ⟨(some 3),.mov (.c (.int .i64 20)),none⟩])
 (.ret))
 (.skip)))
 (.seq (.ops [⟨(some 23),.mov (.t 0),none⟩,
 ⟨(some 24),.mov (.t 4),none⟩,
 ⟨(some 25),.slcS 1 (.t 23) none (some (.t 24)) none,none⟩,
 ⟨(some 26),.call k_purserref01_Twin [(.t 25)],none⟩,
 ⟨(some 2),.mov (.t 26),none⟩,
 ⟨(some 3),.mov (.c (.int .i64 0)),none⟩])
 (.ret))))⟩
/-- purser/purserref02.Mark -/
def f_purserref02_Mark : Fn := ⟨9,[.tmp 2],
 .seq (.ops [⟨(some 2),.mov (.c (.slice none 0 (some 0) 0)),none⟩])
 (.seq (.ops [⟨(some 3),.mov (.t 0),none⟩,
 ⟨(some 4),.call k_purserref01_Twin [(.t 3)],none⟩,
 ⟨(some 5),.mov (.t 0),none⟩,
 ⟨(some 6),.call k_purserref02_Sum [(.t 5)],none⟩,
 ⟨(some 7),.call k_purserref02_Four [(.t 6)],none⟩,
 ⟨(some 8),.append 1 1 (.t 4) (.t 7),none⟩,
 ⟨(some 2),.mov (.t 8),none⟩])
 (.ret))⟩
def L_purserref17_Great_0 : C := .seq (.seq (.ops [⟨(some 7),.mov (.t 3),none⟩,
 ⟨(some 8),.mov (.t 0),none⟩,
 ⟨(some 9),.len false (.t 8),none⟩,
 ⟨(some 10),.bin .lss .no (.t 7) (.t 9),none⟩])
 (.cond (.t 10)
 (.skip)
 (.exit 0)))
 (.seq (.block 1 (.seq (.ops [⟨(some 13),.mov (.t 0),none⟩,
 ⟨(some 14),.mov (.t 3),none⟩,
 ⟨(some 15),.idxAddrS 1 (.t 13) (.t 14),none⟩,
 ⟨(some 16),.load none (.t 15),none⟩,
 ⟨(some 17),.call k_purserref16_Great [(.t 16)],none⟩,
 ⟨(some 18),.bin .gtr .no (.t 17) (.c (.int .i64 0)),none⟩])
 (.cond (.t 18)
 (.seq (.ops [⟨(some 2),.mov (.c (.int .i64 1)),none⟩])
 (.ret))
 (.skip))))
 (.ops [⟨(some 11),.mov (.t 3),none⟩,
 ⟨(some 12),.bin .add .no (.t 11) (.c (.int .i64 1)),none⟩,
 ⟨(some 3),.mov (.t 12),none⟩]))
def R_purserref17_Great_0 : C := .seq (.ops [⟨(some 2),.mov (.c (.int .i64 0)),none⟩])
 (.ret)
/-- purser/purserref17.Great -/
def f_purserref17_Great : Fn := ⟨19,[.tmp 2],
 .seq (.ops [⟨(some 2),.mov (.c (.int .i64 0)),none⟩])
 (.seq (.seq (.ops [⟨(some 4),.mov (.t 0),none⟩,
 ⟨(some 5),.len false (.t 4),none⟩,
 ⟨(some 6),.bin .gtr .no (.t 5) (.c (.int .i64 20)),none⟩])
 (.cond (.t 6)
 (.seq (.ops [⟨(some 2),.mov (.c (.int .i64 1)),none⟩])
 (.ret))
 (.skip)))
 (.seq (.seq (.ops [⟨(some 3),.mov (.c (.int .i64 0)),none⟩])
 (.block 0 (.loop (L_purserref17_Great_0))))
 (R_purserref17_Great_0)))⟩
def A_segment_Read_0 : C := .seq (.ops [⟨(some 6),.mov (.t 11),none⟩])
 (.ops [⟨(some 7),.mov (.t 12),none⟩])
theorem u_A_segment_Read_0 (Q : Orc) (N n : Nat) (r : Option Nat) (st : St) : evC Q N n r A_segment_Read_0 st = evC Q N n r (.seq (.ops [⟨(some 6),.mov (.t 11),none⟩])
 (.ops [⟨(some 7),.mov (.t 12),none⟩])) st := _root_.id rfl
def B_segment_Read_0 : C := .block 1 (.seq (.ops [⟨(some 13),.load none (.t 4),none⟩,
 ⟨(some 14),.mov (.t 7),none⟩,
 ⟨(some 15),.buildS [(.slice none 0 (some 0) 0)] 1 1 [(0,1,(.t 14))],none⟩,
 ⟨(some 16),.append 1 24 (.t 13) (.t 15),none⟩,
 ⟨none,.store 1 (.t 4) (.t 16),none⟩])
 (.ops [⟨(some 17),.mov (.t 6),none⟩,
 ⟨none,.store 1 (.t 5) (.t 17),none⟩]))
theorem u_B_segment_Read_0 (Q : Orc) (N n : Nat) (r : Option Nat) (st : St) : evC Q N n r B_segment_Read_0 st = evC Q N n r (.block 1 (.seq (.ops [⟨(some 13),.load none (.t 4),none⟩,
 ⟨(some 14),.mov (.t 7),none⟩,
 ⟨(some 15),.buildS [(.slice none 0 (some 0) 0)] 1 1 [(0,1,(.t 14))],none⟩,
 ⟨(some 16),.append 1 24 (.t 13) (.t 15),none⟩,
 ⟨none,.store 1 (.t 4) (.t 16),none⟩])
 (.ops [⟨(some 17),.mov (.t 6),none⟩,
 ⟨none,.store 1 (.t 5) (.t 17),none⟩]))) st := _root_.id rfl
def R_segment_Read_0 : C := .seq (.dops 0 [] [(⟨(some 18),.load none (.t 4),none⟩,.R [] []),
 (⟨(some 19),.load none (.t 5),none⟩,.R [] [(1,[])]),
 (⟨none,.store 1 (.t 4) (.t 18),none⟩,.B []),
 (⟨none,.store 1 (.t 5) (.t 19),none⟩,.B [])])
 (.ret)
/-- purser/segment.Read -/
def f_segment_Read : Fn := ⟨20,[.cell 4 none,.cell 5 none],
 .seq (.ops [⟨(some 4),.alloc [(.slice none 0 (some 0) 0)],none⟩,
 ⟨(some 5),.alloc [(.int .i64 0)],none⟩])
 (.seq (.seq (.ops [⟨(some 8),.mov (.t 0),none⟩,
 ⟨(some 9),.mov (.t 1),none⟩,
 ⟨(some 10),.call k_segment_groups [(.t 8),(.t 9)],none⟩])
 (.block 0 (.rangeF (.t 10) [11,12] (A_segment_Read_0)
 (B_segment_Read_0))))
 (R_segment_Read_0))⟩
def L_purserref17_Read_0 : C := .seq (.seq (.ops [⟨(some 11),.mov (.t 8),none⟩,
 ⟨(some 12),.mov (.t 0),none⟩,
 ⟨(some 13),.len false (.t 12),none⟩,
 ⟨(some 14),.bin .leq .no (.t 11) (.t 13),none⟩,
 ⟨(some 15),.mov (.t 14),none⟩,
 ⟨(some 16),.mov (.t 1),(some (15,true))⟩,
 ⟨(some 17),.bin .gtr .no (.t 16) (.c (.int .u64 0)),(some (15,true))⟩,
 ⟨(some 18),.pick (.t 15) (.t 17) (.c (.bool false)),none⟩])
 (.cond (.t 18)
 (.skip)
 (.exit 0)))
 (.seq (.block 1 (.seq (.ops [⟨(some 22),.mov (.t 0),none⟩,
 ⟨(some 23),.mov (.t 7),none⟩,
 ⟨(some 24),.mov (.t 1),none⟩,
 ⟨(some 25),.call k_purserref17_group [(.t 22),(.t 23),(.t 24)],none⟩,
 ⟨(some 21),.mov (.t 25),none⟩,
 ⟨(some 26),.ext (.t 21) 0,none⟩,
 ⟨(some 27),.ext (.t 21) 1,none⟩,
 ⟨(some 9),.mov (.t 26),none⟩,
 ⟨(some 10),.mov (.t 27),none⟩])
 (.seq (.seq (.ops [⟨(some 28),.mov (.t 10),none⟩,
 ⟨(some 29),.bin .lss .no (.t 28) (.c (.int .i64 0)),none⟩])
 (.cond (.t 29)
 (.exit 0)
 (.skip)))
 (.seq (.ops [⟨(some 30),.mov (.t 6),none⟩,
 ⟨(some 31),.mov (.t 9),none⟩,
 ⟨(some 32),.buildS [(.slice none 0 (some 0) 0)] 1 1 [(0,1,(.t 31))],none⟩,
 ⟨(some 33),.append 1 24 (.t 30) (.t 32),none⟩,
 ⟨(some 6),.mov (.t 33),none⟩])
 (.seq (.ops [⟨(some 34),.mov (.t 10),none⟩,
 ⟨(some 7),.mov (.t 34),none⟩])
 (.ops [⟨(some 35),.mov (.t 1),none⟩,
 ⟨(some 36),.bin .add .no (.t 35) (.c (.int .u64 1)),none⟩,
 ⟨(some 1),.mov (.t 36),none⟩]))))))
 (.ops [⟨(some 19),.mov (.t 8),none⟩,
 ⟨(some 20),.bin .add .no (.t 19) (.c (.int .i64 1)),none⟩,
 ⟨(some 8),.mov (.t 20),none⟩]))
def R_purserref17_Read_0 : C := .seq (.ops [⟨(some 37),.mov (.t 6),none⟩,
 ⟨(some 38),.mov (.t 7),none⟩,
 ⟨(some 4),.mov (.t 37),none⟩,
 ⟨(some 5),.mov (.t 38),none⟩])
 (.ret)
/-- purser/purserref17.Read -/
def f_purserref17_Read : Fn := ⟨39,[.tmp 4,.tmp 5],
 .seq (.ops [⟨(some 4),.mov (.c (.slice none 0 (some 0) 0)),none⟩,
 ⟨(some 5),.mov (.c (.int .i64 0)),none⟩])
 (.seq (.ops [⟨(some 6),.mov (.c (.slice none 0 (some 0) 0)),none⟩])
 (.seq (.ops [⟨(some 7),.mov (.c (.int .i64 0)),none⟩])
 (.seq (.seq (.ops [⟨(some 8),.mov (.c (.int .i64 0)),none⟩])
 (.block 0 (.loop (L_purserref17_Read_0))))
 (R_purserref17_Read_0))))⟩
def L_purserref17_Same_0 : C := .seq (.seq (.ops [⟨(some 12),.mov (.t 5),none⟩,
 ⟨(some 13),.mov (.t 0),none⟩,
 ⟨(some 14),.len false (.t 13),none⟩,
 ⟨(some 15),.bin .lss .no (.t 12) (.t 14),none⟩])
 (.cond (.t 15)
 (.skip)
 (.exit 0)))
 (.seq (.block 1 (.seq (.dops 0 [] [(⟨(some 18),.mov (.t 0),none⟩,.L),
 (⟨(some 19),.mov (.t 5),none⟩,.L),
 (⟨(some 20),.idxAddrS 1 (.t 18) (.t 19),none⟩,.L),
 (⟨(some 21),.load none (.t 20),none⟩,.R [] []),
 (⟨(some 22),.mov (.t 1),none⟩,.L),
 (⟨(some 23),.mov (.t 5),none⟩,.L),
 (⟨(some 24),.idxAddrS 1 (.t 22) (.t 23),none⟩,.L),
 (⟨(some 25),.load none (.t 24),none⟩,.R [] []),
 (⟨(some 26),.call k_purserref16_Same [(.t 21),(.t 25)],none⟩,.B []),
 (⟨(some 6),.mov (.t 26),none⟩,.L)])
 (.seq (.ops [⟨(some 27),.mov (.t 6),none⟩,
 ⟨(some 28),.un .not (.t 27),none⟩])
 (.cond (.t 28)
 (.seq (.ops [⟨(some 4),.mov (.c (.bool false)),none⟩])
 (.ret))
 (.skip)))))
 (.ops [⟨(some 16),.mov (.t 5),none⟩,
 ⟨(some 17),.bin .add .no (.t 16) (.c (.int .i64 1)),none⟩,
 ⟨(some 5),.mov (.t 17),none⟩]))
def R_purserref17_Same_0 : C := .seq (.ops [⟨(some 4),.mov (.c (.bool true)),none⟩])
 (.ret)
/-- purser/purserref17.Same -/
def f_purserref17_Same : Fn := ⟨29,[.tmp 4],
 .seq (.ops [⟨(some 4),.mov (.c (.bool false)),none⟩])
 (.seq (.seq (.ops [⟨(some 7),.mov (.t 0),none⟩,
 ⟨(some 8),.len false (.t 7),none⟩,
 ⟨(some 9),.mov (.t 1),none⟩,
 ⟨(some 10),.len false (.t 9),none⟩,
 ⟨(some 11),.bin .neq .no (.t 8) (.t 10),none⟩])
 (.cond (.t 11)
 (.seq (.ops [⟨(some 4),.mov (.c (.bool false)),none⟩])
 (.ret))
 (.skip)))
 (.seq (.seq (.ops [⟨(some 5),.mov (.c (.int .i64 0)),none⟩])
 (.block 0 (.loop (L_purserref17_Same_0))))
 (R_purserref17_Same_0)))⟩
/-- purser/segment.Same -/
def f_segment_Same : Fn := ⟨8,[.tmp 4],
 .seq (.ops [⟨(some 4),.mov (.c (.bool false)),none⟩])
 (.seq (.ops [⟨(some 5),.mov (.t 0),none⟩,
 ⟨(some 6),.mov (.t 1),none⟩,
 ⟨(some 7),.call k_slices_EqualFunc_api_Record_api_Record_api_Record_api_Record [(.t 5),(.t 6),(.f k_record_Same)],none⟩,
 ⟨(some 4),.mov (.t 7),none⟩])
 (.ret))⟩
def L_purserlaw17_spoil_0 : C := .seq (.ops [⟨(some 28),.bin .lss .no (.t 27) (.t 26),none⟩])
 (.seq (.cond (.t 28)
 (.skip)
 (.exit 4))
 (.seq (.block 5 (.seq (.ops [⟨(some 29),.mov (.t 27),none⟩,
 ⟨(some 4),.mov (.t 29),none⟩])
 (.dops 0 [] [(⟨(some 30),.mov (.t 0),none⟩,.L),
 (⟨(some 31),.mov (.t 2),none⟩,.L),
 (⟨(some 32),.idxAddrS 1 (.t 30) (.t 31),none⟩,.L),
 (⟨(some 33),.load none (.t 32),none⟩,.R [] []),
 (⟨(some 34),.mov (.t 3),none⟩,.L),
 (⟨(some 35),.idxAddrS 2 (.t 33) (.t 34),none⟩,.L),
 (⟨(some 36),.fieldAddr 1 (.t 35),none⟩,.L),
 (⟨(some 37),.load none (.t 36),none⟩,.R [] []),
 (⟨(some 38),.mov (.t 4),none⟩,.L),
 (⟨(some 39),.mov (.t 0),none⟩,.L),
 (⟨(some 40),.mov (.t 2),none⟩,.L),
 (⟨(some 41),.idxAddrS 1 (.t 39) (.t 40),none⟩,.L),
 (⟨(some 42),.load none (.t 41),none⟩,.R [] []),
 (⟨(some 43),.mov (.t 3),none⟩,.L),
 (⟨(some 44),.idxAddrS 2 (.t 42) (.t 43),none⟩,.L),
 (⟨(some 45),.fieldAddr 1 (.t 44),none⟩,.L),
 (⟨(some 46),.load none (.t 45),none⟩,.R [] []),
 (⟨(some 47),.mov (.t 4),none⟩,.L),
 (⟨(some 48),.idxAddrS 1 (.t 46) (.t 47),none⟩,.L),
 (⟨(some 49),.load none (.t 48),none⟩,.R [] []),
 (⟨(some 50),.bin .add .no (.t 49) (.c (.int .u8 1)),none⟩,.L),
 (⟨(some 51),.idxAddrS 1 (.t 37) (.t 38),none⟩,.L),
 (⟨none,.store 1 (.t 51) (.t 50),none⟩,.B [])])))
 (.ops [⟨(some 52),.bin .add .no (.t 27) (.c (.int .i64 1)),none⟩,
 ⟨(some 27),.mov (.t 52),none⟩])))
def R_purserlaw17_spoil_0 : C := .ops [⟨(some 53),.mov (.t 0),none⟩,
 ⟨(some 54),.mov (.t 2),none⟩,
 ⟨(some 55),.idxAddrS 1 (.t 53) (.t 54),none⟩,
 ⟨(some 56),.load none (.t 55),none⟩,
 ⟨(some 57),.mov (.t 3),none⟩,
 ⟨(some 58),.idxAddrS 2 (.t 56) (.t 57),none⟩,
 ⟨(some 59),.fieldAddr 0 (.t 58),none⟩,
 ⟨none,.store 1 (.t 59) (.c (.int .i64 (-1))),none⟩]
def R_purserlaw17_spoil_1 : C := .ops [⟨(some 60),.bin .add .no (.t 15) (.c (.int .i64 1)),none⟩,
 ⟨(some 15),.mov (.t 60),none⟩]
def L_purserlaw17_spoil_1 : C := .seq (.ops [⟨(some 16),.bin .lss .no (.t 15) (.t 14),none⟩])
 (.seq (.cond (.t 16)
 (.skip)
 (.exit 2))
 (.seq (.block 3 (.seq (.ops [⟨(some 17),.mov (.t 15),none⟩,
 ⟨(some 3),.mov (.t 17),none⟩])
 (.seq (.seq (.ops [⟨(some 18),.mov (.t 0),none⟩,
 ⟨(some 19),.mov (.t 2),none⟩,
 ⟨(some 20),.idxAddrS 1 (.t 18) (.t 19),none⟩,
 ⟨(some 21),.load none (.t 20),none⟩,
 ⟨(some 22),.mov (.t 3),none⟩,
 ⟨(some 23),.idxAddrS 2 (.t 21) (.t 22),none⟩,
 ⟨(some 24),.fieldAddr 1 (.t 23),none⟩,
 ⟨(some 25),.load none (.t 24),none⟩,
 ⟨(some 26),.len false (.t 25),none⟩,
 ⟨(some 27),.mov (.c (.int .i64 0)),none⟩])
 (.block 4 (.loop (L_purserlaw17_spoil_0))))
 (R_purserlaw17_spoil_0))))
 (R_purserlaw17_spoil_1)))
def R_purserlaw17_spoil_2 : C := .ops [⟨(some 61),.bin .add .no (.t 7) (.c (.int .i64 1)),none⟩,
 ⟨(some 7),.mov (.t 61),none⟩]
def L_purserlaw17_spoil_2 : C := .seq (.ops [⟨(some 8),.bin .lss .no (.t 7) (.t 6),none⟩])
 (.seq (.cond (.t 8)
 (.skip)
 (.exit 0))
 (.seq (.block 1 (.seq (.ops [⟨(some 9),.mov (.t 7),none⟩,
 ⟨(some 2),.mov (.t 9),none⟩])
 (.seq (.ops [⟨(some 10),.mov (.t 0),none⟩,
 ⟨(some 11),.mov (.t 2),none⟩,
 ⟨(some 12),.idxAddrS 1 (.t 10) (.t 11),none⟩,
 ⟨(some 13),.load none (.t 12),none⟩,
 ⟨(some 14),.len false (.t 13),none⟩,
 ⟨(some 15),.mov (.c (.int .i64 0)),none⟩])
 (.block 2 (.loop (L_purserlaw17_spoil_1))))))
 (R_purserlaw17_spoil_2)))
/-- purser/purserlaw17.spoil -/
def f_purserlaw17_spoil : Fn := ⟨62,[],
 .seq (.ops [⟨(some 5),.mov (.t 0),none⟩,
 ⟨(some 6),.len false (.t 5),none⟩,
 ⟨(some 7),.mov (.c (.int .i64 0)),none⟩])
 (.block 0 (.loop (L_purserlaw17_spoil_2)))⟩
def L_purserlaw17_written_0 : C := .seq (.ops [⟨(some 14),.bin .lss .no (.t 13) (.t 12),none⟩])
 (.seq (.cond (.t 14)
 (.skip)
 (.exit 0))
 (.seq (.block 1 (.seq (.ops [⟨(some 15),.mov (.t 13),none⟩,
 ⟨(some 8),.mov (.t 15),none⟩])
 (.seq (.ops [⟨(some 17),.mov (.t 0),none⟩,
 ⟨(some 18),.mov (.t 7),none⟩,
 ⟨(some 19),.len false (.t 18),none⟩,
 ⟨(some 20),.conv .u64 (.t 19),none⟩,
 ⟨(some 21),.bin .add .no (.t 17) (.t 20),none⟩,
 ⟨(some 22),.mov (.t 1),none⟩,
 ⟨(some 23),.mov (.t 8),none⟩,
 ⟨(some 24),.idxAddrS 1 (.t 22) (.t 23),none⟩,
 ⟨(some 25),.load none (.t 24),none⟩,
 ⟨(some 26),.call k_segment_Encode [(.t 21),(.t 25)],none⟩,
 ⟨(some 16),.mov (.t 26),none⟩,
 ⟨(some 27),.ext (.t 16) 0,none⟩,
 ⟨(some 28),.ext (.t 16) 1,none⟩,
 ⟨(some 9),.mov (.t 27),none⟩,
 ⟨(some 10),.mov (.t 28),none⟩])
 (.seq (.ops [⟨(some 29),.mov (.t 10),none⟩,
 ⟨(some 30),.bin .eql .no (.t 29) (.c (.int .i64 0)),none⟩])
 (.cond (.t 30)
 (.dops 1 [] [(⟨(some 31),.mov (.t 6),none⟩,.L),
 (⟨(some 32),.mov (.t 9),none⟩,.L),
 (⟨(some 33),.append 1 1 (.t 31) (.t 32),none⟩,.B []),
 (⟨(some 34),.mov (.t 7),none⟩,.L),
 (⟨(some 35),.mov (.t 1),none⟩,.L),
 (⟨(some 36),.mov (.t 8),none⟩,.L),
 (⟨(some 37),.idxAddrS 1 (.t 35) (.t 36),none⟩,.L),
 (⟨(some 38),.load none (.t 37),none⟩,.R [] [(2,[])]),
 (⟨(some 39),.buildS [(.slice none 0 (some 0) 0)] 1 1 [(0,1,(.t 38))],none⟩,.Al 0),
 (⟨(some 40),.append 1 24 (.t 34) (.t 39),none⟩,.B [0]),
 (⟨(some 6),.mov (.t 33),none⟩,.L),
 (⟨(some 7),.mov (.t 40),none⟩,.L)])
 (.skip))))))
 (.ops [⟨(some 41),.bin .add .no (.t 13) (.c (.int .i64 1)),none⟩,
 ⟨(some 13),.mov (.t 41),none⟩])))
def R_purserlaw17_written_0 : C := .seq (.ops [⟨(some 42),.mov (.t 6),none⟩,
 ⟨(some 43),.mov (.t 7),none⟩,
 ⟨(some 4),.mov (.t 42),none⟩,
 ⟨(some 5),.mov (.t 43),none⟩])
 (.ret)
/-- purser/purserlaw17.written -/
def f_purserlaw17_written : Fn := ⟨44,[.tmp 4,.tmp 5],
 .seq (.ops [⟨(some 4),.mov (.c (.slice none 0 (some 0) 0)),none⟩,
 ⟨(some 5),.mov (.c (.slice none 0 (some 0) 0)),none⟩])
 (.seq (.ops [⟨(some 6),.mov (.c (.slice none 0 (some 0) 0)),none⟩])
 (.seq (.ops [⟨(some 7),.mov (.c (.slice none 0 (some 0) 0)),none⟩])
 (.seq (.seq (.ops [⟨(some 11),.mov (.t 1),none⟩,
 ⟨(some 12),.len false (.t 11),none⟩,
 ⟨(some 13),.mov (.c (.int .i64 0)),none⟩])
 (.block 0 (.loop (L_purserlaw17_written_0))))
 (R_purserlaw17_written_0))))⟩
/-- purser/segment.Encode -/
def f_segment_Encode : Fn := ⟨35,[.tmp 4,.tmp 5],
 .seq (.ops [⟨(some 4),.mov (.c (.slice none 0 (some 0) 0)),none⟩,
 ⟨(some 5),.mov (.c (.int .i64 0)),none⟩])
 (.seq (.seq (.ops [⟨(some 8),.mov (.t 0),none⟩,
 ⟨(some 9),.bin .lss .no (.t 8) (.c (.int .u64 1)),none⟩,
 ⟨(some 10),.mov (.t 9),none⟩,
 ⟨(some 11),.mov (.t 1),(some (10,false))⟩,
 ⟨(some 12),.len false (.t 11),(some (10,false))⟩,
 ⟨(some 13),.bin .eql .no (.t 12) (.c (.int .i64 0)),(some (10,false))⟩,
 ⟨(some 14),.pick (.t 10) (.c (.bool true)) (.t 13),none⟩,
 ⟨(some 15),.mov (.t 14),none⟩,
 ⟨(some 16),.mov (.t 1),(some (15,false))⟩,
 ⟨(some 17),.call k_segment_fits [(.t 16)],(some (15,false))⟩,
 ⟨(some 18),.un .not (.t 17),(some (15,false))⟩,
 ⟨(some 19),.pick (.t 15) (.c (.bool true)) (.t 18),none⟩])
 (.cond (.t 19)
 (.seq (.ops [⟨(some 4),.mov (.c (.slice none 0 (some 0) 0)),none⟩,
 ⟨(some 5),.mov (.c (.int .i64 170)),none⟩])
 (.ret))
 (.skip)))
 (.seq (.ops [⟨(some 21),.mov (.t 1),none⟩,
 ⟨(some 22),.call k_slices_Clone_api_Record_api_Record [(.t 21)],none⟩,
 ⟨(some 23),.mov (.t 0),none⟩,
 ⟨(some 24),.mov (.t 1),none⟩,
 ⟨(some 25),.len false (.t 24),none⟩,
 ⟨(some 26),.call k_segment_marker [(.t 23),(.t 25)],none⟩,
 ⟨(some 27),.buildS [(.int .i64 0),(.slice none 0 (some 0) 0)] 1 2 [(0,2,(.t 26))],none⟩,
 ⟨(some 28),.append 2 32 (.t 22) (.t 27),none⟩,
 ⟨(some 29),.call k_record_Encode [(.t 28)],none⟩,
 ⟨(some 20),.mov (.t 29),none⟩,
 ⟨(some 30),.ext (.t 20) 0,none⟩,
 ⟨(some 31),.ext (.t 20) 1,none⟩,
 ⟨(some 6),.mov (.t 30),none⟩,
 ⟨(some 7),.mov (.t 31),none⟩])
 (.seq (.seq (.ops [⟨(some 32),.mov (.t 7),none⟩,
 ⟨(some 33),.bin .neq .no (.t 32) (.c (.int .i64 0)),none⟩])
 (.cond (.t 33)
 (.seq (.ops [⟨(some 4),.mov (.c (.slice none 0 (some 0) 0)),none⟩,
 ⟨(some 5),.mov (.c (.int .i64 170)),none⟩])
 (.ret))
 (.skip)))
 (.seq (.ops [⟨(some 34),.mov (.t 6),none⟩,
 ⟨(some 4),.mov (.t 34),none⟩,
 ⟨(some 5),.mov (.c (.int .i64 0)),none⟩])
 (.ret)))))⟩
def L_purserref16_Same_0 : C := .seq (.seq (.ops [⟨(some 11),.mov (.t 5),none⟩,
 ⟨(some 12),.mov (.t 0),none⟩,
 ⟨(some 13),.len false (.t 12),none⟩,
 ⟨(some 14),.bin .lss .no (.t 11) (.t 13),none⟩])
 (.cond (.t 14)
 (.skip)
 (.exit 0)))
 (.seq (.block 1 (.seq (.dops 0 [] [(⟨(some 17),.mov (.t 0),none⟩,.L),
 (⟨(some 18),.mov (.t 5),none⟩,.L),
 (⟨(some 19),.idxAddrS 2 (.t 17) (.t 18),none⟩,.L),
 (⟨(some 20),.fieldAddr 0 (.t 19),none⟩,.L),
 (⟨(some 21),.load none (.t 20),none⟩,.R [] []),
 (⟨(some 22),.mov (.t 1),none⟩,.L),
 (⟨(some 23),.mov (.t 5),none⟩,.L),
 (⟨(some 24),.idxAddrS 2 (.t 22) (.t 23),none⟩,.L),
 (⟨(some 25),.fieldAddr 0 (.t 24),none⟩,.L),
 (⟨(some 26),.load none (.t 25),none⟩,.R [] []),
 (⟨(some 27),.bin .neq .no (.t 21) (.t 26),none⟩,.L),
 (⟨(some 28),.mov (.t 27),none⟩,.L),
 (⟨(some 29),.mov (.t 0),(some (28,false))⟩,.L),
 (⟨(some 30),.mov (.t 5),(some (28,false))⟩,.L),
 (⟨(some 31),.idxAddrS 2 (.t 29) (.t 30),(some (28,false))⟩,.L),
 (⟨(some 32),.fieldAddr 1 (.t 31),(some (28,false))⟩,.L),
 (⟨(some 33),.load none (.t 32),(some (28,false))⟩,.R [] []),
 (⟨(some 34),.b2s (.t 33),(some (28,false))⟩,.R [] []),
 (⟨(some 35),.mov (.t 1),(some (28,false))⟩,.L),
 (⟨(some 36),.mov (.t 5),(some (28,false))⟩,.L),
 (⟨(some 37),.idxAddrS 2 (.t 35) (.t 36),(some (28,false))⟩,.L),
 (⟨(some 38),.fieldAddr 1 (.t 37),(some (28,false))⟩,.L),
 (⟨(some 39),.load none (.t 38),(some (28,false))⟩,.R [] []),
 (⟨(some 40),.b2s (.t 39),(some (28,false))⟩,.R [] []),
 (⟨(some 41),.bin .neq .no (.t 34) (.t 40),(some (28,false))⟩,.L),
 (⟨(some 42),.pick (.t 28) (.c (.bool true)) (.t 41),none⟩,.L)])
 (.cond (.t 42)
 (.seq (.ops [⟨(some 4),.mov (.c (.bool false)),none⟩])
 (.ret))
 (.skip))))
 (.ops [⟨(some 15),.mov (.t 5),none⟩,
 ⟨(some 16),.bin .add .no (.t 15) (.c (.int .i64 1)),none⟩,
 ⟨(some 5),.mov (.t 16),none⟩]))
def R_purserref16_Same_0 : C := .seq (.ops [⟨(some 4),.mov (.c (.bool true)),none⟩])
 (.ret)
/-- purser/purserref16.Same -/
def f_purserref16_Same : Fn := ⟨43,[.tmp 4],
 .seq (.ops [⟨(some 4),.mov (.c (.bool false)),none⟩])
 (.seq (.seq (.ops [⟨(some 6),.mov (.t 0),none⟩,
 ⟨(some 7),.len false (.t 6),none⟩,
 ⟨(some 8),.mov (.t 1),none⟩,
 ⟨(some 9),.len false (.t 8),none⟩,
 ⟨(some 10),.bin .neq .no (.t 7) (.t 9),none⟩])
 (.cond (.t 10)
 (.seq (.ops [⟨(some 4),.mov (.c (.bool false)),none⟩])
 (.ret))
 (.skip)))
 (.seq (.seq (.ops [⟨(some 5),.mov (.c (.int .i64 0)),none⟩])
 (.block 0 (.loop (L_purserref16_Same_0))))
 (R_purserref16_Same_0)))⟩
/-- (*purser/octet.Pen).Fixed -/
def f_octet_Pen_Fixed : Fn := ⟨20,[.tmp 6],
 .seq (.ops [⟨(some 6),.mov (.c (.int .i64 0)),none⟩])
 (.seq (.seq (.ops [⟨(some 7),.mov (.t 0),none⟩,
 ⟨(some 8),.bin .eql (.ref .p) (.t 7) (.c (.ptr none)),none⟩])
 (.cond (.t 8)
 (.seq (.ops [⟨(some 6),.mov (.c (.int .i64 1)),none⟩])
 (.ret))
 (.skip)))
 (.seq (.seq (.ops [⟨(some 9),.mov (.t 1),none⟩,
 ⟨(some 10),.call k_octet_sized [(.t 9)],none⟩,
 ⟨(some 11),.un .not (.t 10),none⟩])
 (.cond (.t 11)
 (.seq (.ops [⟨(some 6),.mov (.c (.int .i64 2)),none⟩])
 (.ret))
 (.skip)))
 (.seq (.seq (.ops [⟨(some 12),.mov (.t 2),none⟩,
 ⟨(some 13),.call k_octet_width [(.t 12)],none⟩,
 ⟨(some 14),.mov (.t 1),none⟩,
 ⟨(some 15),.bin .gtr .no (.t 13) (.t 14),none⟩])
 (.cond (.t 15)
 (.seq (.ops [⟨(some 6),.mov (.c (.int .i64 10)),none⟩])
 (.ret))
 (.skip)))
 (.seq (.ops [⟨(some 16),.mov (.t 0),none⟩,
 ⟨(some 17),.mov (.t 1),none⟩,
 ⟨(some 18),.mov (.t 2),none⟩,
 ⟨(some 19),.call k_octet_Pen_put [(.t 16),(.t 17),(.t 18)],none⟩])
 (.seq (.ops [⟨(some 6),.mov (.c (.int .i64 0)),none⟩])
 (.ret))))))⟩
def L_purserref01_Fixed_0 : C := .seq (.seq (.ops [⟨(some 30),.mov (.t 7),none⟩,
 ⟨(some 31),.mov (.t 0),none⟩,
 ⟨(some 32),.bin .lss .no (.t 30) (.t 31),none⟩])
 (.cond (.t 32)
 (.skip)
 (.exit 0)))
 (.seq (.block 1 (.ops [⟨(some 35),.mov (.t 6),none⟩,
 ⟨(some 36),.mov (.t 1),none⟩,
 ⟨(some 37),.mov (.t 7),none⟩,
 ⟨(some 38),.call k_purserref01_power [(.t 37)],none⟩,
 ⟨(some 39),.bin .quo .no (.t 36) (.t 38),none⟩,
 ⟨(some 40),.bin .rem .no (.t 39) (.c (.int .u64 256)),none⟩,
 ⟨(some 41),.conv .u8 (.t 40),none⟩,
 ⟨(some 42),.buildS [(.int .u8 0)] 1 1 [(0,1,(.t 41))],none⟩,
 ⟨(some 43),.append 1 1 (.t 35) (.t 42),none⟩,
 ⟨(some 6),.mov (.t 43),none⟩]))
 (.ops [⟨(some 33),.mov (.t 7),none⟩,
 ⟨(some 34),.bin .add .no (.t 33) (.c (.int .i64 1)),none⟩,
 ⟨(some 7),.mov (.t 34),none⟩]))
def R_purserref01_Fixed_0 : C := .seq (.ops [⟨(some 44),.mov (.t 6),none⟩,
 ⟨(some 4),.mov (.t 44),none⟩,
 ⟨(some 5),.mov (.c (.int .i64 0)),none⟩])
 (.ret)
/-- purser/purserref01.Fixed -/
def f_purserref01_Fixed : Fn := ⟨45,[.tmp 4,.tmp 5],
 .seq (.ops [⟨(some 4),.mov (.c (.slice none 0 (some 0) 0)),none⟩,
 ⟨(some 5),.mov (.c (.int .i64 0)),none⟩])
 (.seq (.seq (.ops [⟨(some 8),.mov (.t 0),none⟩,
 ⟨(some 9),.bin .neq .no (.t 8) (.c (.int .i64 1)),none⟩,
 ⟨(some 10),.mov (.t 9),none⟩,
 ⟨(some 11),.mov (.t 0),(some (10,true))⟩,
 ⟨(some 12),.bin .neq .no (.t 11) (.c (.int .i64 2)),(some (10,true))⟩,
 ⟨(some 13),.pick (.t 10) (.t 12) (.c (.bool false)),none⟩,
 ⟨(some 14),.mov (.t 13),none⟩,
 ⟨(some 15),.mov (.t 0),(some (14,true))⟩,
 ⟨(some 16),.bin .neq .no (.t 15) (.c (.int .i64 4)),(some (14,true))⟩,
 ⟨(some 17),.pick (.t 14) (.t 16) (.c (.bool false)),none⟩,
 ⟨(some 18),.mov (.t 17),none⟩,
 ⟨(some 19),.mov (.t 0),(some (18,true))⟩,
 ⟨(some 20),.bin .neq .no (.t 19) (.c (.int .i64 8)),(some (18,true))⟩,
 ⟨(some 21),.pick (.t 18) (.t 20) (.c (.bool false)),none⟩])
 (.cond (.t 21)
 (.seq (.ops [⟨(some 4),.mov (.c (.slice none 0 (some 0) 0)),none⟩,
 ⟨(some 5),.mov (.c (.int .i64 2)),none⟩])
 (.ret))
 (.skip)))
 (.seq (.seq (.ops [⟨(some 22),.mov (.t 0),none⟩,
 ⟨(some 23),.bin .lss .no (.t 22) (.c (.int .i64 8)),none⟩,
 ⟨(some 24),.mov (.t 23),none⟩,
 ⟨(some 25),.mov (.t 1),(some (24,true))⟩,
 ⟨(some 26),.mov (.t 0),(some (24,true))⟩,
 ⟨(some 27),.call k_purserref01_power [(.t 26)],(some (24,true))⟩,
 ⟨(some 28),.bin .geq .no (.t 25) (.t 27),(some (24,true))⟩,
 ⟨(some 29),.pick (.t 24) (.t 28) (.c (.bool false)),none⟩])
 (.cond (.t 29)
 (.seq (.ops [⟨(some 4),.mov (.c (.slice none 0 (some 0) 0)),none⟩,
 ⟨(some 5),.mov (.c (.int .i64 10)),none⟩])
 (.ret))
 (.skip)))
 (.seq (.ops [⟨(some 6),.mov (.c (.slice none 0 (some 0) 0)),none⟩])
 (.seq (.seq (.ops [⟨(some 7),.mov (.c (.int .i64 0)),none⟩])
 (.block 0 (.loop (L_purserref01_Fixed_0))))
 (R_purserref01_Fixed_0)))))⟩
/-- (*purser/octet.Pen).Size -/
def f_octet_Pen_Size : Fn := ⟨25,[.tmp 4],
 .seq (.ops [⟨(some 4),.mov (.c (.int .i64 0)),none⟩])
 (.seq (.seq (.ops [⟨(some 6),.mov (.t 0),none⟩,
 ⟨(some 7),.bin .eql (.ref .p) (.t 6) (.c (.ptr none)),none⟩])
 (.cond (.t 7)
 (.seq (.ops [⟨(some 4),.mov (.c (.int .i64 1)),none⟩])
 (.ret))
 (.skip)))
 (.seq (.ops [⟨(some 8),.mov (.t 1),none⟩,
 ⟨(some 9),.call k_octet_Compact [(.t 8)],none⟩,
 ⟨(some 10),.bin .sub .no (.t 9) (.c (.int .i64 1)),none⟩,
 ⟨(some 5),.mov (.t 10),none⟩])
 (.seq (.seq (.ops [⟨(some 11),.mov (.t 5),none⟩,
 ⟨(some 12),.bin .eql .no (.t 11) (.c (.int .i64 0)),none⟩])
 (.cond (.t 12)
 (.seq (.ops [⟨(some 13),.mov (.t 0),none⟩,
 ⟨(some 14),.mov (.t 1),none⟩,
 ⟨(some 15),.call k_octet_Pen_put [(.t 13),(.c (.int .i64 1)),(.t 14)],none⟩])
 (.seq (.ops [⟨(some 4),.mov (.c (.int .i64 0)),none⟩])
 (.ret)))
 (.skip)))
 (.seq (.ops [⟨(some 16),.mov (.t 0),none⟩,
 ⟨(some 17),.mov (.t 5),none⟩,
 ⟨(some 18),.call k_octet_mark [(.t 17)],none⟩,
 ⟨(some 19),.conv .u64 (.t 18),none⟩,
 ⟨(some 20),.call k_octet_Pen_put [(.t 16),(.c (.int .i64 1)),(.t 19)],none⟩])
 (.seq (.ops [⟨(some 21),.mov (.t 0),none⟩,
 ⟨(some 22),.mov (.t 5),none⟩,
 ⟨(some 23),.mov (.t 1),none⟩,
 ⟨(some 24),.call k_octet_Pen_put [(.t 21),(.t 22),(.t 23)],none⟩])
 (.seq (.ops [⟨(some 4),.mov (.c (.int .i64 0)),none⟩])
 (.ret)))))))⟩
/-- (*purser/octet.Pen).Bytes -/
def f_octet_Pen_Bytes : Fn := ⟨18,[.tmp 4],
 .seq (.ops [⟨(some 4),.mov (.c (.int .i64 0)),none⟩])
 (.seq (.seq (.ops [⟨(some 6),.mov (.t 0),none⟩,
 ⟨(some 7),.mov (.t 1),none⟩,
 ⟨(some 8),.len false (.t 7),none⟩,
 ⟨(some 9),.conv .u64 (.t 8),none⟩,
 ⟨(some 10),.call k_octet_Pen_Size [(.t 6),(.t 9)],none⟩,
 ⟨(some 5),.mov (.t 10),none⟩])
 (.seq (.ops [⟨(some 11),.mov (.t 5),none⟩,
 ⟨(some 12),.bin .neq .no (.t 11) (.c (.int .i64 0)),none⟩])
 (.cond (.t 12)
 (.seq (.ops [⟨(some 13),.mov (.t 5),none⟩,
 ⟨(some 4),.mov (.t 13),none⟩])
 (.ret))
 (.skip))))
 (.seq (.ops [⟨(some 14),.mov (.t 0),none⟩,
 ⟨(some 15),.mov (.t 1),none⟩,
 ⟨(some 16),.buildS [(.slice none 0 (some 0) 0)] 1 1 [(0,1,(.t 15))],none⟩,
 ⟨(some 17),.call k_octet_Pen_Raw [(.t 14),(.t 16)],none⟩,
 ⟨(some 4),.mov (.t 17),none⟩])
 (.ret)))⟩
/-- purser/purserref01.Bytes -/
def f_purserref01_Bytes : Fn := ⟨9,[.tmp 2],
 .seq (.ops [⟨(some 2),.mov (.c (.slice none 0 (some 0) 0)),none⟩])
 (.seq (.ops [⟨(some 3),.mov (.t 0),none⟩,
 ⟨(some 4),.len false (.t 3),none⟩,
 ⟨(some 5),.conv .u64 (.t 4),none⟩,
 ⟨(some 6),.call k_purserref01_Size [(.t 5)],none⟩,
 ⟨(some 7),.mov (.t 0),none⟩,
 ⟨(some 8),.append 1 1 (.t 6) (.t 7),none⟩,
 ⟨(some 2),.mov (.t 8),none⟩])
 (.ret))⟩
def L_octet_Pen_Raw_0 : C := .seq (.ops [⟨(some 12),.bin .lss .no (.t 11) (.t 10),none⟩])
 (.seq (.cond (.t 12)
 (.skip)
 (.exit 0))
 (.seq (.block 1 (.seq (.ops [⟨(some 13),.idxAddrS 1 (.t 9) (.t 11),none⟩,
 ⟨(some 14),.load none (.t 13),none⟩,
 ⟨(some 6),.mov (.t 14),none⟩])
 (.ops [⟨(some 15),.mov (.t 0),none⟩,
 ⟨(some 16),.mov (.t 0),none⟩,
 ⟨(some 17),.nilchk (.t 16),none⟩,
 ⟨(some 18),.fieldAddr 0 (.t 17),none⟩,
 ⟨(some 19),.load none (.t 18),none⟩,
 ⟨(some 20),.mov (.t 6),none⟩,
 ⟨(some 21),.append 1 1 (.t 19) (.t 20),none⟩,
 ⟨(some 22),.nilchk (.t 15),none⟩,
 ⟨(some 23),.fieldAddr 0 (.t 22),none⟩,
 ⟨none,.store 1 (.t 23) (.t 21),none⟩])))
 (.ops [⟨(some 24),.bin .add .no (.t 11) (.c (.int .i64 1)),none⟩,
 ⟨(some 11),.mov (.t 24),none⟩])))
def R_octet_Pen_Raw_0 : C := .seq (.ops [⟨(some 4),.mov (.c (.int .i64 0)),none⟩])
 (.ret)
/-- (*purser/octet.Pen).Raw -/
def f_octet_Pen_Raw : Fn := ⟨25,[.tmp 4],
 .seq (.ops [⟨(some 4),.mov (.c (.int .i64 0)),none⟩])
 (.seq (.seq (.ops [⟨(some 7),.mov (.t 0),none⟩,
 ⟨(some 8),.bin .eql (.ref .p) (.t 7) (.c (.ptr none)),none⟩])
 (.cond (.t 8)
 (.seq (.ops [⟨(some 4),.mov (.c (.int .i64 1)),none⟩])
 (.ret))
 (.skip)))
 (.seq (.seq (.ops [⟨(some 9),.mov (.t 1),none⟩,
 ⟨(some 10),.len false (.t 9),none⟩,
 ⟨(some 11),.mov (.c (.int .i64 0)),none⟩])
 (.block 0 (.loop (L_octet_Pen_Raw_0))))
 (R_octet_Pen_Raw_0)))⟩
def A_octet_width_0 : C := .seq (.ops [⟨(some 4),.mov (.t 8),none⟩])
 (.ops [⟨(some 5),.mov (.t 9),none⟩])
theorem u_A_octet_width_0 (Q : Orc) (N n : Nat) (r : Option Nat) (st : St) : evC Q N n r A_octet_width_0 st = evC Q N n r (.seq (.ops [⟨(some 4),.mov (.t 8),none⟩])
 (.ops [⟨(some 5),.mov (.t 9),none⟩])) st := _root_.id rfl
def B_octet_width_0 : C := .block 1 (.seq (.ops [⟨(some 10),.mov (.t 5),none⟩,
 ⟨(some 11),.bin .neq .no (.t 10) (.c (.int .u8 0)),none⟩])
 (.cond (.t 11)
 (.seq (.ops [⟨(some 12),.mov (.t 4),none⟩,
 ⟨(some 13),.bin .add .no (.t 12) (.c (.int .i64 1)),none⟩,
 ⟨none,.store 1 (.t 3) (.t 13),none⟩])
 (.exit 0))
 (.skip)))
theorem u_B_octet_width_0 (Q : Orc) (N n : Nat) (r : Option Nat) (st : St) : evC Q N n r B_octet_width_0 st = evC Q N n r (.block 1 (.seq (.ops [⟨(some 10),.mov (.t 5),none⟩,
 ⟨(some 11),.bin .neq .no (.t 10) (.c (.int .u8 0)),none⟩])
 (.cond (.t 11)
 (.seq (.ops [⟨(some 12),.mov (.t 4),none⟩,
 ⟨(some 13),.bin .add .no (.t 12) (.c (.int .i64 1)),none⟩,
 ⟨none,.store 1 (.t 3) (.t 13),none⟩])
 (.exit 0))
 (.skip)))) st := _root_.id rfl
def R_octet_width_0 : C := .seq (.ops [⟨(some 14),.load none (.t 3),none⟩,
 ⟨(some 2),.mov (.t 14),none⟩])
 (.ret)
/-- purser/octet.width -/
def f_octet_width : Fn := ⟨15,[.tmp 2],
 .seq (.ops [⟨(some 2),.mov (.c (.int .i64 0)),none⟩])
 (.scope (.seq (.ops [⟨(some 3),.alloc [(.int .i64 0)],none⟩,
 ⟨none,.store 1 (.t 3) (.c (.int .i64 1)),none⟩])
 (.seq (.skip)
 (.seq (.seq (.ops [⟨(some 6),.mov (.t 0),none⟩,
 ⟨(some 7),.call k_octet_highFirst [(.t 6),(.c (.int .i64 8))],none⟩])
 (.block 0 (.rangeF (.t 7) [8,9] (A_octet_width_0)
 (B_octet_width_0))))
 (R_octet_width_0)))))⟩
/-- (*purser/octet.Eye).Fixed -/
def f_octet_Eye_Fixed : Fn := ⟨42,[.tmp 4,.tmp 5],
 .seq (.ops [⟨(some 4),.mov (.c (.int .u64 0)),none⟩,
 ⟨(some 5),.mov (.c (.int .i64 0)),none⟩])
 (.seq (.seq (.ops [⟨(some 7),.mov (.t 0),none⟩,
 ⟨(some 8),.call k_octet_Eye_looks [(.t 7)],none⟩,
 ⟨(some 9),.un .not (.t 8),none⟩])
 (.cond (.t 9)
 (.seq (.ops [⟨(some 4),.mov (.c (.int .u64 0)),none⟩,
 ⟨(some 5),.mov (.c (.int .i64 1)),none⟩])
 (.ret))
 (.skip)))
 (.seq (.seq (.ops [⟨(some 10),.mov (.t 1),none⟩,
 ⟨(some 11),.call k_octet_sized [(.t 10)],none⟩,
 ⟨(some 12),.un .not (.t 11),none⟩])
 (.cond (.t 12)
 (.seq (.ops [⟨(some 4),.mov (.c (.int .u64 0)),none⟩,
 ⟨(some 5),.mov (.c (.int .i64 2)),none⟩])
 (.ret))
 (.skip)))
 (.seq (.seq (.ops [⟨(some 13),.mov (.t 1),none⟩,
 ⟨(some 14),.mov (.t 0),none⟩,
 ⟨(some 15),.call k_octet_Eye_Left [(.t 14)],none⟩,
 ⟨(some 16),.bin .gtr .no (.t 13) (.t 15),none⟩])
 (.cond (.t 16)
 (.seq (.ops [⟨(some 4),.mov (.c (.int .u64 0)),none⟩,
 ⟨(some 5),.mov (.c (.int .i64 10)),none⟩])
 (.ret))
 (.skip)))
 (.seq (.dops 0 [] [(⟨(some 17),.mov (.t 0),none⟩,.L),
 (⟨(some 18),.nilchk (.t 17),none⟩,.L),
 (⟨(some 19),.fieldAddr 0 (.t 18),none⟩,.L),
 (⟨(some 20),.load none (.t 19),none⟩,.R [] []),
 (⟨(some 21),.mov (.t 0),none⟩,.L),
 (⟨(some 22),.nilchk (.t 21),none⟩,.L),
 (⟨(some 23),.fieldAddr 1 (.t 22),none⟩,.L),
 (⟨(some 24),.load none (.t 23),none⟩,.R [] []),
 (⟨(some 25),.mov (.t 0),none⟩,.L),
 (⟨(some 26),.nilchk (.t 25),none⟩,.L),
 (⟨(some 27),.fieldAddr 1 (.t 26),none⟩,.L),
 (⟨(some 28),.load none (.t 27),none⟩,.R [] []),
 (⟨(some 29),.mov (.t 1),none⟩,.L),
 (⟨(some 30),.bin .add .no (.t 28) (.t 29),none⟩,.L),
 (⟨(some 31),.slcS 1 (.t 20) (some (.t 24)) (some (.t 30)) none,none⟩,.L),
 (⟨(some 32),.call k_octet_number [(.t 31)],none⟩,.B []),
 (⟨(some 6),.mov (.t 32),none⟩,.L)])
 (.seq (.ops [⟨(some 33),.mov (.t 0),none⟩,
 ⟨(some 34),.nilchk (.t 33),none⟩,
 ⟨(some 35),.fieldAddr 1 (.t 34),none⟩,
 ⟨(some 36),.load none (.t 35),none⟩,
 ⟨(some 37),.mov (.t 1),none⟩,
 ⟨(some 38),.bin .add .no (.t 36) (.t 37),none⟩,
 ⟨(some 39),.nilchk (.t 33),none⟩,
 ⟨(some 40),.fieldAddr 1 (.t 39),none⟩,
 ⟨none,.store 1 (.t 40) (.t 38),none⟩])
 (.seq (.ops [⟨(some 41),.mov (.t 6),none⟩,
 ⟨(some 4),.mov (.t 41),none⟩,
 ⟨(some 5),.mov (.c (.int .i64 0)),none⟩])
 (.ret)))))))⟩
/-- (*purser/octet.Eye).Size -/
def f_octet_Eye_Size : Fn := ⟨35,[.tmp 2,.tmp 3],
 .seq (.ops [⟨(some 2),.mov (.c (.int .u64 0)),none⟩,
 ⟨(some 3),.mov (.c (.int .i64 0)),none⟩])
 (.seq (.seq (.ops [⟨(some 7),.mov (.t 0),none⟩,
 ⟨(some 8),.call k_octet_Eye_looks [(.t 7)],none⟩,
 ⟨(some 9),.un .not (.t 8),none⟩])
 (.cond (.t 9)
 (.seq (.ops [⟨(some 2),.mov (.c (.int .u64 0)),none⟩,
 ⟨(some 3),.mov (.c (.int .i64 1)),none⟩])
 (.ret))
 (.skip)))
 (.seq (.dops 0 [] [(⟨(some 11),.mov (.t 0),none⟩,.L),
 (⟨(some 12),.nilchk (.t 11),none⟩,.L),
 (⟨(some 13),.fieldAddr 0 (.t 12),none⟩,.L),
 (⟨(some 14),.load none (.t 13),none⟩,.R [] []),
 (⟨(some 15),.mov (.t 0),none⟩,.L),
 (⟨(some 16),.nilchk (.t 15),none⟩,.L),
 (⟨(some 17),.fieldAddr 1 (.t 16),none⟩,.L),
 (⟨(some 18),.load none (.t 17),none⟩,.R [] []),
 (⟨(some 19),.slcS 1 (.t 14) (some (.t 18)) none none,none⟩,.L),
 (⟨(some 20),.call k_octet_compact [(.t 19)],none⟩,.B []),
 (⟨(some 10),.mov (.t 20),none⟩,.L),
 (⟨(some 21),.ext (.t 10) 0,none⟩,.L),
 (⟨(some 22),.ext (.t 10) 1,none⟩,.L),
 (⟨(some 23),.ext (.t 10) 2,none⟩,.L),
 (⟨(some 4),.mov (.t 21),none⟩,.L),
 (⟨(some 5),.mov (.t 22),none⟩,.L),
 (⟨(some 6),.mov (.t 23),none⟩,.L)])
 (.seq (.seq (.ops [⟨(some 24),.mov (.t 6),none⟩,
 ⟨(some 25),.un .not (.t 24),none⟩])
 (.cond (.t 25)
 (.seq (.ops [⟨(some 2),.mov (.c (.int .u64 0)),none⟩,
 ⟨(some 3),.mov (.c (.int .i64 10)),none⟩])
 (.ret))
 (.skip)))
 (.seq (.ops [⟨(some 26),.mov (.t 0),none⟩,
 ⟨(some 27),.nilchk (.t 26),none⟩,
 ⟨(some 28),.fieldAddr 1 (.t 27),none⟩,
 ⟨(some 29),.load none (.t 28),none⟩,
 ⟨(some 30),.mov (.t 5),none⟩,
 ⟨(some 31),.bin .add .no (.t 29) (.t 30),none⟩,
 ⟨(some 32),.nilchk (.t 26),none⟩,
 ⟨(some 33),.fieldAddr 1 (.t 32),none⟩,
 ⟨none,.store 1 (.t 33) (.t 31),none⟩])
 (.seq (.ops [⟨(some 34),.mov (.t 4),none⟩,
 ⟨(some 2),.mov (.t 34),none⟩,
 ⟨(some 3),.mov (.c (.int .i64 0)),none⟩])
 (.ret))))))⟩
/-- (*purser/octet.Eye).Bytes -/
def f_octet_Eye_Bytes : Fn := ⟨59,[.tmp 4,.tmp 5],
 .seq (.ops [⟨(some 4),.mov (.c (.slice none 0 (some 0) 0)),none⟩,
 ⟨(some 5),.mov (.c (.int .i64 0)),none⟩])
 (.seq (.seq (.ops [⟨(some 9),.mov (.t 0),none⟩,
 ⟨(some 10),.call k_octet_Eye_looks [(.t 9)],none⟩,
 ⟨(some 11),.un .not (.t 10),none⟩])
 (.cond (.t 11)
 (.seq (.ops [⟨(some 4),.mov (.c (.slice none 0 (some 0) 0)),none⟩,
 ⟨(some 5),.mov (.c (.int .i64 1)),none⟩])
 (.ret))
 (.skip)))
 (.seq (.dops 0 [] [(⟨(some 13),.mov (.t 0),none⟩,.L),
 (⟨(some 14),.nilchk (.t 13),none⟩,.L),
 (⟨(some 15),.fieldAddr 0 (.t 14),none⟩,.L),
 (⟨(some 16),.load none (.t 15),none⟩,.R [] []),
 (⟨(some 17),.mov (.t 0),none⟩,.L),
 (⟨(some 18),.nilchk (.t 17),none⟩,.L),
 (⟨(some 19),.fieldAddr 1 (.t 18),none⟩,.L),
 (⟨(some 20),.load none (.t 19),none⟩,.R [] []),
 (⟨(some 21),.slcS 1 (.t 16) (some (.t 20)) none none,none⟩,.L),
 (⟨(some 22),.call k_octet_compact [(.t 21)],none⟩,.B []),
 (⟨(some 12),.mov (.t 22),none⟩,.L),
 (⟨(some 23),.ext (.t 12) 0,none⟩,.L),
 (⟨(some 24),.ext (.t 12) 1,none⟩,.L),
 (⟨(some 25),.ext (.t 12) 2,none⟩,.L),
 (⟨(some 6),.mov (.t 23),none⟩,.L),
 (⟨(some 7),.mov (.t 24),none⟩,.L),
 (⟨(some 8),.mov (.t 25),none⟩,.L)])
 (.seq (.seq (.ops [⟨(some 26),.mov (.t 8),none⟩,
 ⟨(some 27),.un .not (.t 26),none⟩,
 ⟨(some 28),.mov (.t 27),none⟩,
 ⟨(some 29),.mov (.t 1),(some (28,false))⟩,
 ⟨(some 30),.bin .lss .no (.t 29) (.c (.int .i64 0)),(some (28,false))⟩,
 ⟨(some 31),.pick (.t 28) (.c (.bool true)) (.t 30),none⟩,
 ⟨(some 32),.mov (.t 31),none⟩,
 ⟨(some 33),.mov (.t 6),(some (32,false))⟩,
 ⟨(some 34),.mov (.t 1),(some (32,false))⟩,
 ⟨(some 35),.conv .u64 (.t 34),(some (32,false))⟩,
 ⟨(some 36),.bin .gtr .no (.t 33) (.t 35),(some (32,false))⟩,
 ⟨(some 37),.pick (.t 32) (.c (.bool true)) (.t 36),none⟩,
 ⟨(some 38),.mov (.t 37),none⟩,
 ⟨(some 39),.mov (.t 6),(some (38,false))⟩,
 ⟨(some 40),.mov (.t 0),(some (38,false))⟩,
 ⟨(some 41),.call k_octet_Eye_Left [(.t 40)],(some (38,false))⟩,
 ⟨(some 42),.mov (.t 7),(some (38,false))⟩,
 ⟨(some 43),.bin .sub .no (.t 41) (.t 42),(some (38,false))⟩,
 ⟨(some 44),.conv .u64 (.t 43),(some (38,false))⟩,
 ⟨(some 45),.bin .gtr .no (.t 39) (.t 44),(some (38,false))⟩,
 ⟨(some 46),.pick (.t 38) (.c (.bool true)) (.t 45),none⟩])
 (.cond (.t 46)
 (.seq (.ops [⟨(some 4),.mov (.c (.slice none 0 (some 0) 0)),none⟩,
 ⟨(some 5),.mov (.c (.int .i64 10)),none⟩])
 (.ret))
 (.skip)))
 (.seq (.ops [⟨(some 47),.mov (.t 0),none⟩,
 ⟨(some 48),.nilchk (.t 47),none⟩,
 ⟨(some 49),.fieldAddr 1 (.t 48),none⟩,
 ⟨(some 50),.load none (.t 49),none⟩,
 ⟨(some 51),.mov (.t 7),none⟩,
 ⟨(some 52),.bin .add .no (.t 50) (.t 51),none⟩,
 ⟨(some 53),.nilchk (.t 47),none⟩,
 ⟨(some 54),.fieldAddr 1 (.t 53),none⟩,
 ⟨none,.store 1 (.t 54) (.t 52),none⟩])
 (.seq (.ops [⟨(some 55),.mov (.t 0),none⟩,
 ⟨(some 56),.mov (.t 6),none⟩,
 ⟨(some 57),.conv .i64 (.t 56),none⟩,
 ⟨(some 58),.call k_octet_Eye_take [(.t 55),(.t 57)],none⟩,
 ⟨(some 4),.mov (.t 58),none⟩,
 ⟨(some 5),.mov (.c (.int .i64 0)),none⟩])
 (.ret))))))⟩
/-- (*purser/octet.Eye).Raw -/
def f_octet_Eye_Raw : Fn := ⟨18,[.tmp 4,.tmp 5],
 .seq (.ops [⟨(some 4),.mov (.c (.slice none 0 (some 0) 0)),none⟩,
 ⟨(some 5),.mov (.c (.int .i64 0)),none⟩])
 (.seq (.seq (.ops [⟨(some 6),.mov (.t 0),none⟩,
 ⟨(some 7),.call k_octet_Eye_looks [(.t 6)],none⟩,
 ⟨(some 8),.un .not (.t 7),none⟩])
 (.cond (.t 8)
 (.seq (.ops [⟨(some 4),.mov (.c (.slice none 0 (some 0) 0)),none⟩,
 ⟨(some 5),.mov (.c (.int .i64 1)),none⟩])
 (.ret))
 (.skip)))
 (.seq (.seq (.ops [⟨(some 9),.mov (.t 1),none⟩,
 ⟨(some 10),.bin .lss .no (.t 9) (.c (.int .i64 0)),none⟩])
 (.cond (.t 10)
 (.seq (.ops [⟨(some 4),.mov (.c (.slice none 0 (some 0) 0)),none⟩,
 ⟨(some 5),.mov (.c (.int .i64 2)),none⟩])
 (.ret))
 (.skip)))
 (.seq (.seq (.ops [⟨(some 11),.mov (.t 1),none⟩,
 ⟨(some 12),.mov (.t 0),none⟩,
 ⟨(some 13),.call k_octet_Eye_Left [(.t 12)],none⟩,
 ⟨(some 14),.bin .gtr .no (.t 11) (.t 13),none⟩])
 (.cond (.t 14)
 (.seq (.ops [⟨(some 4),.mov (.c (.slice none 0 (some 0) 0)),none⟩,
 ⟨(some 5),.mov (.c (.int .i64 10)),none⟩])
 (.ret))
 (.skip)))
 (.seq (.ops [⟨(some 15),.mov (.t 0),none⟩,
 ⟨(some 16),.mov (.t 1),none⟩,
 ⟨(some 17),.call k_octet_Eye_take [(.t 15),(.t 16)],none⟩,
 ⟨(some 4),.mov (.t 17),none⟩,
 ⟨(some 5),.mov (.c (.int .i64 0)),none⟩])
 (.ret)))))⟩
/-- (*purser/octet.Eye).looks -/
def f_octet_Eye_looks : Fn := ⟨11,[.tmp 2],
 .seq (.ops [⟨(some 2),.mov (.c (.bool false)),none⟩])
 (.seq (.ops [⟨(some 3),.mov (.t 0),none⟩,
 ⟨(some 4),.bin .neq (.ref .p) (.t 3) (.c (.ptr none)),none⟩,
 ⟨(some 5),.mov (.t 4),none⟩,
 ⟨(some 6),.mov (.t 0),(some (5,true))⟩,
 ⟨(some 7),.nilchk (.t 6),(some (5,true))⟩,
 ⟨(some 8),.fieldAddr 2 (.t 7),(some (5,true))⟩,
 ⟨(some 9),.load none (.t 8),(some (5,true))⟩,
 ⟨(some 10),.pick (.t 5) (.t 9) (.c (.bool false)),none⟩,
 ⟨(some 2),.mov (.t 10),none⟩])
 (.ret))⟩
/-- (*purser/octet.Eye).Left -/
def f_octet_Eye_Left : Fn := ⟨16,[.tmp 2],
 .seq (.ops [⟨(some 2),.mov (.c (.int .i64 0)),none⟩])
 (.seq (.seq (.ops [⟨(some 3),.mov (.t 0),none⟩,
 ⟨(some 4),.call k_octet_Eye_looks [(.t 3)],none⟩,
 ⟨(some 5),.un .not (.t 4),none⟩])
 (.cond (.t 5)
 (.seq (.ops [⟨(some 2),.mov (.c (.int .i64 0)),none⟩])
 (.ret))
 (.skip)))
 (.seq (.dops 0 [] [(⟨(some 6),.mov (.t 0),none⟩,.L),
 (⟨(some 7),.nilchk (.t 6),none⟩,.L),
 (⟨(some 8),.fieldAddr 0 (.t 7),none⟩,.L),
 (⟨(some 9),.load none (.t 8),none⟩,.R [] []),
 (⟨(some 10),.len false (.t 9),none⟩,.L),
 (⟨(some 11),.mov (.t 0),none⟩,.L),
 (⟨(some 12),.nilchk (.t 11),none⟩,.L),
 (⟨(some 13),.fieldAddr 1 (.t 12),none⟩,.L),
 (⟨(some 14),.load none (.t 13),none⟩,.R [] []),
 (⟨(some 15),.bin .sub .no (.t 10) (.t 14),none⟩,.L),
 (⟨(some 2),.mov (.t 15),none⟩,.L)])
 (.ret)))⟩
def L_crc_Sum_0 : C := .seq (.ops [⟨(some 9),.bin .lss .no (.t 8) (.t 7),none⟩])
 (.seq (.cond (.t 9)
 (.skip)
 (.exit 0))
 (.seq (.block 1 (.seq (.ops [⟨(some 10),.idxAddrS 1 (.t 6) (.t 8),none⟩,
 ⟨(some 11),.load none (.t 10),none⟩,
 ⟨(some 5),.mov (.t 11),none⟩])
 (.ops [⟨(some 12),.mov (.t 3),none⟩,
 ⟨(some 13),.mov (.t 5),none⟩,
 ⟨(some 14),.call k_crc_On [(.t 12),(.t 13)],none⟩,
 ⟨(some 3),.mov (.t 14),none⟩])))
 (.ops [⟨(some 15),.bin .add .no (.t 8) (.c (.int .i64 1)),none⟩,
 ⟨(some 8),.mov (.t 15),none⟩])))
def R_crc_Sum_0 : C := .seq (.ops [⟨(some 16),.mov (.t 3),none⟩,
 ⟨(some 2),.mov (.t 16),none⟩])
 (.ret)
/-- purser/crc.Sum -/
def f_crc_Sum : Fn := ⟨17,[.tmp 2],
 .seq (.ops [⟨(some 2),.mov (.c (.int .u32 0)),none⟩])
 (.seq (.ops [⟨(some 3),.mov (.c (.int .u32 0)),none⟩])
 (.seq (.seq (.ops [⟨(some 6),.mov (.t 0),none⟩,
 ⟨(some 7),.len false (.t 6),none⟩,
 ⟨(some 8),.mov (.c (.int .i64 0)),none⟩])
 (.block 0 (.loop (L_crc_Sum_0))))
 (R_crc_Sum_0)))⟩
/-- purser/purserref02.Four -/
def f_purserref02_Four : Fn := ⟨12,[.tmp 2],
 .seq (.ops [⟨(some 2),.mov (.c (.slice none 0 (some 0) 0)),none⟩])
 (.seq (.ops [⟨(some 6),.mov (.t 0),none⟩,
 ⟨(some 7),.conv .u64 (.t 6),none⟩,
 ⟨(some 8),.call k_purserref01_Fixed [(.c (.int .i64 4)),(.t 7)],none⟩,
 ⟨(some 5),.mov (.t 8),none⟩,
 ⟨(some 9),.ext (.t 5) 0,none⟩,
 ⟨(some 10),.ext (.t 5) 1,none⟩,
 ⟨(some 3),.mov (.t 9),none⟩,
 ⟨(some 4),.mov (.t 10),none⟩])
 (.seq (.ops [⟨(some 11),.mov (.t 3),none⟩,
 ⟨(some 2),.mov (.t 11),none⟩])
 (.ret)))⟩
/-- purser/purserref02.Sum -/
def f_purserref02_Sum : Fn := ⟨5,[.tmp 2],
 .seq (.ops [⟨(some 2),.mov (.c (.int .u32 0)),none⟩])
 (.seq (.ops [⟨(some 3),.mov (.t 0),none⟩,
 ⟨(some 4),.call k_purserref02_On [(.c (.int .u32 0)),(.t 3)],none⟩,
 ⟨(some 2),.mov (.t 4),none⟩])
 (.ret))⟩
def L_purserref16_Great_0 : C := .seq (.seq (.ops [⟨(some 7),.mov (.t 3),none⟩,
 ⟨(some 8),.mov (.t 0),none⟩,
 ⟨(some 9),.len false (.t 8),none⟩,
 ⟨(some 10),.bin .lss .no (.t 7) (.t 9),none⟩])
 (.cond (.t 10)
 (.skip)
 (.exit 0)))
 (.seq (.block 1 (.seq (.ops [⟨(some 13),.mov (.t 0),none⟩,
 ⟨(some 14),.mov (.t 3),none⟩,
 ⟨(some 15),.idxAddrS 2 (.t 13) (.t 14),none⟩,
 ⟨(some 16),.fieldAddr 1 (.t 15),none⟩,
 ⟨(some 17),.load none (.t 16),none⟩,
 ⟨(some 18),.len false (.t 17),none⟩,
 ⟨(some 19),.bin .gtr .no (.t 18) (.c (.int .i64 500)),none⟩])
 (.cond (.t 19)
 (.seq (.ops [⟨(some 2),.mov (.c (.int .i64 1)),none⟩])
 (.ret))
 (.skip))))
 (.ops [⟨(some 11),.mov (.t 3),none⟩,
 ⟨(some 12),.bin .add .no (.t 11) (.c (.int .i64 1)),none⟩,
 ⟨(some 3),.mov (.t 12),none⟩]))
def R_purserref16_Great_0 : C := .seq (.ops [⟨(some 2),.mov (.c (.int .i64 0)),none⟩])
 (.ret)
/-- purser/purserref16.Great -/
def f_purserref16_Great : Fn := ⟨20,[.tmp 2],
 .seq (.ops [⟨(some 2),.mov (.c (.int .i64 0)),none⟩])
 (.seq (.seq (.ops [⟨(some 4),.mov (.t 0),none⟩,
 ⟨(some 5),.len false (.t 4),none⟩,
 ⟨(some 6),.bin .gtr .no (.t 5) (.c (.int .i64 60)),none⟩])
 (.cond (.t 6)
 (.seq (.ops [⟨(some 2),.mov (.c (.int .i64 1)),none⟩])
 (.ret))
 (.skip)))
 (.seq (.seq (.ops [⟨(some 3),.mov (.c (.int .i64 0)),none⟩])
 (.block 0 (.loop (L_purserref16_Great_0))))
 (R_purserref16_Great_0)))⟩
/-- purser/segment.groups -/
def f_segment_groups : Fn := ⟨6,[.tmp 4],
 .seq (.ops [⟨(some 2),.box (.t 0),none⟩,
 ⟨(some 3),.box (.t 1),none⟩,
 ⟨(some 4),.mov (.c .nilFn),none⟩])
 (.seq (.ops [⟨(some 5),.mkfn k_segment_groups_1 [] [(.t 3),(.t 2)],none⟩,
 ⟨(some 4),.mov (.t 5),none⟩])
 (.ret))⟩
def L_purserref17_group_0 : C := .seq (.seq (.ops [⟨(some 17),.mov (.t 10),none⟩,
 ⟨(some 18),.mov (.t 0),none⟩,
 ⟨(some 19),.len false (.t 18),none⟩,
 ⟨(some 20),.bin .leq .no (.t 17) (.t 19),none⟩])
 (.cond (.t 20)
 (.skip)
 (.exit 0)))
 (.seq (.block 1 (.seq (.ops [⟨(some 24),.mov (.t 0),none⟩,
 ⟨(some 25),.mov (.t 1),none⟩,
 ⟨(some 26),.call k_purserref16_Decode [(.t 24),(.t 25)],none⟩,
 ⟨(some 23),.mov (.t 26),none⟩,
 ⟨(some 27),.ext (.t 23) 0,none⟩,
 ⟨(some 28),.ext (.t 23) 1,none⟩,
 ⟨(some 29),.ext (.t 23) 2,none⟩,
 ⟨(some 11),.alloc [(.int .i64 0),(.slice none 0 (some 0) 0)],none⟩,
 ⟨none,.store 2 (.t 11) (.t 27),none⟩,
 ⟨(some 12),.mov (.t 28),none⟩,
 ⟨(some 13),.mov (.t 29),none⟩])
 (.seq (.seq (.ops [⟨(some 30),.mov (.t 13),none⟩,
 ⟨(some 31),.bin .neq .no (.t 30) (.c (.int .i64 0)),none⟩])
 (.cond (.t 31)
 (.seq (.ops [⟨(some 6),.mov (.c (.slice none 0 (some 0) 0)),none⟩,
 ⟨(some 7),.mov (.c (.int .i64 (-1))),none⟩])
 (.ret))
 (.skip)))
 (.seq (.ops [⟨(some 32),.mov (.t 12),none⟩,
 ⟨(some 1),.mov (.t 32),none⟩])
 (.seq (.seq (.ops [⟨(some 33),.fieldAddr 0 (.t 11),none⟩,
 ⟨(some 34),.load none (.t 33),none⟩,
 ⟨(some 35),.bin .eql .no (.t 34) (.c (.int .i64 255)),none⟩])
 (.cond (.t 35)
 (.seq (.ops [⟨(some 37),.mov (.t 2),none⟩,
 ⟨(some 38),.mov (.t 8),none⟩,
 ⟨(some 39),.call k_purserref17_Encode [(.t 37),(.t 38)],none⟩,
 ⟨(some 36),.mov (.t 39),none⟩,
 ⟨(some 40),.ext (.t 36) 0,none⟩,
 ⟨(some 41),.ext (.t 36) 1,none⟩,
 ⟨(some 14),.mov (.t 40),none⟩,
 ⟨(some 15),.mov (.t 41),none⟩])
 (.seq (.seq (.dops 0 [] [(⟨(some 42),.mov (.t 15),none⟩,.L),
 (⟨(some 43),.bin .neq .no (.t 42) (.c (.int .i64 0)),none⟩,.L),
 (⟨(some 44),.mov (.t 43),none⟩,.L),
 (⟨(some 45),.mov (.t 14),(some (44,false))⟩,.L),
 (⟨(some 46),.b2s (.t 45),(some (44,false))⟩,.R [] []),
 (⟨(some 47),.mov (.t 0),(some (44,false))⟩,.L),
 (⟨(some 48),.mov (.t 9),(some (44,false))⟩,.L),
 (⟨(some 49),.mov (.t 1),(some (44,false))⟩,.L),
 (⟨(some 50),.slcS 1 (.t 47) (some (.t 48)) (some (.t 49)) none,(some (44,false))⟩,.L),
 (⟨(some 51),.b2s (.t 50),(some (44,false))⟩,.R [] []),
 (⟨(some 52),.bin .neq .no (.t 46) (.t 51),(some (44,false))⟩,.L),
 (⟨(some 53),.pick (.t 44) (.c (.bool true)) (.t 52),none⟩,.L)])
 (.cond (.t 53)
 (.seq (.ops [⟨(some 6),.mov (.c (.slice none 0 (some 0) 0)),none⟩,
 ⟨(some 7),.mov (.c (.int .i64 (-1))),none⟩])
 (.ret))
 (.skip)))
 (.seq (.ops [⟨(some 54),.mov (.t 8),none⟩,
 ⟨(some 55),.mov (.t 1),none⟩,
 ⟨(some 6),.mov (.t 54),none⟩,
 ⟨(some 7),.mov (.t 55),none⟩])
 (.ret))))
 (.skip)))
 (.ops [⟨(some 56),.mov (.t 8),none⟩,
 ⟨(some 57),.load (some 2) (.t 11),none⟩,
 ⟨(some 58),.buildS [(.int .i64 0),(.slice none 0 (some 0) 0)] 1 2 [(0,2,(.t 57))],none⟩,
 ⟨(some 59),.append 2 32 (.t 56) (.t 58),none⟩,
 ⟨(some 8),.mov (.t 59),none⟩]))))))
 (.ops [⟨(some 21),.mov (.t 10),none⟩,
 ⟨(some 22),.bin .add .no (.t 21) (.c (.int .i64 1)),none⟩,
 ⟨(some 10),.mov (.t 22),none⟩]))
def R_purserref17_group_0 : C := .seq (.ops [⟨(some 6),.mov (.c (.slice none 0 (some 0) 0)),none⟩,
 ⟨(some 7),.mov (.c (.int .i64 (-1))),none⟩])
 (.ret)
/-- purser/purserref17.group -/
def f_purserref17_group : Fn := ⟨60,[.tmp 6,.tmp 7],
 .seq (.ops [⟨(some 6),.mov (.c (.slice none 0 (some 0) 0)),none⟩,
 ⟨(some 7),.mov (.c (.int .i64 0)),none⟩])
 (.seq (.ops [⟨(some 8),.mov (.c (.slice none 0 (some 0) 0)),none⟩])
 (.seq (.ops [⟨(some 16),.mov (.t 1),none⟩,
 ⟨(some 9),.mov (.t 16),none⟩])
 (.seq (.seq (.ops [⟨(some 10),.mov (.c (.int .i64 0)),none⟩])
 (.block 0 (.loop (L_purserref17_group_0))))
 (R_purserref17_group_0))))⟩
def L_slices_EqualFunc_api_Record_api_Record_api_Record_api_Record_0 : C := .seq (.ops [⟨(some 18),.bin .lss .no (.t 17) (.t 16),none⟩])
 (.seq (.cond (.t 18)
 (.skip)
 (.exit 0))
 (.seq (.block 1 (.seq (.ops [⟨(some 19),.mov (.t 17),none⟩,
 ⟨(some 20),.idxAddrS 1 (.t 15) (.t 17),none⟩,
 ⟨(some 21),.load none (.t 20),none⟩,
 ⟨(some 7),.mov (.t 19),none⟩,
 ⟨(some 8),.mov (.t 21),none⟩])
 (.seq (.ops [⟨(some 22),.mov (.t 1),none⟩,
 ⟨(some 23),.mov (.t 7),none⟩,
 ⟨(some 24),.idxAddrS 1 (.t 22) (.t 23),none⟩,
 ⟨(some 25),.load none (.t 24),none⟩,
 ⟨(some 9),.mov (.t 25),none⟩])
 (.seq (.ops [⟨(some 26),.mov (.t 2),none⟩,
 ⟨(some 27),.mov (.t 8),none⟩,
 ⟨(some 28),.mov (.t 9),none⟩,
 ⟨(some 29),.callv (.t 26) [(.t 27),(.t 28)],none⟩,
 ⟨(some 30),.un .not (.t 29),none⟩])
 (.cond (.t 30)
 (.seq (.ops [⟨(some 6),.mov (.c (.bool false)),none⟩])
 (.ret))
 (.skip))))))
 (.ops [⟨(some 31),.bin .add .no (.t 17) (.c (.int .i64 1)),none⟩,
 ⟨(some 17),.mov (.t 31),none⟩])))
def R_slices_EqualFunc_api_Record_api_Record_api_Record_api_Record_0 : C := .seq (.ops [⟨(some 6),.mov (.c (.bool true)),none⟩])
 (.ret)
/-- slices.EqualFunc[[][]purser/api.Record,[][]purser/api.Record,[]purser/api.Record,[]purser/api.Record] -/
def f_slices_EqualFunc_api_Record_api_Record_api_Record_api_Record : Fn := ⟨32,[.tmp 6],
 .seq (.ops [⟨(some 6),.mov (.c (.bool false)),none⟩])
 (.seq (.seq (.ops [⟨(some 10),.mov (.t 0),none⟩,
 ⟨(some 11),.len false (.t 10),none⟩,
 ⟨(some 12),.mov (.t 1),none⟩,
 ⟨(some 13),.len false (.t 12),none⟩,
 ⟨(some 14),.bin .neq .no (.t 11) (.t 13),none⟩])
 (.cond (.t 14)
 (.seq (.ops [⟨(some 6),.mov (.c (.bool false)),none⟩])
 (.ret))
 (.skip)))
 (.seq (.seq (.ops [⟨(some 15),.mov (.t 0),none⟩,
 ⟨(some 16),.len false (.t 15),none⟩,
 ⟨(some 17),.mov (.c (.int .i64 0)),none⟩])
 (.block 0 (.loop (L_slices_EqualFunc_api_Record_api_Record_api_Record_api_Record_0))))
 (R_slices_EqualFunc_api_Record_api_Record_api_Record_api_Record_0)))⟩
/-- purser/record.Same -/
def f_record_Same : Fn := ⟨8,[.tmp 4],
 .seq (.ops [⟨(some 4),.mov (.c (.bool false)),none⟩])
 (.seq (.ops [⟨(some 5),.mov (.t 0),none⟩,
 ⟨(some 6),.mov (.t 1),none⟩,
 ⟨(some 7),.call k_slices_EqualFunc_api_Record_api_Record_api_Record_api_Record_86 [(.t 5),(.t 6),(.f k_record_same)],none⟩,
 ⟨(some 4),.mov (.t 7),none⟩])
 (.ret))⟩
def L_segment_fits_0 : C := .seq (.ops [⟨(some 13),.bin .lss .no (.t 12) (.t 11),none⟩])
 (.seq (.cond (.t 13)
 (.skip)
 (.exit 0))
 (.seq (.block 1 (.seq (.ops [⟨(some 14),.idxAddrS 2 (.t 10) (.t 12),none⟩,
 ⟨(some 15),.load (some 2) (.t 14),none⟩,
 ⟨(some 5),.alloc [(.int .i64 0),(.slice none 0 (some 0) 0)],none⟩,
 ⟨none,.store 2 (.t 5) (.t 15),none⟩])
 (.seq (.ops [⟨(some 16),.mov (.t 3),none⟩,
 ⟨(some 17),.fieldAddr 1 (.t 5),none⟩,
 ⟨(some 18),.load none (.t 17),none⟩,
 ⟨(some 19),.len false (.t 18),none⟩,
 ⟨(some 20),.bin .add .no (.t 19) (.c (.int .i64 13)),none⟩,
 ⟨(some 21),.bin .add .no (.t 16) (.t 20),none⟩,
 ⟨(some 3),.mov (.t 21),none⟩])
 (.seq (.ops [⟨(some 22),.fieldAddr 0 (.t 5),none⟩,
 ⟨(some 23),.load none (.t 22),none⟩,
 ⟨(some 24),.bin .eql .no (.t 23) (.c (.int .i64 255)),none⟩,
 ⟨(some 25),.mov (.t 24),none⟩,
 ⟨(some 26),.mov (.t 3),(some (25,false))⟩,
 ⟨(some 27),.bin .gtr .no (.t 26) (.c (.int .i64 1500000)),(some (25,false))⟩,
 ⟨(some 28),.pick (.t 25) (.c (.bool true)) (.t 27),none⟩])
 (.cond (.t 28)
 (.seq (.ops [⟨(some 2),.mov (.c (.bool false)),none⟩])
 (.ret))
 (.skip))))))
 (.ops [⟨(some 29),.bin .add .no (.t 12) (.c (.int .i64 1)),none⟩,
 ⟨(some 12),.mov (.t 29),none⟩])))
def R_segment_fits_0 : C := .seq (.ops [⟨(some 2),.mov (.c (.bool true)),none⟩])
 (.ret)
/-- purser/segment.fits -/
def f_segment_fits : Fn := ⟨30,[.tmp 2],
 .seq (.ops [⟨(some 2),.mov (.c (.bool false)),none⟩])
 (.seq (.ops [⟨(some 6),.call k_segment_marker [(.c (.int .u64 1)),(.c (.int .i64 1))],none⟩,
 ⟨(some 7),.fld 1 none (.t 6),none⟩,
 ⟨(some 8),.len false (.t 7),none⟩,
 ⟨(some 9),.bin .add .no (.t 8) (.c (.int .i64 13)),none⟩,
 ⟨(some 3),.mov (.t 9),none⟩])
 (.seq (.seq (.ops [⟨(some 10),.mov (.t 0),none⟩,
 ⟨(some 11),.len false (.t 10),none⟩,
 ⟨(some 12),.mov (.c (.int .i64 0)),none⟩])
 (.block 0 (.loop (L_segment_fits_0))))
 (R_segment_fits_0)))⟩
def L_record_Encode_0 : C := .seq (.ops [⟨(some 11),.bin .lss .no (.t 10) (.t 9),none⟩])
 (.seq (.cond (.t 11)
 (.skip)
 (.exit 0))
 (.seq (.block 1 (.seq (.ops [⟨(some 12),.idxAddrS 2 (.t 8) (.t 10),none⟩,
 ⟨(some 13),.load (some 2) (.t 12),none⟩,
 ⟨(some 6),.alloc [(.int .i64 0),(.slice none 0 (some 0) 0)],none⟩,
 ⟨none,.store 2 (.t 6) (.t 13),none⟩])
 (.seq (.seq (.ops [⟨(some 14),.load (some 2) (.t 6),none⟩,
 ⟨(some 15),.call k_record_Check [(.t 14)],none⟩,
 ⟨(some 7),.mov (.t 15),none⟩])
 (.seq (.ops [⟨(some 16),.mov (.t 7),none⟩,
 ⟨(some 17),.bin .neq .no (.t 16) (.c (.int .i64 0)),none⟩])
 (.cond (.t 17)
 (.seq (.ops [⟨(some 18),.mov (.t 7),none⟩,
 ⟨(some 2),.mov (.c (.slice none 0 (some 0) 0)),none⟩,
 ⟨(some 3),.mov (.t 18),none⟩])
 (.ret))
 (.skip))))
 (.dops 1 [] [(⟨(some 19),.load (some 2) (.t 6),none⟩,.R [] []),
 (⟨(some 20),.call k_record_head [(.t 19)],none⟩,.B []),
 (⟨(some 21),.fieldAddr 1 (.t 6),none⟩,.L),
 (⟨(some 22),.load none (.t 21),none⟩,.R [] [(3,[])]),
 (⟨(some 23),.call k_crc_Mark [(.t 22)],none⟩,.B []),
 (⟨(some 24),.buildS [(.slice none 0 (some 0) 0),(.slice none 0 (some 0) 0)] 2 1 [(0,1,(.t 20)),(1,1,(.t 23))],none⟩,.Al 0),
 (⟨(some 25),.call k_octet_Pen_Raw [(.t 4),(.t 24)],none⟩,.B [0])]))))
 (.ops [⟨(some 26),.bin .add .no (.t 10) (.c (.int .i64 1)),none⟩,
 ⟨(some 10),.mov (.t 26),none⟩])))
def R_record_Encode_0 : C := .seq (.ops [⟨(some 27),.call k_octet_Pen_All [(.t 4)],none⟩,
 ⟨(some 2),.mov (.t 27),none⟩,
 ⟨(some 3),.mov (.c (.int .i64 0)),none⟩])
 (.ret)
/-- purser/record.Encode -/
def f_record_Encode : Fn := ⟨28,[.tmp 2,.tmp 3],
 .seq (.ops [⟨(some 2),.mov (.c (.slice none 0 (some 0) 0)),none⟩,
 ⟨(some 3),.mov (.c (.int .i64 0)),none⟩])
 (.seq (.ops [⟨(some 4),.alloc [(.slice none 0 (some 0) 0)],none⟩])
 (.seq (.seq (.ops [⟨(some 8),.mov (.t 0),none⟩,
 ⟨(some 9),.len false (.t 8),none⟩,
 ⟨(some 10),.mov (.c (.int .i64 0)),none⟩])
 (.block 0 (.loop (L_record_Encode_0))))
 (R_record_Encode_0)))⟩
/-- slices.Clone[[]purser/api.Record,purser/api.Record] -/
def f_slices_Clone_api_Record_api_Record : Fn := ⟨8,[.tmp 2],
 .seq (.ops [⟨(some 2),.mov (.c (.slice none 0 (some 0) 0)),none⟩])
 (.seq (.seq (.ops [⟨(some 3),.mov (.t 0),none⟩,
 ⟨(some 4),.bin .eql (.ref .s) (.t 3) (.c (.slice none 0 (some 0) 0)),none⟩])
 (.cond (.t 4)
 (.seq (.ops [⟨(some 2),.mov (.c (.slice none 0 (some 0) 0)),none⟩])
 (.ret))
 (.skip)))
 (.seq (.ops [⟨(some 5),.buildS [] 0 2 [],none⟩,
 ⟨(some 6),.mov (.t 0),none⟩,
 ⟨(some 7),.append 2 32 (.t 5) (.t 6),none⟩,
 ⟨(some 2),.mov (.t 7),none⟩])
 (.ret)))⟩
/-- purser/segment.marker -/
def f_segment_marker : Fn := ⟨13,[.cell 4 (some 2)],
 .seq (.ops [⟨(some 4),.alloc [(.int .i64 0),(.slice none 0 (some 0) 0)],none⟩])
 (.seq (.ops [⟨(some 5),.alloc [(.slice none 0 (some 0) 0)],none⟩])
 (.seq (.ops [⟨(some 6),.mov (.t 0),none⟩,
 ⟨(some 7),.call k_octet_Pen_Fixed [(.t 5),(.c (.int .i64 8)),(.t 6)],none⟩])
 (.seq (.ops [⟨(some 8),.mov (.t 1),none⟩,
 ⟨(some 9),.conv .u64 (.t 8),none⟩,
 ⟨(some 10),.call k_octet_Pen_Fixed [(.t 5),(.c (.int .i64 4)),(.t 9)],none⟩])
 (.seq (.ops [⟨(some 11),.call k_octet_Pen_All [(.t 5)],none⟩,
 ⟨(some 12),.build [(.int .i64 0),(.slice none 0 (some 0) 0)] [(0,1,(.c (.int .i64 255))),(1,1,(.t 11))],none⟩,
 ⟨none,.store 2 (.t 4) (.t 12),none⟩])
 (.ret)))))⟩
/-- purser/octet.sized -/
def f_octet_sized : Fn := ⟨17,[.tmp 2],
 .seq (.ops [⟨(some 2),.mov (.c (.bool false)),none⟩])
 (.seq (.ops [⟨(some 3),.mov (.t 0),none⟩,
 ⟨(some 4),.bin .eql .no (.t 3) (.c (.int .i64 1)),none⟩,
 ⟨(some 5),.mov (.t 4),none⟩,
 ⟨(some 6),.mov (.t 0),(some (5,false))⟩,
 ⟨(some 7),.bin .eql .no (.t 6) (.c (.int .i64 2)),(some (5,false))⟩,
 ⟨(some 8),.pick (.t 5) (.c (.bool true)) (.t 7),none⟩,
 ⟨(some 9),.mov (.t 8),none⟩,
 ⟨(some 10),.mov (.t 0),(some (9,false))⟩,
 ⟨(some 11),.bin .eql .no (.t 10) (.c (.int .i64 4)),(some (9,false))⟩,
 ⟨(some 12),.pick (.t 9) (.c (.bool true)) (.t 11),none⟩,
 ⟨(some 13),.mov (.t 12),none⟩,
 ⟨(some 14),.mov (.t 0),(some (13,false))⟩,
 ⟨(some 15),.bin .eql .no (.t 14) (.c (.int .i64 8)),(some (13,false))⟩,
 ⟨(some 16),.pick (.t 13) (.c (.bool true)) (.t 15),none⟩,
 ⟨(some 2),.mov (.t 16),none⟩])
 (.ret))⟩
def A_octet_Pen_put_0 : C := .seq (.ops [⟨(some 7),.mov (.t 26),none⟩])
 (.ops [⟨(some 8),.mov (.t 27),none⟩])
theorem u_A_octet_Pen_put_0 (Q : Orc) (N n : Nat) (r : Option Nat) (st : St) : evC Q N n r A_octet_Pen_put_0 st = evC Q N n r (.seq (.ops [⟨(some 7),.mov (.t 26),none⟩])
 (.ops [⟨(some 8),.mov (.t 27),none⟩])) st := _root_.id rfl
def B_octet_Pen_put_0 : C := .block 1 (.dops 0 [] [(⟨(some 28),.load none (.t 3),none⟩,.R [] []),
 (⟨(some 29),.nilchk (.t 28),none⟩,.L),
 (⟨(some 30),.fieldAddr 0 (.t 29),none⟩,.L),
 (⟨(some 31),.load none (.t 30),none⟩,.R [] []),
 (⟨(some 32),.load none (.t 6),none⟩,.R [] []),
 (⟨(some 33),.mov (.t 7),none⟩,.L),
 (⟨(some 34),.bin .add .no (.t 32) (.t 33),none⟩,.L),
 (⟨(some 35),.mov (.t 8),none⟩,.L),
 (⟨(some 36),.idxAddrS 1 (.t 31) (.t 34),none⟩,.L),
 (⟨none,.store 1 (.t 36) (.t 35),none⟩,.B [])])
theorem u_B_octet_Pen_put_0 (Q : Orc) (N n : Nat) (r : Option Nat) (st : St) : evC Q N n r B_octet_Pen_put_0 st = evC Q N n r (.block 1 (.dops 0 [] [(⟨(some 28),.load none (.t 3),none⟩,.R [] []),
 (⟨(some 29),.nilchk (.t 28),none⟩,.L),
 (⟨(some 30),.fieldAddr 0 (.t 29),none⟩,.L),
 (⟨(some 31),.load none (.t 30),none⟩,.R [] []),
 (⟨(some 32),.load none (.t 6),none⟩,.R [] []),
 (⟨(some 33),.mov (.t 7),none⟩,.L),
 (⟨(some 34),.bin .add .no (.t 32) (.t 33),none⟩,.L),
 (⟨(some 35),.mov (.t 8),none⟩,.L),
 (⟨(some 36),.idxAddrS 1 (.t 31) (.t 34),none⟩,.L),
 (⟨none,.store 1 (.t 36) (.t 35),none⟩,.B [])])) st := _root_.id rfl
/-- (*purser/octet.Pen).put -/
def f_octet_Pen_put : Fn := ⟨37,[],
 .seq (.ops [⟨(some 3),.box (.t 0),none⟩])
 (.seq (.ops [⟨(some 9),.load none (.t 3),none⟩,
 ⟨(some 10),.nilchk (.t 9),none⟩,
 ⟨(some 11),.fieldAddr 0 (.t 10),none⟩,
 ⟨(some 12),.load none (.t 11),none⟩,
 ⟨(some 13),.len false (.t 12),none⟩,
 ⟨(some 6),.alloc [(.int .i64 0)],none⟩,
 ⟨none,.store 1 (.t 6) (.t 13),none⟩])
 (.seq (.dops 0 [] [(⟨(some 14),.load none (.t 3),none⟩,.R [] [(1,[])]),
 (⟨(some 15),.load none (.t 3),none⟩,.R [] []),
 (⟨(some 16),.nilchk (.t 15),none⟩,.L),
 (⟨(some 17),.fieldAddr 0 (.t 16),none⟩,.L),
 (⟨(some 18),.load none (.t 17),none⟩,.R [] []),
 (⟨(some 19),.mov (.t 1),none⟩,.L),
 (⟨(some 20),.appendZ [(.int .u8 0)] 1 (.t 18) (.t 19),none⟩,.B []),
 (⟨(some 21),.nilchk (.t 14),none⟩,.L),
 (⟨(some 22),.fieldAddr 0 (.t 21),none⟩,.L),
 (⟨none,.store 1 (.t 22) (.t 20),none⟩,.B [])])
 (.seq (.ops [⟨(some 23),.mov (.t 2),none⟩,
 ⟨(some 24),.mov (.t 1),none⟩,
 ⟨(some 25),.call k_octet_highFirst [(.t 23),(.t 24)],none⟩])
 (.block 0 (.rangeF (.t 25) [26,27] (A_octet_Pen_put_0)
 (B_octet_Pen_put_0))))))⟩
def L_purserref01_power_0 : C := .seq (.seq (.ops [⟨(some 5),.mov (.t 4),none⟩,
 ⟨(some 6),.mov (.t 0),none⟩,
 ⟨(some 7),.bin .lss .no (.t 5) (.t 6),none⟩])
 (.cond (.t 7)
 (.skip)
 (.exit 0)))
 (.seq (.block 1 (.ops [⟨(some 10),.mov (.t 3),none⟩,
 ⟨(some 11),.bin .mul .no (.t 10) (.c (.int .u64 256)),none⟩,
 ⟨(some 3),.mov (.t 11),none⟩]))
 (.ops [⟨(some 8),.mov (.t 4),none⟩,
 ⟨(some 9),.bin .add .no (.t 8) (.c (.int .i64 1)),none⟩,
 ⟨(some 4),.mov (.t 9),none⟩]))
def R_purserref01_power_0 : C := .seq (.ops [⟨(some 12),.mov (.t 3),none⟩,
 ⟨(some 2),.mov (.t 12),none⟩])
 (.ret)
/-- purser/purserref01.power -/
def f_purserref01_power : Fn := ⟨13,[.tmp 2],
 .seq (.ops [⟨(some 2),.mov (.c (.int .u64 0)),none⟩])
 (.seq (.ops [⟨(some 3),.mov (.c (.int .u64 1)),none⟩])
 (.seq (.seq (.ops [⟨(some 4),.mov (.c (.int .i64 0)),none⟩])
 (.block 0 (.loop (L_purserref01_power_0))))
 (R_purserref01_power_0)))⟩
/-- purser/octet.mark -/
def f_octet_mark : Fn := ⟨8,[.tmp 2],
 .seq (.ops [⟨(some 2),.mov (.c (.int .u8 0)),none⟩])
 (.seq (.seq (.ops [⟨(some 3),.mov (.t 0),none⟩])
 (.block 0 (.seq (.ops [⟨(some 5),.bin .eql .no (.t 3) (.c (.int .i64 2)),none⟩,
 ⟨(some 4),.mov (.t 5),none⟩])
 (.cond (.t 4)
 (.seq (.ops [⟨(some 2),.mov (.c (.int .u8 253)),none⟩])
 (.ret))
 (.seq (.ops [⟨(some 7),.bin .eql .no (.t 3) (.c (.int .i64 4)),none⟩,
 ⟨(some 6),.mov (.t 7),none⟩])
 (.cond (.t 6)
 (.seq (.ops [⟨(some 2),.mov (.c (.int .u8 254)),none⟩])
 (.ret))
 (.skip)))))))
 (.seq (.ops [⟨(some 2),.mov (.c (.int .u8 255)),none⟩])
 (.ret)))⟩
/-- purser/octet.highFirst -/
def f_octet_highFirst : Fn := ⟨6,[.tmp 4],
 .seq (.ops [⟨(some 2),.box (.t 0),none⟩,
 ⟨(some 3),.box (.t 1),none⟩,
 ⟨(some 4),.mov (.c .nilFn),none⟩])
 (.seq (.ops [⟨(some 5),.mkfn k_octet_highFirst_1 [] [(.t 3),(.t 2)],none⟩,
 ⟨(some 4),.mov (.t 5),none⟩])
 (.ret))⟩
def L_octet_number_0 : C := .seq (.seq (.ops [⟨(some 8),.mov (.t 4),none⟩,
 ⟨(some 9),.bin .geq .no (.t 8) (.c (.int .i64 0)),none⟩])
 (.cond (.t 9)
 (.skip)
 (.exit 0)))
 (.seq (.block 1 (.ops [⟨(some 12),.mov (.t 3),none⟩,
 ⟨(some 13),.bin .shl .no (.t 12) (.c (.int .u64 8)),none⟩,
 ⟨(some 14),.mov (.t 0),none⟩,
 ⟨(some 15),.mov (.t 4),none⟩,
 ⟨(some 16),.idxAddrS 1 (.t 14) (.t 15),none⟩,
 ⟨(some 17),.load none (.t 16),none⟩,
 ⟨(some 18),.conv .u64 (.t 17),none⟩,
 ⟨(some 19),.bin .or .no (.t 13) (.t 18),none⟩,
 ⟨(some 3),.mov (.t 19),none⟩]))
 (.ops [⟨(some 10),.mov (.t 4),none⟩,
 ⟨(some 11),.bin .sub .no (.t 10) (.c (.int .i64 1)),none⟩,
 ⟨(some 4),.mov (.t 11),none⟩]))
def R_octet_number_0 : C := .seq (.ops [⟨(some 20),.mov (.t 3),none⟩,
 ⟨(some 2),.mov (.t 20),none⟩])
 (.ret)
/-- purser/octet.number -/
def f_octet_number : Fn := ⟨21,[.tmp 2],
 .seq (.ops [⟨(some 2),.mov (.c (.int .u64 0)),none⟩])
 (.seq (.ops [⟨(some 3),.mov (.c (.int .u64 0)),none⟩])
 (.seq (.seq (.ops [⟨(some 5),.mov (.t 0),none⟩,
 ⟨(some 6),.len false (.t 5),none⟩,
 ⟨(some 7),.bin .sub .no (.t 6) (.c (.int .i64 1)),none⟩,
 ⟨(some 4),.mov (.t 7),none⟩])
 (.block 0 (.loop (L_octet_number_0))))
 (R_octet_number_0)))⟩
/-- purser/octet.compact -/
def f_octet_compact : Fn := ⟨33,[.tmp 2,.tmp 3,.tmp 4],
 .seq (.ops [⟨(some 2),.mov (.c (.int .u64 0)),none⟩,
 ⟨(some 3),.mov (.c (.int .i64 0)),none⟩,
 ⟨(some 4),.mov (.c (.bool false)),none⟩])
 (.seq (.seq (.ops [⟨(some 5),.mov (.t 0),none⟩,
 ⟨(some 6),.len false (.t 5),none⟩,
 ⟨(some 7),.bin .eql .no (.t 6) (.c (.int .i64 0)),none⟩])
 (.cond (.t 7)
 (.seq (.ops [⟨(some 2),.mov (.c (.int .u64 0)),none⟩,
 ⟨(some 3),.mov (.c (.int .i64 0)),none⟩,
 ⟨(some 4),.mov (.c (.bool false)),none⟩])
 (.ret))
 (.skip)))
 (.seq (.ops [⟨(some 8),.mov (.t 0),none⟩,
 ⟨(some 9),.idxAddrS 1 (.t 8) (.c (.int .i64 0)),none⟩,
 ⟨(some 10),.load none (.t 9),none⟩,
 ⟨(some 11),.call k_octet_following [(.t 10)],none⟩,
 ⟨(some 12),.bin .add .no (.c (.int .i64 1)) (.t 11),none⟩,
 ⟨(some 3),.mov (.t 12),none⟩])
 (.seq (.seq (.ops [⟨(some 13),.mov (.t 0),none⟩,
 ⟨(some 14),.len false (.t 13),none⟩,
 ⟨(some 15),.mov (.t 3),none⟩,
 ⟨(some 16),.bin .lss .no (.t 14) (.t 15),none⟩])
 (.cond (.t 16)
 (.seq (.ops [⟨(some 2),.mov (.c (.int .u64 0)),none⟩,
 ⟨(some 3),.mov (.c (.int .i64 0)),none⟩,
 ⟨(some 4),.mov (.c (.bool false)),none⟩])
 (.ret))
 (.skip)))
 (.seq (.ops [⟨(some 17),.mov (.t 0),none⟩,
 ⟨(some 18),.idxAddrS 1 (.t 17) (.c (.int .i64 0)),none⟩,
 ⟨(some 19),.load none (.t 18),none⟩,
 ⟨(some 20),.conv .u64 (.t 19),none⟩,
 ⟨(some 2),.mov (.t 20),none⟩])
 (.seq (.seq (.ops [⟨(some 21),.mov (.t 3),none⟩,
 ⟨(some 22),.bin .gtr .no (.t 21) (.c (.int .i64 1)),none⟩])
 (.cond (.t 22)
 (.ops [⟨(some 23),.mov (.t 0),none⟩,
 ⟨(some 24),.mov (.t 3),none⟩,
 ⟨(some 25),.slcS 1 (.t 23) (some (.c (.int .i64 1))) (some (.t 24)) none,none⟩,
 ⟨(some 26),.call k_octet_number [(.t 25)],none⟩,
 ⟨(some 2),.mov (.t 26),none⟩])
 (.skip)))
 (.seq (.ops [⟨(some 27),.mov (.t 2),none⟩,
 ⟨(some 28),.mov (.t 3),none⟩,
 ⟨(some 29),.mov (.t 2),none⟩,
 ⟨(some 30),.call k_octet_Compact [(.t 29)],none⟩,
 ⟨(some 31),.mov (.t 3),none⟩,
 ⟨(some 32),.bin .eql .no (.t 30) (.t 31),none⟩,
 ⟨(some 2),.mov (.t 27),none⟩,
 ⟨(some 3),.mov (.t 28),none⟩,
 ⟨(some 4),.mov (.t 32),none⟩])
 (.ret)))))))⟩
/-- (*purser/octet.Eye).take -/
def f_octet_Eye_take : Fn := ⟨31,[.tmp 4],
 .seq (.ops [⟨(some 4),.mov (.c (.slice none 0 (some 0) 0)),none⟩])
 (.seq (.dops 0 [] [(⟨(some 6),.mov (.t 0),none⟩,.L),
 (⟨(some 7),.nilchk (.t 6),none⟩,.L),
 (⟨(some 8),.fieldAddr 0 (.t 7),none⟩,.L),
 (⟨(some 9),.load none (.t 8),none⟩,.R [] []),
 (⟨(some 10),.mov (.t 0),none⟩,.L),
 (⟨(some 11),.nilchk (.t 10),none⟩,.L),
 (⟨(some 12),.fieldAddr 1 (.t 11),none⟩,.L),
 (⟨(some 13),.load none (.t 12),none⟩,.R [] []),
 (⟨(some 14),.mov (.t 0),none⟩,.L),
 (⟨(some 15),.nilchk (.t 14),none⟩,.L),
 (⟨(some 16),.fieldAddr 1 (.t 15),none⟩,.L),
 (⟨(some 17),.load none (.t 16),none⟩,.R [] []),
 (⟨(some 18),.mov (.t 1),none⟩,.L),
 (⟨(some 19),.bin .add .no (.t 17) (.t 18),none⟩,.L),
 (⟨(some 20),.slcS 1 (.t 9) (some (.t 13)) (some (.t 19)) none,none⟩,.L),
 (⟨(some 21),.append 1 1 (.c (.slice none 0 (some 0) 0)) (.t 20),none⟩,.B []),
 (⟨(some 5),.mov (.t 21),none⟩,.L)])
 (.seq (.ops [⟨(some 22),.mov (.t 0),none⟩,
 ⟨(some 23),.nilchk (.t 22),none⟩,
 ⟨(some 24),.fieldAddr 1 (.t 23),none⟩,
 ⟨(some 25),.load none (.t 24),none⟩,
 ⟨(some 26),.mov (.t 1),none⟩,
 ⟨(some 27),.bin .add .no (.t 25) (.t 26),none⟩,
 ⟨(some 28),.nilchk (.t 22),none⟩,
 ⟨(some 29),.fieldAddr 1 (.t 28),none⟩,
 ⟨none,.store 1 (.t 29) (.t 27),none⟩])
 (.seq (.ops [⟨(some 30),.mov (.t 5),none⟩,
 ⟨(some 4),.mov (.t 30),none⟩])
 (.ret))))⟩
def A_crc_On_0 : C := .ops [⟨(some 7),.mov (.t 14),none⟩]
theorem u_A_crc_On_0 (Q : Orc) (N n : Nat) (r : Option Nat) (st : St) : evC Q N n r A_crc_On_0 st = evC Q N n r (.ops [⟨(some 7),.mov (.t 14),none⟩]) st := _root_.id rfl
def B_crc_On_0 : C := .block 1 (.seq (.ops [⟨(some 15),.load none (.t 6),none⟩,
 ⟨(some 16),.conv .u8 (.t 15),none⟩,
 ⟨(some 17),.bin .and .no (.t 16) (.c (.int .u8 15)),none⟩,
 ⟨(some 18),.mov (.t 7),none⟩,
 ⟨(some 19),.bin .xor .no (.t 17) (.t 18),none⟩,
 ⟨(some 8),.mov (.t 19),none⟩])
 (.seq (.ops [⟨(some 20),.load none (.t 6),none⟩,
 ⟨(some 21),.bin .shr .no (.t 20) (.c (.int .u64 4)),none⟩,
 ⟨none,.store 1 (.t 6) (.t 21),none⟩])
 (.seq (.seq (.ops [⟨(some 22),.mov (.t 8),none⟩,
 ⟨(some 23),.bin .eql .no (.t 22) (.c (.int .u8 0)),none⟩])
 (.cond (.t 23)
 (.exit 1)
 (.skip)))
 (.dops 0 [] [(⟨(some 24),.load none (.t 6),none⟩,.R [] []),
 (⟨(some 25),.mov (.t 8),none⟩,.L),
 (⟨(some 26),.idxAddrA 16 1 (.t 5) (.t 25),none⟩,.L),
 (⟨(some 27),.load none (.t 26),none⟩,.R [] []),
 (⟨(some 28),.bin .xor .no (.t 24) (.t 27),none⟩,.L),
 (⟨none,.store 1 (.t 6) (.t 28),none⟩,.B [])]))))
theorem u_B_crc_On_0 (Q : Orc) (N n : Nat) (r : Option Nat) (st : St) : evC Q N n r B_crc_On_0 st = evC Q N n r (.block 1 (.seq (.ops [⟨(some 15),.load none (.t 6),none⟩,
 ⟨(some 16),.conv .u8 (.t 15),none⟩,
 ⟨(some 17),.bin .and .no (.t 16) (.c (.int .u8 15)),none⟩,
 ⟨(some 18),.mov (.t 7),none⟩,
 ⟨(some 19),.bin .xor .no (.t 17) (.t 18),none⟩,
 ⟨(some 8),.mov (.t 19),none⟩])
 (.seq (.ops [⟨(some 20),.load none (.t 6),none⟩,
 ⟨(some 21),.bin .shr .no (.t 20) (.c (.int .u64 4)),none⟩,
 ⟨none,.store 1 (.t 6) (.t 21),none⟩])
 (.seq (.seq (.ops [⟨(some 22),.mov (.t 8),none⟩,
 ⟨(some 23),.bin .eql .no (.t 22) (.c (.int .u8 0)),none⟩])
 (.cond (.t 23)
 (.exit 1)
 (.skip)))
 (.dops 0 [] [(⟨(some 24),.load none (.t 6),none⟩,.R [] []),
 (⟨(some 25),.mov (.t 8),none⟩,.L),
 (⟨(some 26),.idxAddrA 16 1 (.t 5) (.t 25),none⟩,.L),
 (⟨(some 27),.load none (.t 26),none⟩,.R [] []),
 (⟨(some 28),.bin .xor .no (.t 24) (.t 27),none⟩,.L),
 (⟨none,.store 1 (.t 6) (.t 28),none⟩,.B [])]))))) st := _root_.id rfl
def R_crc_On_0 : C := .seq (.ops [⟨(some 29),.load none (.t 6),none⟩,
 ⟨(some 30),.un .xor (.t 29),none⟩,
 ⟨(some 4),.mov (.t 30),none⟩])
 (.ret)
/-- purser/crc.On -/
def f_crc_On : Fn := ⟨31,[.tmp 4],
 .seq (.ops [⟨(some 4),.mov (.c (.int .u32 0)),none⟩])
 (.scope (.seq (.ops [⟨(some 9),.call k_crc_steps [],none⟩,
 ⟨(some 5),.alloc [(.int .u32 0),(.int .u32 0),(.int .u32 0),(.int .u32 0),(.int .u32 0),(.int .u32 0),(.int .u32 0),(.int .u32 0),(.int .u32 0),(.int .u32 0),(.int .u32 0),(.int .u32 0),(.int .u32 0),(.int .u32 0),(.int .u32 0),(.int .u32 0)],none⟩,
 ⟨none,.store 16 (.t 5) (.t 9),none⟩])
 (.seq (.ops [⟨(some 10),.mov (.t 0),none⟩,
 ⟨(some 11),.un .xor (.t 10),none⟩,
 ⟨(some 6),.alloc [(.int .u32 0)],none⟩,
 ⟨none,.store 1 (.t 6) (.t 11),none⟩])
 (.seq (.skip)
 (.seq (.seq (.ops [⟨(some 12),.mov (.t 1),none⟩,
 ⟨(some 13),.call k_crc_halves [(.t 12)],none⟩])
 (.block 0 (.rangeF (.t 13) [14] (A_crc_On_0)
 (B_crc_On_0))))
 (R_crc_On_0))))))⟩
def L_purserref02_On_0 : C := .seq (.seq (.ops [⟨(some 25),.mov (.t 8),none⟩,
 ⟨(some 26),.bin .lss .no (.t 25) (.c (.int .i64 8)),none⟩])
 (.cond (.t 26)
 (.skip)
 (.exit 2)))
 (.seq (.block 3 (.seq (.ops [⟨(some 29),.mov (.t 7),none⟩,
 ⟨(some 30),.bin .rem .no (.t 29) (.c (.int .u64 2)),none⟩,
 ⟨(some 9),.mov (.t 30),none⟩])
 (.seq (.ops [⟨(some 31),.mov (.t 7),none⟩,
 ⟨(some 32),.bin .quo .no (.t 31) (.c (.int .u64 2)),none⟩,
 ⟨(some 7),.mov (.t 32),none⟩])
 (.ops [⟨(some 33),.mov (.t 5),none⟩,
 ⟨(some 34),.mov (.t 9),none⟩,
 ⟨(some 35),.call k_purserref02_rest [(.t 33),(.t 34)],none⟩,
 ⟨(some 5),.mov (.t 35),none⟩]))))
 (.ops [⟨(some 27),.mov (.t 8),none⟩,
 ⟨(some 28),.bin .add .no (.t 27) (.c (.int .i64 1)),none⟩,
 ⟨(some 8),.mov (.t 28),none⟩]))
def R_purserref02_On_0 : C := .ops [⟨(some 18),.mov (.t 6),none⟩,
 ⟨(some 19),.bin .add .no (.t 18) (.c (.int .i64 1)),none⟩,
 ⟨(some 6),.mov (.t 19),none⟩]
def L_purserref02_On_1 : C := .seq (.seq (.ops [⟨(some 14),.mov (.t 6),none⟩,
 ⟨(some 15),.mov (.t 1),none⟩,
 ⟨(some 16),.len false (.t 15),none⟩,
 ⟨(some 17),.bin .lss .no (.t 14) (.t 16),none⟩])
 (.cond (.t 17)
 (.skip)
 (.exit 0)))
 (.seq (.block 1 (.seq (.ops [⟨(some 20),.mov (.t 1),none⟩,
 ⟨(some 21),.mov (.t 6),none⟩,
 ⟨(some 22),.idxAddrS 1 (.t 20) (.t 21),none⟩,
 ⟨(some 23),.load none (.t 22),none⟩,
 ⟨(some 24),.conv .u64 (.t 23),none⟩,
 ⟨(some 7),.mov (.t 24),none⟩])
 (.seq (.ops [⟨(some 8),.mov (.c (.int .i64 0)),none⟩])
 (.block 2 (.loop (L_purserref02_On_0))))))
 (R_purserref02_On_0))
def R_purserref02_On_1 : C := .seq (.ops [⟨(some 36),.mov (.t 5),none⟩,
 ⟨(some 37),.call k_purserref02_about [(.t 36)],none⟩,
 ⟨(some 38),.bin .sub .no (.c (.int .u64 4294967295)) (.t 37),none⟩,
 ⟨(some 39),.conv .u32 (.t 38),none⟩,
 ⟨(some 4),.mov (.t 39),none⟩])
 (.ret)
/-- purser/purserref02.On -/
def f_purserref02_On : Fn := ⟨40,[.tmp 4],
 .seq (.ops [⟨(some 4),.mov (.c (.int .u32 0)),none⟩])
 (.seq (.ops [⟨(some 10),.mov (.t 0),none⟩,
 ⟨(some 11),.conv .u64 (.t 10),none⟩,
 ⟨(some 12),.bin .sub .no (.c (.int .u64 4294967295)) (.t 11),none⟩,
 ⟨(some 13),.call k_purserref02_about [(.t 12)],none⟩,
 ⟨(some 5),.mov (.t 13),none⟩])
 (.seq (.seq (.ops [⟨(some 6),.mov (.c (.int .i64 0)),none⟩])
 (.block 0 (.loop (L_purserref02_On_1))))
 (R_purserref02_On_1)))⟩
def L_segment_groups_1_0 : C := .seq (.seq (.ops [⟨(some 8),.load none (.t 1),none⟩,
 ⟨(some 9),.bin .neq .no (.t 8) (.c (.int .u64 0)),none⟩])
 (.cond (.t 9)
 (.skip)
 (.exit 0)))
 (.block 1 (.seq (.ops [⟨(some 11),.load none (.t 2),none⟩,
 ⟨(some 12),.mov (.t 4),none⟩,
 ⟨(some 13),.load none (.t 1),none⟩,
 ⟨(some 14),.call k_segment_groupAt [(.t 11),(.t 12),(.t 13)],none⟩,
 ⟨(some 10),.mov (.t 14),none⟩,
 ⟨(some 15),.ext (.t 10) 0,none⟩,
 ⟨(some 16),.ext (.t 10) 1,none⟩,
 ⟨(some 17),.ext (.t 10) 2,none⟩,
 ⟨(some 5),.mov (.t 15),none⟩,
 ⟨(some 6),.mov (.t 16),none⟩,
 ⟨(some 7),.mov (.t 17),none⟩])
 (.seq (.seq (.ops [⟨(some 18),.mov (.t 7),none⟩,
 ⟨(some 19),.un .not (.t 18),none⟩,
 ⟨(some 20),.mov (.t 19),none⟩,
 ⟨(some 21),.mov (.t 0),(some (20,false))⟩,
 ⟨(some 22),.mov (.t 6),(some (20,false))⟩,
 ⟨(some 23),.mov (.t 5),(some (20,false))⟩,
 ⟨(some 24),.callv (.t 21) [(.t 22),(.t 23)],(some (20,false))⟩,
 ⟨(some 25),.un .not (.t 24),(some (20,false))⟩,
 ⟨(some 26),.pick (.t 20) (.c (.bool true)) (.t 25),none⟩])
 (.cond (.t 26)
 (.ret)
 (.skip)))
 (.seq (.ops [⟨(some 27),.mov (.t 6),none⟩,
 ⟨(some 4),.mov (.t 27),none⟩])
 (.ops [⟨(some 28),.load none (.t 1),none⟩,
 ⟨(some 29),.bin .add .no (.t 28) (.c (.int .u64 1)),none⟩,
 ⟨none,.store 1 (.t 1) (.t 29),none⟩])))))
/-- purser/segment.groups$1 -/
def f_segment_groups_1 : Fn := ⟨30,[],
 .seq (.ops [⟨(some 4),.mov (.c (.int .i64 0)),none⟩])
 (.block 0 (.loop (L_segment_groups_1_0)))⟩
/-- purser/purserref16.Decode -/
def f_purserref16_Decode : Fn := ⟨76,[.cell 4 (some 2),.tmp 5,.tmp 6],
 .seq (.ops [⟨(some 4),.alloc [(.int .i64 0),(.slice none 0 (some 0) 0)],none⟩,
 ⟨(some 5),.mov (.c (.int .i64 0)),none⟩,
 ⟨(some 6),.mov (.c (.int .i64 0)),none⟩])
 (.seq (.seq (.ops [⟨(some 10),.mov (.t 1),none⟩,
 ⟨(some 11),.bin .lss .no (.t 10) (.c (.int .i64 0)),none⟩,
 ⟨(some 12),.mov (.t 11),none⟩,
 ⟨(some 13),.mov (.t 1),(some (12,false))⟩,
 ⟨(some 14),.mov (.t 0),(some (12,false))⟩,
 ⟨(some 15),.len false (.t 14),(some (12,false))⟩,
 ⟨(some 16),.bin .gtr .no (.t 13) (.t 15),(some (12,false))⟩,
 ⟨(some 17),.pick (.t 12) (.c (.bool true)) (.t 16),none⟩,
 ⟨(some 18),.mov (.t 17),none⟩,
 ⟨(some 19),.mov (.t 0),(some (18,false))⟩,
 ⟨(some 20),.len false (.t 19),(some (18,false))⟩,
 ⟨(some 21),.mov (.t 1),(some (18,false))⟩,
 ⟨(some 22),.bin .sub .no (.t 20) (.t 21),(some (18,false))⟩,
 ⟨(some 23),.bin .lss .no (.t 22) (.c (.int .i64 13)),(some (18,false))⟩,
 ⟨(some 24),.pick (.t 18) (.c (.bool true)) (.t 23),none⟩])
 (.cond (.t 24)
 (.seq (.ops [⟨(some 25),.build [(.int .i64 0),(.slice none 0 (some 0) 0)] [],none⟩,
 ⟨none,.store 2 (.t 4) (.t 25),none⟩,
 ⟨(some 5),.mov (.c (.int .i64 0)),none⟩,
 ⟨(some 6),.mov (.c (.int .i64 160)),none⟩])
 (.ret))
 (.skip)))
 (.seq (.ops [⟨(some 26),.mov (.t 0),none⟩,
 ⟨(some 27),.mov (.t 1),none⟩,
 ⟨(some 28),.bin .add .no (.t 27) (.c (.int .i64 1)),none⟩,
 ⟨(some 29),.mov (.t 1),none⟩,
 ⟨(some 30),.bin .add .no (.t 29) (.c (.int .i64 5)),none⟩,
 ⟨(some 31),.slcS 1 (.t 26) (some (.t 28)) (some (.t 30)) none,none⟩,
 ⟨(some 32),.call k_purserref01_Number [(.t 31)],none⟩,
 ⟨(some 7),.mov (.t 32),none⟩])
 (.seq (.seq (.ops [⟨(some 33),.mov (.t 7),none⟩,
 ⟨(some 34),.bin .gtr .no (.t 33) (.c (.int .u64 200000)),none⟩,
 ⟨(some 35),.mov (.t 34),none⟩,
 ⟨(some 36),.mov (.t 7),(some (35,false))⟩,
 ⟨(some 37),.mov (.t 0),(some (35,false))⟩,
 ⟨(some 38),.len false (.t 37),(some (35,false))⟩,
 ⟨(some 39),.mov (.t 1),(some (35,false))⟩,
 ⟨(some 40),.bin .sub .no (.t 38) (.t 39),(some (35,false))⟩,
 ⟨(some 41),.bin .sub .no (.t 40) (.c (.int .i64 13)),(some (35,false))⟩,
 ⟨(some 42),.conv .u64 (.t 41),(some (35,false))⟩,
 ⟨(some 43),.bin .gtr .no (.t 36) (.t 42),(some (35,false))⟩,
 ⟨(some 44),.pick (.t 35) (.c (.bool true)) (.t 43),none⟩])
 (.cond (.t 44)
 (.seq (.ops [⟨(some 45),.build [(.int .i64 0),(.slice none 0 (some 0) 0)] [],none⟩,
 ⟨none,.store 2 (.t 4) (.t 45),none⟩,
 ⟨(some 5),.mov (.c (.int .i64 0)),none⟩,
 ⟨(some 6),.mov (.c (.int .i64 160)),none⟩])
 (.ret))
 (.skip)))
 (.seq (.ops [⟨(some 46),.mov (.t 1),none⟩,
 ⟨(some 47),.bin .add .no (.t 46) (.c (.int .i64 13)),none⟩,
 ⟨(some 48),.mov (.t 7),none⟩,
 ⟨(some 49),.conv .i64 (.t 48),none⟩,
 ⟨(some 50),.bin .add .no (.t 47) (.t 49),none⟩,
 ⟨(some 8),.mov (.t 50),none⟩])
 (.seq (.dops 1 [] [(⟨(some 51),.mov (.t 0),none⟩,.L),
 (⟨(some 52),.mov (.t 1),none⟩,.L),
 (⟨(some 53),.idxAddrS 1 (.t 51) (.t 52),none⟩,.L),
 (⟨(some 54),.load none (.t 53),none⟩,.R [] [(1,[])]),
 (⟨(some 55),.conv .i64 (.t 54),none⟩,.L),
 (⟨(some 56),.mov (.t 0),none⟩,.L),
 (⟨(some 57),.mov (.t 1),none⟩,.L),
 (⟨(some 58),.bin .add .no (.t 57) (.c (.int .i64 9)),none⟩,.L),
 (⟨(some 59),.mov (.t 8),none⟩,.L),
 (⟨(some 60),.bin .sub .no (.t 59) (.c (.int .i64 4)),none⟩,.L),
 (⟨(some 61),.slcS 1 (.t 56) (some (.t 58)) (some (.t 60)) none,none⟩,.L),
 (⟨(some 62),.call k_purserref01_Twin [(.t 61)],none⟩,.B []),
 (⟨(some 63),.build [(.int .i64 0),(.slice none 0 (some 0) 0)] [(0,1,(.t 55)),(1,1,(.t 62))],none⟩,.L),
 (⟨(some 9),.alloc [(.int .i64 0),(.slice none 0 (some 0) 0)],none⟩,.Al 0),
 (⟨none,.store 2 (.t 9) (.t 63),none⟩,.B [0])])
 (.seq (.seq (.dops 0 [] [(⟨(some 64),.load (some 2) (.t 9),none⟩,.R [] []),
 (⟨(some 65),.call k_purserref16_One [(.t 64)],none⟩,.B []),
 (⟨(some 66),.b2s (.t 65),none⟩,.R [] []),
 (⟨(some 67),.mov (.t 0),none⟩,.L),
 (⟨(some 68),.mov (.t 1),none⟩,.L),
 (⟨(some 69),.mov (.t 8),none⟩,.L),
 (⟨(some 70),.slcS 1 (.t 67) (some (.t 68)) (some (.t 69)) none,none⟩,.L),
 (⟨(some 71),.b2s (.t 70),none⟩,.R [] [(1,[])]),
 (⟨(some 72),.bin .neq .no (.t 66) (.t 71),none⟩,.L)])
 (.cond (.t 72)
 (.seq (.ops [⟨(some 73),.build [(.int .i64 0),(.slice none 0 (some 0) 0)] [],none⟩,
 ⟨none,.store 2 (.t 4) (.t 73),none⟩,
 ⟨(some 5),.mov (.c (.int .i64 0)),none⟩,
 ⟨(some 6),.mov (.c (.int .i64 160)),none⟩])
 (.ret))
 (.skip)))
 (.seq (.ops [⟨(some 74),.load (some 2) (.t 9),none⟩,
 ⟨(some 75),.mov (.t 8),none⟩,
 ⟨none,.store 2 (.t 4) (.t 74),none⟩,
 ⟨(some 5),.mov (.t 75),none⟩,
 ⟨(some 6),.mov (.c (.int .i64 0)),none⟩])
 (.ret))))))))⟩
def L_purserref17_Encode_0 : C := .seq (.seq (.ops [⟨(some 20),.mov (.t 6),none⟩,
 ⟨(some 21),.mov (.t 1),none⟩,
 ⟨(some 22),.len false (.t 21),none⟩,
 ⟨(some 23),.bin .lss .no (.t 20) (.t 22),none⟩])
 (.cond (.t 23)
 (.skip)
 (.exit 0)))
 (.seq (.block 1 (.seq (.ops [⟨(some 26),.mov (.t 1),none⟩,
 ⟨(some 27),.mov (.t 6),none⟩,
 ⟨(some 28),.idxAddrS 2 (.t 26) (.t 27),none⟩,
 ⟨(some 29),.fieldAddr 0 (.t 28),none⟩,
 ⟨(some 30),.load none (.t 29),none⟩,
 ⟨(some 31),.bin .eql .no (.t 30) (.c (.int .i64 255)),none⟩])
 (.cond (.t 31)
 (.seq (.ops [⟨(some 4),.mov (.c (.slice none 0 (some 0) 0)),none⟩,
 ⟨(some 5),.mov (.c (.int .i64 170)),none⟩])
 (.ret))
 (.skip))))
 (.ops [⟨(some 24),.mov (.t 6),none⟩,
 ⟨(some 25),.bin .add .no (.t 24) (.c (.int .i64 1)),none⟩,
 ⟨(some 6),.mov (.t 25),none⟩]))
def R_purserref17_Encode_0 : C := .seq (.ops [⟨(some 33),.mov (.t 1),none⟩,
 ⟨(some 34),.call k_purserref16_Encode [(.t 33)],none⟩,
 ⟨(some 32),.mov (.t 34),none⟩,
 ⟨(some 35),.ext (.t 32) 0,none⟩,
 ⟨(some 36),.ext (.t 32) 1,none⟩,
 ⟨(some 7),.mov (.t 35),none⟩,
 ⟨(some 8),.mov (.t 36),none⟩])
 (.seq (.seq (.ops [⟨(some 37),.mov (.t 8),none⟩,
 ⟨(some 38),.bin .neq .no (.t 37) (.c (.int .i64 0)),none⟩])
 (.cond (.t 38)
 (.seq (.ops [⟨(some 4),.mov (.c (.slice none 0 (some 0) 0)),none⟩,
 ⟨(some 5),.mov (.c (.int .i64 170)),none⟩])
 (.ret))
 (.skip)))
 (.seq (.ops [⟨(some 40),.mov (.t 0),none⟩,
 ⟨(some 41),.call k_purserref01_Fixed [(.c (.int .i64 8)),(.t 40)],none⟩,
 ⟨(some 39),.mov (.t 41),none⟩,
 ⟨(some 42),.ext (.t 39) 0,none⟩,
 ⟨(some 43),.ext (.t 39) 1,none⟩,
 ⟨(some 9),.mov (.t 42),none⟩,
 ⟨(some 10),.mov (.t 43),none⟩])
 (.seq (.ops [⟨(some 45),.mov (.t 1),none⟩,
 ⟨(some 46),.len false (.t 45),none⟩,
 ⟨(some 47),.conv .u64 (.t 46),none⟩,
 ⟨(some 48),.call k_purserref01_Fixed [(.c (.int .i64 4)),(.t 47)],none⟩,
 ⟨(some 44),.mov (.t 48),none⟩,
 ⟨(some 49),.ext (.t 44) 0,none⟩,
 ⟨(some 50),.ext (.t 44) 1,none⟩,
 ⟨(some 11),.mov (.t 49),none⟩,
 ⟨(some 12),.mov (.t 50),none⟩])
 (.seq (.ops [⟨(some 51),.mov (.t 7),none⟩,
 ⟨(some 52),.mov (.t 9),none⟩,
 ⟨(some 53),.mov (.t 11),none⟩,
 ⟨(some 54),.append 1 1 (.t 52) (.t 53),none⟩,
 ⟨(some 55),.build [(.int .i64 0),(.slice none 0 (some 0) 0)] [(0,1,(.c (.int .i64 255))),(1,1,(.t 54))],none⟩,
 ⟨(some 56),.call k_purserref16_One [(.t 55)],none⟩,
 ⟨(some 57),.append 1 1 (.t 51) (.t 56),none⟩,
 ⟨(some 7),.mov (.t 57),none⟩])
 (.seq (.seq (.ops [⟨(some 58),.mov (.t 7),none⟩,
 ⟨(some 59),.len false (.t 58),none⟩,
 ⟨(some 60),.bin .gtr .no (.t 59) (.c (.int .i64 1500000)),none⟩])
 (.cond (.t 60)
 (.seq (.ops [⟨(some 4),.mov (.c (.slice none 0 (some 0) 0)),none⟩,
 ⟨(some 5),.mov (.c (.int .i64 170)),none⟩])
 (.ret))
 (.skip)))
 (.seq (.ops [⟨(some 61),.mov (.t 7),none⟩,
 ⟨(some 4),.mov (.t 61),none⟩,
 ⟨(some 5),.mov (.c (.int .i64 0)),none⟩])
 (.ret)))))))
/-- purser/purserref17.Encode -/
def f_purserref17_Encode : Fn := ⟨62,[.tmp 4,.tmp 5],
 .seq (.ops [⟨(some 4),.mov (.c (.slice none 0 (some 0) 0)),none⟩,
 ⟨(some 5),.mov (.c (.int .i64 0)),none⟩])
 (.seq (.seq (.ops [⟨(some 13),.mov (.t 0),none⟩,
 ⟨(some 14),.bin .lss .no (.t 13) (.c (.int .u64 1)),none⟩,
 ⟨(some 15),.mov (.t 14),none⟩,
 ⟨(some 16),.mov (.t 1),(some (15,false))⟩,
 ⟨(some 17),.len false (.t 16),(some (15,false))⟩,
 ⟨(some 18),.bin .lss .no (.t 17) (.c (.int .i64 1)),(some (15,false))⟩,
 ⟨(some 19),.pick (.t 15) (.c (.bool true)) (.t 18),none⟩])
 (.cond (.t 19)
 (.seq (.ops [⟨(some 4),.mov (.c (.slice none 0 (some 0) 0)),none⟩,
 ⟨(some 5),.mov (.c (.int .i64 170)),none⟩])
 (.ret))
 (.skip)))
 (.seq (.seq (.ops [⟨(some 6),.mov (.c (.int .i64 0)),none⟩])
 (.block 0 (.loop (L_purserref17_Encode_0))))
 (R_purserref17_Encode_0)))⟩
def L_slices_EqualFunc_api_Record_api_Record_api_Record_api_Record_86_0 : C := .seq (.ops [⟨(some 18),.bin .lss .no (.t 17) (.t 16),none⟩])
 (.seq (.cond (.t 18)
 (.skip)
 (.exit 0))
 (.seq (.block 1 (.seq (.ops [⟨(some 19),.mov (.t 17),none⟩,
 ⟨(some 20),.idxAddrS 2 (.t 15) (.t 17),none⟩,
 ⟨(some 21),.load (some 2) (.t 20),none⟩,
 ⟨(some 8),.alloc [(.int .i64 0),(.slice none 0 (some 0) 0)],none⟩,
 ⟨(some 7),.mov (.t 19),none⟩,
 ⟨none,.store 2 (.t 8) (.t 21),none⟩])
 (.seq (.ops [⟨(some 22),.mov (.t 1),none⟩,
 ⟨(some 23),.mov (.t 7),none⟩,
 ⟨(some 24),.idxAddrS 2 (.t 22) (.t 23),none⟩,
 ⟨(some 25),.load (some 2) (.t 24),none⟩,
 ⟨(some 9),.alloc [(.int .i64 0),(.slice none 0 (some 0) 0)],none⟩,
 ⟨none,.store 2 (.t 9) (.t 25),none⟩])
 (.seq (.ops [⟨(some 26),.mov (.t 2),none⟩,
 ⟨(some 27),.load (some 2) (.t 8),none⟩,
 ⟨(some 28),.load (some 2) (.t 9),none⟩,
 ⟨(some 29),.callv (.t 26) [(.t 27),(.t 28)],none⟩,
 ⟨(some 30),.un .not (.t 29),none⟩])
 (.cond (.t 30)
 (.seq (.ops [⟨(some 6),.mov (.c (.bool false)),none⟩])
 (.ret))
 (.skip))))))
 (.ops [⟨(some 31),.bin .add .no (.t 17) (.c (.int .i64 1)),none⟩,
 ⟨(some 17),.mov (.t 31),none⟩])))
def R_slices_EqualFunc_api_Record_api_Record_api_Record_api_Record_86_0 : C := .seq (.ops [⟨(some 6),.mov (.c (.bool true)),none⟩])
 (.ret)
/-- slices.EqualFunc[[]purser/api.Record,[]purser/api.Record,purser/api.Record,purser/api.Record] -/
def f_slices_EqualFunc_api_Record_api_Record_api_Record_api_Record_86 : Fn := ⟨32,[.tmp 6],
 .seq (.ops [⟨(some 6),.mov (.c (.bool false)),none⟩])
 (.seq (.seq (.ops [⟨(some 10),.mov (.t 0),none⟩,
 ⟨(some 11),.len false (.t 10),none⟩,
 ⟨(some 12),.mov (.t 1),none⟩,
 ⟨(some 13),.len false (.t 12),none⟩,
 ⟨(some 14),.bin .neq .no (.t 11) (.t 13),none⟩])
 (.cond (.t 14)
 (.seq (.ops [⟨(some 6),.mov (.c (.bool false)),none⟩])
 (.ret))
 (.skip)))
 (.seq (.seq (.ops [⟨(some 15),.mov (.t 0),none⟩,
 ⟨(some 16),.len false (.t 15),none⟩,
 ⟨(some 17),.mov (.c (.int .i64 0)),none⟩])
 (.block 0 (.loop (L_slices_EqualFunc_api_Record_api_Record_api_Record_api_Record_86_0))))
 (R_slices_EqualFunc_api_Record_api_Record_api_Record_api_Record_86_0)))⟩
/-- purser/record.same -/
def f_record_same : Fn := ⟨17,[.tmp 4],
 .seq (.ops [⟨(some 2),.box (.t 0),none⟩,
 ⟨(some 3),.box (.t 1),none⟩,
 ⟨(some 4),.mov (.c (.bool false)),none⟩])
 (.seq (.ops [⟨(some 5),.fieldAddr 0 (.t 2),none⟩,
 ⟨(some 6),.load none (.t 5),none⟩,
 ⟨(some 7),.fieldAddr 0 (.t 3),none⟩,
 ⟨(some 8),.load none (.t 7),none⟩,
 ⟨(some 9),.bin .eql .no (.t 6) (.t 8),none⟩,
 ⟨(some 10),.mov (.t 9),none⟩,
 ⟨(some 11),.fieldAddr 1 (.t 2),(some (10,true))⟩,
 ⟨(some 12),.load none (.t 11),(some (10,true))⟩,
 ⟨(some 13),.fieldAddr 1 (.t 3),(some (10,true))⟩,
 ⟨(some 14),.load none (.t 13),(some (10,true))⟩,
 ⟨(some 15),.call k_bytes_Equal [(.t 12),(.t 14)],(some (10,true))⟩,
 ⟨(some 16),.pick (.t 10) (.t 15) (.c (.bool false)),none⟩,
 ⟨(some 4),.mov (.t 16),none⟩])
 (.ret))⟩
/-- purser/record.Check -/
def f_record_Check : Fn := ⟨17,[.tmp 2],
 .seq (.ops [⟨(some 1),.box (.t 0),none⟩,
 ⟨(some 2),.mov (.c (.int .i64 0)),none⟩])
 (.seq (.seq (.ops [⟨(some 3),.fieldAddr 0 (.t 1),none⟩,
 ⟨(some 4),.load none (.t 3),none⟩,
 ⟨(some 5),.bin .lss .no (.t 4) (.c (.int .i64 0)),none⟩,
 ⟨(some 6),.mov (.t 5),none⟩,
 ⟨(some 7),.fieldAddr 0 (.t 1),(some (6,false))⟩,
 ⟨(some 8),.load none (.t 7),(some (6,false))⟩,
 ⟨(some 9),.bin .gtr .no (.t 8) (.c (.int .i64 255)),(some (6,false))⟩,
 ⟨(some 10),.pick (.t 6) (.c (.bool true)) (.t 9),none⟩,
 ⟨(some 11),.mov (.t 10),none⟩,
 ⟨(some 12),.fieldAddr 1 (.t 1),(some (11,false))⟩,
 ⟨(some 13),.load none (.t 12),(some (11,false))⟩,
 ⟨(some 14),.len false (.t 13),(some (11,false))⟩,
 ⟨(some 15),.bin .gtr .no (.t 14) (.c (.int .i64 200000)),(some (11,false))⟩,
 ⟨(some 16),.pick (.t 11) (.c (.bool true)) (.t 15),none⟩])
 (.cond (.t 16)
 (.seq (.ops [⟨(some 2),.mov (.c (.int .i64 160)),none⟩])
 (.ret))
 (.skip)))
 (.seq (.ops [⟨(some 2),.mov (.c (.int .i64 0)),none⟩])
 (.ret)))⟩
/-- purser/record.head -/
def f_record_head : Fn := ⟨15,[.tmp 2],
 .seq (.ops [⟨(some 1),.box (.t 0),none⟩,
 ⟨(some 2),.mov (.c (.slice none 0 (some 0) 0)),none⟩])
 (.seq (.ops [⟨(some 3),.alloc [(.slice none 0 (some 0) 0)],none⟩])
 (.seq (.ops [⟨(some 4),.fieldAddr 0 (.t 1),none⟩,
 ⟨(some 5),.load none (.t 4),none⟩,
 ⟨(some 6),.conv .u64 (.t 5),none⟩,
 ⟨(some 7),.call k_octet_Pen_Fixed [(.t 3),(.c (.int .i64 1)),(.t 6)],none⟩])
 (.seq (.ops [⟨(some 8),.fieldAddr 1 (.t 1),none⟩,
 ⟨(some 9),.load none (.t 8),none⟩,
 ⟨(some 10),.len false (.t 9),none⟩,
 ⟨(some 11),.conv .u64 (.t 10),none⟩,
 ⟨(some 12),.call k_octet_Pen_Fixed [(.t 3),(.c (.int .i64 4)),(.t 11)],none⟩])
 (.seq (.ops [⟨(some 13),.call k_octet_Pen_All [(.t 3)],none⟩,
 ⟨(some 14),.call k_crc_Mark [(.t 13)],none⟩,
 ⟨(some 2),.mov (.t 14),none⟩])
 (.ret)))))⟩
def L_octet_highFirst_1_0 : C := .seq (.seq (.ops [⟨(some 7),.mov (.t 4),none⟩,
 ⟨(some 8),.bin .geq .no (.t 7) (.c (.int .i64 0)),none⟩])
 (.cond (.t 8)
 (.skip)
 (.exit 0)))
 (.seq (.block 1 (.seq (.ops [⟨(some 11),.mov (.t 0),none⟩,
 ⟨(some 12),.mov (.t 4),none⟩,
 ⟨(some 13),.load none (.t 2),none⟩,
 ⟨(some 14),.mov (.t 4),none⟩,
 ⟨(some 15),.bin .mul .no (.c (.int .i64 8)) (.t 14),none⟩,
 ⟨(some 16),.bin .shr .no (.t 13) (.t 15),none⟩,
 ⟨(some 17),.conv .u8 (.t 16),none⟩,
 ⟨(some 18),.callv (.t 11) [(.t 12),(.t 17)],none⟩,
 ⟨(some 19),.un .not (.t 18),none⟩])
 (.cond (.t 19)
 (.ret)
 (.skip))))
 (.ops [⟨(some 9),.mov (.t 4),none⟩,
 ⟨(some 10),.bin .sub .no (.t 9) (.c (.int .i64 1)),none⟩,
 ⟨(some 4),.mov (.t 10),none⟩]))
/-- purser/octet.highFirst$1 -/
def f_octet_highFirst_1 : Fn := ⟨20,[],
 .seq (.ops [⟨(some 5),.load none (.t 1),none⟩,
 ⟨(some 6),.bin .sub .no (.t 5) (.c (.int .i64 1)),none⟩,
 ⟨(some 4),.mov (.t 6),none⟩])
 (.block 0 (.loop (L_octet_highFirst_1_0)))⟩
/-- purser/octet.following -/
def f_octet_following : Fn := ⟨10,[.tmp 2],
 .seq (.ops [⟨(some 2),.mov (.c (.int .i64 0)),none⟩])
 (.seq (.seq (.ops [⟨(some 3),.mov (.t 0),none⟩])
 (.block 0 (.seq (.ops [⟨(some 5),.bin .eql .no (.t 3) (.c (.int .u8 253)),none⟩,
 ⟨(some 4),.mov (.t 5),none⟩])
 (.cond (.t 4)
 (.seq (.ops [⟨(some 2),.mov (.c (.int .i64 2)),none⟩])
 (.ret))
 (.seq (.ops [⟨(some 7),.bin .eql .no (.t 3) (.c (.int .u8 254)),none⟩,
 ⟨(some 6),.mov (.t 7),none⟩])
 (.cond (.t 6)
 (.seq (.ops [⟨(some 2),.mov (.c (.int .i64 4)),none⟩])
 (.ret))
 (.seq (.ops [⟨(some 9),.bin .eql .no (.t 3) (.c (.int .u8 255)),none⟩,
 ⟨(some 8),.mov (.t 9),none⟩])
 (.cond (.t 8)
 (.seq (.ops [⟨(some 2),.mov (.c (.int .i64 8)),none⟩])
 (.ret))
 (.skip)))))))))
 (.seq (.ops [⟨(some 2),.mov (.c (.int .i64 0)),none⟩])
 (.ret)))⟩
/-- purser/crc.halves -/
def f_crc_halves : Fn := ⟨4,[.tmp 2],
 .seq (.ops [⟨(some 1),.box (.t 0),none⟩,
 ⟨(some 2),.mov (.c .nilFn),none⟩])
 (.seq (.ops [⟨(some 3),.mkfn k_crc_halves_1 [] [(.t 1)],none⟩,
 ⟨(some 2),.mov (.t 3),none⟩])
 (.ret))⟩
def L_purserref02_about_0 : C := .seq (.seq (.ops [⟨(some 5),.mov (.t 4),none⟩,
 ⟨(some 6),.bin .lss .no (.t 5) (.c (.int .i64 32)),none⟩])
 (.cond (.t 6)
 (.skip)
 (.exit 0)))
 (.seq (.block 1 (.seq (.ops [⟨(some 9),.mov (.t 3),none⟩,
 ⟨(some 10),.bin .mul .no (.c (.int .u64 2)) (.t 9),none⟩,
 ⟨(some 11),.mov (.t 0),none⟩,
 ⟨(some 12),.bin .rem .no (.t 11) (.c (.int .u64 2)),none⟩,
 ⟨(some 13),.bin .add .no (.t 10) (.t 12),none⟩,
 ⟨(some 3),.mov (.t 13),none⟩])
 (.ops [⟨(some 14),.mov (.t 0),none⟩,
 ⟨(some 15),.bin .quo .no (.t 14) (.c (.int .u64 2)),none⟩,
 ⟨(some 0),.mov (.t 15),none⟩])))
 (.ops [⟨(some 7),.mov (.t 4),none⟩,
 ⟨(some 8),.bin .add .no (.t 7) (.c (.int .i64 1)),none⟩,
 ⟨(some 4),.mov (.t 8),none⟩]))
def R_purserref02_about_0 : C := .seq (.ops [⟨(some 16),.mov (.t 3),none⟩,
 ⟨(some 2),.mov (.t 16),none⟩])
 (.ret)
/-- purser/purserref02.about -/
def f_purserref02_about : Fn := ⟨17,[.tmp 2],
 .seq (.ops [⟨(some 2),.mov (.c (.int .u64 0)),none⟩])
 (.seq (.ops [⟨(some 3),.mov (.c (.int .u64 0)),none⟩])
 (.seq (.seq (.ops [⟨(some 4),.mov (.c (.int .i64 0)),none⟩])
 (.block 0 (.loop (L_purserref02_about_0))))
 (R_purserref02_about_0)))⟩
/-- purser/purserref02.rest -/
def f_purserref02_rest : Fn := ⟨20,[.tmp 4],
 .seq (.ops [⟨(some 4),.mov (.c (.int .u64 0)),none⟩])
 (.seq (.ops [⟨(some 5),.mov (.t 0),none⟩,
 ⟨(some 6),.bin .mul .no (.c (.int .u64 2)) (.t 5),none⟩,
 ⟨(some 7),.mov (.t 1),none⟩,
 ⟨(some 8),.bin .mul .no (.t 7) (.c (.int .u64 4294967296)),none⟩,
 ⟨(some 9),.bin .add .no (.t 6) (.t 8),none⟩,
 ⟨(some 0),.mov (.t 9),none⟩])
 (.seq (.seq (.ops [⟨(some 10),.mov (.t 0),none⟩,
 ⟨(some 11),.bin .geq .no (.t 10) (.c (.int .u64 8589934592)),none⟩])
 (.cond (.t 11)
 (.ops [⟨(some 12),.mov (.t 0),none⟩,
 ⟨(some 13),.bin .sub .no (.t 12) (.c (.int .u64 8589934592)),none⟩,
 ⟨(some 0),.mov (.t 13),none⟩])
 (.skip)))
 (.seq (.seq (.ops [⟨(some 14),.mov (.t 0),none⟩,
 ⟨(some 15),.bin .geq .no (.t 14) (.c (.int .u64 4294967296)),none⟩])
 (.cond (.t 15)
 (.ops [⟨(some 16),.mov (.t 0),none⟩,
 ⟨(some 17),.bin .sub .no (.t 16) (.c (.int .u64 4294967296)),none⟩,
 ⟨(some 18),.bin .xor .no (.t 17) (.c (.int .u64 517762881)),none⟩,
 ⟨(some 0),.mov (.t 18),none⟩])
 (.skip)))
 (.seq (.ops [⟨(some 19),.mov (.t 0),none⟩,
 ⟨(some 4),.mov (.t 19),none⟩])
 (.ret)))))⟩
def L_segment_groupAt_0 : C := .block 1 (.seq (.ops [⟨(some 16),.mov (.t 0),none⟩,
 ⟨(some 17),.mov (.t 7),none⟩,
 ⟨(some 18),.call k_record_Decode [(.t 16),(.t 17)],none⟩,
 ⟨(some 15),.mov (.t 18),none⟩,
 ⟨(some 19),.ext (.t 15) 0,none⟩,
 ⟨(some 20),.ext (.t 15) 1,none⟩,
 ⟨(some 21),.ext (.t 15) 2,none⟩,
 ⟨(some 10),.alloc [(.int .i64 0),(.slice none 0 (some 0) 0)],none⟩,
 ⟨none,.store 2 (.t 10) (.t 19),none⟩,
 ⟨(some 11),.mov (.t 20),none⟩,
 ⟨(some 12),.mov (.t 21),none⟩])
 (.seq (.seq (.ops [⟨(some 22),.mov (.t 12),none⟩,
 ⟨(some 23),.bin .neq .no (.t 22) (.c (.int .i64 0)),none⟩,
 ⟨(some 24),.mov (.t 23),none⟩,
 ⟨(some 25),.mov (.t 11),(some (24,false))⟩,
 ⟨(some 26),.mov (.t 1),(some (24,false))⟩,
 ⟨(some 27),.bin .sub .no (.t 25) (.t 26),(some (24,false))⟩,
 ⟨(some 28),.bin .gtr .no (.t 27) (.c (.int .i64 1500000)),(some (24,false))⟩,
 ⟨(some 29),.pick (.t 24) (.c (.bool true)) (.t 28),none⟩])
 (.cond (.t 29)
 (.seq (.ops [⟨none,.store 1 (.t 6) (.c (.slice none 0 (some 0) 0)),none⟩,
 ⟨(some 7),.mov (.c (.int .i64 0)),none⟩,
 ⟨(some 8),.mov (.c (.bool false)),none⟩])
 (.ret))
 (.skip)))
 (.seq (.ops [⟨(some 30),.mov (.t 11),none⟩,
 ⟨(some 7),.mov (.t 30),none⟩])
 (.seq (.seq (.ops [⟨(some 31),.fieldAddr 0 (.t 10),none⟩,
 ⟨(some 32),.load none (.t 31),none⟩,
 ⟨(some 33),.bin .neq .no (.t 32) (.c (.int .i64 255)),none⟩])
 (.cond (.t 33)
 (.seq (.ops [⟨(some 34),.mov (.t 9),none⟩,
 ⟨(some 35),.load (some 2) (.t 10),none⟩,
 ⟨(some 36),.callv (.t 34) [(.t 35)],none⟩])
 (.exit 1))
 (.skip)))
 (.seq (.seq (.dops 0 [] [(⟨(some 37),.load none (.t 6),none⟩,.R [] []),
 (⟨(some 38),.len false (.t 37),none⟩,.L),
 (⟨(some 39),.bin .eql .no (.t 38) (.c (.int .i64 0)),none⟩,.L),
 (⟨(some 40),.mov (.t 39),none⟩,.L),
 (⟨(some 41),.fieldAddr 1 (.t 10),(some (40,false))⟩,.L),
 (⟨(some 42),.load none (.t 41),(some (40,false))⟩,.R [] [(1,[])]),
 (⟨(some 43),.mov (.t 2),(some (40,false))⟩,.L),
 (⟨(some 44),.load none (.t 6),(some (40,false))⟩,.R [] []),
 (⟨(some 45),.len false (.t 44),(some (40,false))⟩,.L),
 (⟨(some 46),.call k_segment_marker [(.t 43),(.t 45)],(some (40,false))⟩,.B []),
 (⟨(some 47),.fld 1 none (.t 46),(some (40,false))⟩,.L),
 (⟨(some 48),.call k_bytes_Equal [(.t 42),(.t 47)],(some (40,false))⟩,.B []),
 (⟨(some 49),.un .not (.t 48),(some (40,false))⟩,.L),
 (⟨(some 50),.pick (.t 40) (.c (.bool true)) (.t 49),none⟩,.L)])
 (.cond (.t 50)
 (.seq (.ops [⟨none,.store 1 (.t 6) (.c (.slice none 0 (some 0) 0)),none⟩,
 ⟨(some 7),.mov (.c (.int .i64 0)),none⟩,
 ⟨(some 8),.mov (.c (.bool false)),none⟩])
 (.ret))
 (.skip)))
 (.seq (.ops [⟨(some 51),.load none (.t 6),none⟩,
 ⟨(some 52),.mov (.t 7),none⟩,
 ⟨none,.store 1 (.t 6) (.t 51),none⟩,
 ⟨(some 7),.mov (.t 52),none⟩,
 ⟨(some 8),.mov (.c (.bool true)),none⟩])
 (.ret)))))))
/-- purser/segment.groupAt -/
def f_segment_groupAt : Fn := ⟨53,[.cell 6 none,.tmp 7,.tmp 8],
 .seq (.ops [⟨(some 6),.alloc [(.slice none 0 (some 0) 0)],none⟩,
 ⟨(some 7),.mov (.c (.int .i64 0)),none⟩,
 ⟨(some 8),.mov (.c (.bool false)),none⟩])
 (.scope (.seq (.ops [⟨(some 13),.mkfn k_segment_groupAt_1 [] [(.t 6)],none⟩,
 ⟨(some 9),.mov (.t 13),none⟩])
 (.seq (.ops [⟨(some 14),.mov (.t 1),none⟩,
 ⟨(some 7),.mov (.t 14),none⟩])
 (.seq (.skip)
 (.block 0 (.loop (L_segment_groupAt_0)))))))⟩
def L_purserref01_Number_0 : C := .seq (.seq (.ops [⟨(some 5),.mov (.t 4),none⟩,
 ⟨(some 6),.mov (.t 0),none⟩,
 ⟨(some 7),.len false (.t 6),none⟩,
 ⟨(some 8),.bin .lss .no (.t 5) (.t 7),none⟩])
 (.cond (.t 8)
 (.skip)
 (.exit 0)))
 (.seq (.block 1 (.dops 0 [] [(⟨(some 11),.mov (.t 3),none⟩,.L),
 (⟨(some 12),.mov (.t 0),none⟩,.L),
 (⟨(some 13),.mov (.t 4),none⟩,.L),
 (⟨(some 14),.idxAddrS 1 (.t 12) (.t 13),none⟩,.L),
 (⟨(some 15),.load none (.t 14),none⟩,.R [] [(0,[])]),
 (⟨(some 16),.conv .u64 (.t 15),none⟩,.L),
 (⟨(some 17),.mov (.t 4),none⟩,.L),
 (⟨(some 18),.call k_purserref01_power [(.t 17)],none⟩,.B []),
 (⟨(some 19),.bin .mul .no (.t 16) (.t 18),none⟩,.L),
 (⟨(some 20),.bin .add .no (.t 11) (.t 19),none⟩,.L),
 (⟨(some 3),.mov (.t 20),none⟩,.L)]))
 (.ops [⟨(some 9),.mov (.t 4),none⟩,
 ⟨(some 10),.bin .add .no (.t 9) (.c (.int .i64 1)),none⟩,
 ⟨(some 4),.mov (.t 10),none⟩]))
def R_purserref01_Number_0 : C := .seq (.ops [⟨(some 21),.mov (.t 3),none⟩,
 ⟨(some 2),.mov (.t 21),none⟩])
 (.ret)
/-- purser/purserref01.Number -/
def f_purserref01_Number : Fn := ⟨22,[.tmp 2],
 .seq (.ops [⟨(some 2),.mov (.c (.int .u64 0)),none⟩])
 (.seq (.ops [⟨(some 3),.mov (.c (.int .u64 0)),none⟩])
 (.seq (.seq (.ops [⟨(some 4),.mov (.c (.int .i64 0)),none⟩])
 (.block 0 (.loop (L_purserref01_Number_0))))
 (R_purserref01_Number_0)))⟩
/-- purser/purserref16.One -/
def f_purserref16_One : Fn := ⟨26,[.tmp 2],
 .seq (.ops [⟨(some 1),.box (.t 0),none⟩,
 ⟨(some 2),.mov (.c (.slice none 0 (some 0) 0)),none⟩])
 (.seq (.ops [⟨(some 7),.fieldAddr 1 (.t 1),none⟩,
 ⟨(some 8),.load none (.t 7),none⟩,
 ⟨(some 9),.len false (.t 8),none⟩,
 ⟨(some 10),.conv .u64 (.t 9),none⟩,
 ⟨(some 11),.call k_purserref01_Fixed [(.c (.int .i64 4)),(.t 10)],none⟩,
 ⟨(some 6),.mov (.t 11),none⟩,
 ⟨(some 12),.ext (.t 6) 0,none⟩,
 ⟨(some 13),.ext (.t 6) 1,none⟩,
 ⟨(some 3),.mov (.t 12),none⟩,
 ⟨(some 4),.mov (.t 13),none⟩])
 (.seq (.ops [⟨(some 14),.fieldAddr 0 (.t 1),none⟩,
 ⟨(some 15),.load none (.t 14),none⟩,
 ⟨(some 16),.conv .u8 (.t 15),none⟩,
 ⟨(some 17),.buildS [(.int .u8 0)] 1 1 [(0,1,(.t 16))],none⟩,
 ⟨(some 18),.mov (.t 3),none⟩,
 ⟨(some 19),.append 1 1 (.t 17) (.t 18),none⟩,
 ⟨(some 20),.call k_purserref02_Mark [(.t 19)],none⟩,
 ⟨(some 5),.mov (.t 20),none⟩])
 (.seq (.ops [⟨(some 21),.mov (.t 5),none⟩,
 ⟨(some 22),.fieldAddr 1 (.t 1),none⟩,
 ⟨(some 23),.load none (.t 22),none⟩,
 ⟨(some 24),.call k_purserref02_Mark [(.t 23)],none⟩,
 ⟨(some 25),.append 1 1 (.t 21) (.t 24),none⟩,
 ⟨(some 2),.mov (.t 25),none⟩])
 (.ret))))⟩
def L_purserref16_Encode_0 : C := .seq (.seq (.ops [⟨(some 7),.mov (.t 5),none⟩,
 ⟨(some 8),.mov (.t 0),none⟩,
 ⟨(some 9),.len false (.t 8),none⟩,
 ⟨(some 10),.bin .lss .no (.t 7) (.t 9),none⟩])
 (.cond (.t 10)
 (.skip)
 (.exit 0)))
 (.seq (.block 1 (.seq (.ops [⟨(some 13),.mov (.t 0),none⟩,
 ⟨(some 14),.mov (.t 5),none⟩,
 ⟨(some 15),.idxAddrS 2 (.t 13) (.t 14),none⟩,
 ⟨(some 16),.load (some 2) (.t 15),none⟩,
 ⟨(some 17),.call k_purserref16_Check [(.t 16)],none⟩,
 ⟨(some 6),.mov (.t 17),none⟩])
 (.seq (.seq (.ops [⟨(some 18),.mov (.t 6),none⟩,
 ⟨(some 19),.bin .neq .no (.t 18) (.c (.int .i64 0)),none⟩])
 (.cond (.t 19)
 (.seq (.ops [⟨(some 20),.mov (.t 6),none⟩,
 ⟨(some 2),.mov (.c (.slice none 0 (some 0) 0)),none⟩,
 ⟨(some 3),.mov (.t 20),none⟩])
 (.ret))
 (.skip)))
 (.ops [⟨(some 21),.mov (.t 4),none⟩,
 ⟨(some 22),.mov (.t 0),none⟩,
 ⟨(some 23),.mov (.t 5),none⟩,
 ⟨(some 24),.idxAddrS 2 (.t 22) (.t 23),none⟩,
 ⟨(some 25),.load (some 2) (.t 24),none⟩,
 ⟨(some 26),.call k_purserref16_One [(.t 25)],none⟩,
 ⟨(some 27),.append 1 1 (.t 21) (.t 26),none⟩,
 ⟨(some 4),.mov (.t 27),none⟩]))))
 (.ops [⟨(some 11),.mov (.t 5),none⟩,
 ⟨(some 12),.bin .add .no (.t 11) (.c (.int .i64 1)),none⟩,
 ⟨(some 5),.mov (.t 12),none⟩]))
def R_purserref16_Encode_0 : C := .seq (.ops [⟨(some 28),.mov (.t 4),none⟩,
 ⟨(some 2),.mov (.t 28),none⟩,
 ⟨(some 3),.mov (.c (.int .i64 0)),none⟩])
 (.ret)
/-- purser/purserref16.Encode -/
def f_purserref16_Encode : Fn := ⟨29,[.tmp 2,.tmp 3],
 .seq (.ops [⟨(some 2),.mov (.c (.slice none 0 (some 0) 0)),none⟩,
 ⟨(some 3),.mov (.c (.int .i64 0)),none⟩])
 (.seq (.ops [⟨(some 4),.mov (.c (.slice none 0 (some 0) 0)),none⟩])
 (.seq (.seq (.ops [⟨(some 5),.mov (.c (.int .i64 0)),none⟩])
 (.block 0 (.loop (L_purserref16_Encode_0))))
 (R_purserref16_Encode_0)))⟩
/-- bytes.Equal -/
def f_bytes_Equal : Fn := ⟨10,[.tmp 4],
 .seq (.ops [⟨(some 4),.mov (.c (.bool false)),none⟩])
 (.seq (.ops [⟨(some 5),.mov (.t 0),none⟩,
 ⟨(some 6),.b2s (.t 5),none⟩,
 ⟨(some 7),.mov (.t 1),none⟩,
 ⟨(some 8),.b2s (.t 7),none⟩,
 ⟨(some 9),.bin .eql .no (.t 6) (.t 8),none⟩,
 ⟨(some 4),.mov (.t 9),none⟩])
 (.ret))⟩
def L_crc_halves_1_0 : C := .seq (.ops [⟨(some 8),.bin .lss .no (.t 7) (.t 6),none⟩])
 (.seq (.cond (.t 8)
 (.skip)
 (.exit 0))
 (.seq (.block 1 (.seq (.ops [⟨(some 9),.idxAddrS 1 (.t 5) (.t 7),none⟩,
 ⟨(some 10),.load none (.t 9),none⟩,
 ⟨(some 4),.mov (.t 10),none⟩])
 (.seq (.ops [⟨(some 11),.mov (.t 0),none⟩,
 ⟨(some 12),.mov (.t 4),none⟩,
 ⟨(some 13),.bin .and .no (.t 12) (.c (.int .u8 15)),none⟩,
 ⟨(some 14),.callv (.t 11) [(.t 13)],none⟩,
 ⟨(some 15),.un .not (.t 14),none⟩,
 ⟨(some 16),.mov (.t 15),none⟩,
 ⟨(some 17),.mov (.t 0),(some (16,false))⟩,
 ⟨(some 18),.mov (.t 4),(some (16,false))⟩,
 ⟨(some 19),.bin .shr .no (.t 18) (.c (.int .u64 4)),(some (16,false))⟩,
 ⟨(some 20),.callv (.t 17) [(.t 19)],(some (16,false))⟩,
 ⟨(some 21),.un .not (.t 20),(some (16,false))⟩,
 ⟨(some 22),.pick (.t 16) (.c (.bool true)) (.t 21),none⟩])
 (.cond (.t 22)
 (.ret)
 (.skip)))))
 (.ops [⟨(some 23),.bin .add .no (.t 7) (.c (.int .i64 1)),none⟩,
 ⟨(some 7),.mov (.t 23),none⟩])))
/-- purser/crc.halves$1 -/
def f_crc_halves_1 : Fn := ⟨24,[],
 .seq (.ops [⟨(some 5),.load none (.t 1),none⟩,
 ⟨(some 6),.len false (.t 5),none⟩,
 ⟨(some 7),.mov (.c (.int .i64 0)),none⟩])
 (.block 0 (.loop (L_crc_halves_1_0)))⟩
/-- purser/record.Decode -/
def f_record_Decode : Fn := ⟨58,[.cell 4 (some 2),.tmp 5,.tmp 6],
 .seq (.ops [⟨(some 4),.alloc [(.int .i64 0),(.slice none 0 (some 0) 0)],none⟩,
 ⟨(some 5),.mov (.c (.int .i64 0)),none⟩,
 ⟨(some 6),.mov (.c (.int .i64 0)),none⟩])
 (.seq (.seq (.ops [⟨(some 12),.mov (.t 1),none⟩,
 ⟨(some 13),.bin .lss .no (.t 12) (.c (.int .i64 0)),none⟩,
 ⟨(some 14),.mov (.t 13),none⟩,
 ⟨(some 15),.mov (.t 1),(some (14,false))⟩,
 ⟨(some 16),.mov (.t 0),(some (14,false))⟩,
 ⟨(some 17),.len false (.t 16),(some (14,false))⟩,
 ⟨(some 18),.bin .gtr .no (.t 15) (.t 17),(some (14,false))⟩,
 ⟨(some 19),.pick (.t 14) (.c (.bool true)) (.t 18),none⟩])
 (.cond (.t 19)
 (.seq (.ops [⟨(some 20),.build [(.int .i64 0),(.slice none 0 (some 0) 0)] [],none⟩,
 ⟨none,.store 2 (.t 4) (.t 20),none⟩,
 ⟨(some 5),.mov (.c (.int .i64 0)),none⟩,
 ⟨(some 6),.mov (.c (.int .i64 160)),none⟩])
 (.ret))
 (.skip)))
 (.seq (.ops [⟨(some 22),.mov (.t 0),none⟩,
 ⟨(some 23),.mov (.t 1),none⟩,
 ⟨(some 24),.slcS 1 (.t 22) (some (.t 23)) none none,none⟩,
 ⟨(some 25),.call k_record_readHead [(.t 24)],none⟩,
 ⟨(some 21),.mov (.t 25),none⟩,
 ⟨(some 26),.ext (.t 21) 0,none⟩,
 ⟨(some 27),.ext (.t 21) 1,none⟩,
 ⟨(some 28),.ext (.t 21) 2,none⟩,
 ⟨(some 7),.mov (.t 26),none⟩,
 ⟨(some 8),.mov (.t 27),none⟩,
 ⟨(some 9),.mov (.t 28),none⟩])
 (.seq (.seq (.ops [⟨(some 29),.mov (.t 9),none⟩,
 ⟨(some 30),.un .not (.t 29),none⟩])
 (.cond (.t 30)
 (.seq (.ops [⟨(some 31),.build [(.int .i64 0),(.slice none 0 (some 0) 0)] [],none⟩,
 ⟨none,.store 2 (.t 4) (.t 31),none⟩,
 ⟨(some 5),.mov (.c (.int .i64 0)),none⟩,
 ⟨(some 6),.mov (.c (.int .i64 160)),none⟩])
 (.ret))
 (.skip)))
 (.seq (.ops [⟨(some 32),.mov (.t 1),none⟩,
 ⟨(some 33),.bin .add .no (.t 32) (.c (.int .i64 9)),none⟩,
 ⟨(some 10),.mov (.t 33),none⟩])
 (.seq (.ops [⟨(some 34),.mov (.t 10),none⟩,
 ⟨(some 35),.mov (.t 8),none⟩,
 ⟨(some 36),.bin .add .no (.t 34) (.t 35),none⟩,
 ⟨(some 37),.bin .add .no (.t 36) (.c (.int .i64 4)),none⟩,
 ⟨(some 5),.mov (.t 37),none⟩])
 (.seq (.seq (.ops [⟨(some 38),.mov (.t 5),none⟩,
 ⟨(some 39),.mov (.t 0),none⟩,
 ⟨(some 40),.len false (.t 39),none⟩,
 ⟨(some 41),.bin .gtr .no (.t 38) (.t 40),none⟩])
 (.cond (.t 41)
 (.seq (.ops [⟨(some 42),.build [(.int .i64 0),(.slice none 0 (some 0) 0)] [],none⟩,
 ⟨none,.store 2 (.t 4) (.t 42),none⟩,
 ⟨(some 5),.mov (.c (.int .i64 0)),none⟩,
 ⟨(some 6),.mov (.c (.int .i64 160)),none⟩])
 (.ret))
 (.skip)))
 (.seq (.ops [⟨(some 44),.mov (.t 0),none⟩,
 ⟨(some 45),.mov (.t 10),none⟩,
 ⟨(some 46),.mov (.t 5),none⟩,
 ⟨(some 47),.slcS 1 (.t 44) (some (.t 45)) (some (.t 46)) none,none⟩,
 ⟨(some 48),.call k_crc_Bare [(.t 47)],none⟩,
 ⟨(some 43),.mov (.t 48),none⟩,
 ⟨(some 49),.ext (.t 43) 0,none⟩,
 ⟨(some 50),.ext (.t 43) 1,none⟩,
 ⟨(some 11),.mov (.t 49),none⟩,
 ⟨(some 6),.mov (.t 50),none⟩])
 (.seq (.seq (.ops [⟨(some 51),.mov (.t 6),none⟩,
 ⟨(some 52),.bin .neq .no (.t 51) (.c (.int .i64 0)),none⟩])
 (.cond (.t 52)
 (.seq (.ops [⟨(some 53),.build [(.int .i64 0),(.slice none 0 (some 0) 0)] [],none⟩,
 ⟨none,.store 2 (.t 4) (.t 53),none⟩,
 ⟨(some 5),.mov (.c (.int .i64 0)),none⟩,
 ⟨(some 6),.mov (.c (.int .i64 160)),none⟩])
 (.ret))
 (.skip)))
 (.seq (.ops [⟨(some 54),.mov (.t 7),none⟩,
 ⟨(some 55),.mov (.t 11),none⟩,
 ⟨(some 56),.build [(.int .i64 0),(.slice none 0 (some 0) 0)] [(0,1,(.t 54)),(1,1,(.t 55))],none⟩,
 ⟨(some 57),.mov (.t 5),none⟩,
 ⟨none,.store 2 (.t 4) (.t 56),none⟩,
 ⟨(some 5),.mov (.t 57),none⟩,
 ⟨(some 6),.mov (.c (.int .i64 0)),none⟩])
 (.ret))))))))))⟩
/-- purser/segment.groupAt$1 -/
def f_segment_groupAt_1 : Fn := ⟨7,[],
 .seq (.ops [⟨(some 2),.box (.t 0),none⟩])
 (.ops [⟨(some 3),.load none (.t 1),none⟩,
 ⟨(some 4),.load (some 2) (.t 2),none⟩,
 ⟨(some 5),.buildS [(.int .i64 0),(.slice none 0 (some 0) 0)] 1 2 [(0,2,(.t 4))],none⟩,
 ⟨(some 6),.append 2 32 (.t 3) (.t 5),none⟩,
 ⟨none,.store 1 (.t 1) (.t 6),none⟩])⟩
/-- purser/purserref16.Check -/
def f_purserref16_Check : Fn := ⟨17,[.tmp 2],
 .seq (.ops [⟨(some 1),.box (.t 0),none⟩,
 ⟨(some 2),.mov (.c (.int .i64 0)),none⟩])
 (.seq (.seq (.ops [⟨(some 3),.fieldAddr 0 (.t 1),none⟩,
 ⟨(some 4),.load none (.t 3),none⟩,
 ⟨(some 5),.bin .lss .no (.t 4) (.c (.int .i64 0)),none⟩,
 ⟨(some 6),.mov (.t 5),none⟩,
 ⟨(some 7),.fieldAddr 0 (.t 1),(some (6,false))⟩,
 ⟨(some 8),.load none (.t 7),(some (6,false))⟩,
 ⟨(some 9),.bin .gtr .no (.t 8) (.c (.int .i64 255)),(some (6,false))⟩,
 ⟨(some 10),.pick (.t 6) (.c (.bool true)) (.t 9),none⟩,
 ⟨(some 11),.mov (.t 10),none⟩,
 ⟨(some 12),.fieldAddr 1 (.t 1),(some (11,false))⟩,
 ⟨(some 13),.load none (.t 12),(some (11,false))⟩,
 ⟨(some 14),.len false (.t 13),(some (11,false))⟩,
 ⟨(some 15),.bin .gtr .no (.t 14) (.c (.int .i64 200000)),(some (11,false))⟩,
 ⟨(some 16),.pick (.t 11) (.c (.bool true)) (.t 15),none⟩])
 (.cond (.t 16)
 (.seq (.ops [⟨(some 2),.mov (.c (.int .i64 160)),none⟩])
 (.ret))
 (.skip)))
 (.seq (.ops [⟨(some 2),.mov (.c (.int .i64 0)),none⟩])
 (.ret)))⟩
/-- purser/record.readHead -/
def f_record_readHead : Fn := ⟨48,[.tmp 2,.tmp 3,.tmp 4],
 .seq (.ops [⟨(some 2),.mov (.c (.int .i64 0)),none⟩,
 ⟨(some 3),.mov (.c (.int .i64 0)),none⟩,
 ⟨(some 4),.mov (.c (.bool false)),none⟩])
 (.seq (.seq (.ops [⟨(some 11),.mov (.t 0),none⟩,
 ⟨(some 12),.len false (.t 11),none⟩,
 ⟨(some 13),.bin .lss .no (.t 12) (.c (.int .i64 9)),none⟩])
 (.cond (.t 13)
 (.seq (.ops [⟨(some 2),.mov (.c (.int .i64 0)),none⟩,
 ⟨(some 3),.mov (.c (.int .i64 0)),none⟩,
 ⟨(some 4),.mov (.c (.bool false)),none⟩])
 (.ret))
 (.skip)))
 (.seq (.ops [⟨(some 15),.mov (.t 0),none⟩,
 ⟨(some 16),.slcS 1 (.t 15) none (some (.c (.int .i64 9))) none,none⟩,
 ⟨(some 17),.call k_crc_Bare [(.t 16)],none⟩,
 ⟨(some 14),.mov (.t 17),none⟩,
 ⟨(some 18),.ext (.t 14) 0,none⟩,
 ⟨(some 19),.ext (.t 14) 1,none⟩,
 ⟨(some 5),.mov (.t 18),none⟩,
 ⟨(some 6),.mov (.t 19),none⟩])
 (.seq (.seq (.ops [⟨(some 20),.mov (.t 6),none⟩,
 ⟨(some 21),.bin .neq .no (.t 20) (.c (.int .i64 0)),none⟩])
 (.cond (.t 21)
 (.seq (.ops [⟨(some 2),.mov (.c (.int .i64 0)),none⟩,
 ⟨(some 3),.mov (.c (.int .i64 0)),none⟩,
 ⟨(some 4),.mov (.c (.bool false)),none⟩])
 (.ret))
 (.skip)))
 (.seq (.ops [⟨(some 22),.mov (.t 5),none⟩,
 ⟨(some 23),.call k_octet_Look [(.t 22)],none⟩,
 ⟨(some 7),.mov (.t 23),none⟩])
 (.seq (.ops [⟨(some 25),.mov (.t 7),none⟩,
 ⟨(some 26),.call k_octet_Eye_Fixed [(.t 25),(.c (.int .i64 1))],none⟩,
 ⟨(some 24),.mov (.t 26),none⟩,
 ⟨(some 27),.ext (.t 24) 0,none⟩,
 ⟨(some 28),.ext (.t 24) 1,none⟩,
 ⟨(some 8),.mov (.t 27),none⟩,
 ⟨(some 6),.mov (.t 28),none⟩])
 (.seq (.ops [⟨(some 30),.mov (.t 7),none⟩,
 ⟨(some 31),.call k_octet_Eye_Fixed [(.t 30),(.c (.int .i64 4))],none⟩,
 ⟨(some 29),.mov (.t 31),none⟩,
 ⟨(some 32),.ext (.t 29) 0,none⟩,
 ⟨(some 33),.ext (.t 29) 1,none⟩,
 ⟨(some 9),.mov (.t 32),none⟩,
 ⟨(some 10),.mov (.t 33),none⟩])
 (.seq (.ops [⟨(some 34),.mov (.t 8),none⟩,
 ⟨(some 35),.conv .i64 (.t 34),none⟩,
 ⟨(some 36),.mov (.t 9),none⟩,
 ⟨(some 37),.conv .i64 (.t 36),none⟩,
 ⟨(some 38),.mov (.t 6),none⟩,
 ⟨(some 39),.bin .eql .no (.t 38) (.c (.int .i64 0)),none⟩,
 ⟨(some 40),.mov (.t 39),none⟩,
 ⟨(some 41),.mov (.t 10),(some (40,true))⟩,
 ⟨(some 42),.bin .eql .no (.t 41) (.c (.int .i64 0)),(some (40,true))⟩,
 ⟨(some 43),.pick (.t 40) (.t 42) (.c (.bool false)),none⟩,
 ⟨(some 44),.mov (.t 43),none⟩,
 ⟨(some 45),.mov (.t 9),(some (44,true))⟩,
 ⟨(some 46),.bin .leq .no (.t 45) (.c (.int .u64 200000)),(some (44,true))⟩,
 ⟨(some 47),.pick (.t 44) (.t 46) (.c (.bool false)),none⟩,
 ⟨(some 2),.mov (.t 35),none⟩,
 ⟨(some 3),.mov (.t 37),none⟩,
 ⟨(some 4),.mov (.t 47),none⟩])
 (.ret))))))))⟩


end Go.Eng
