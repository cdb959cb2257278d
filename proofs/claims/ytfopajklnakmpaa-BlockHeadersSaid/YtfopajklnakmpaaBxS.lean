/- Functions of the program,as the evaluator takes them: printed by program. -/
import Derived.Test.YtfopajklnakmpaaBxP
namespace Go.Eng
open Go
/-- purser/purserref04.Twice -/
abbrev k_purserref04_Twice : Nat := 75
/-- purser/purserref04.Of -/
abbrev k_purserref04_Of : Nat := 112
/-- purser/purserref04.Square -/
abbrev k_purserref04_Square : Nat := 135
/-- purser/purserref04.Cube -/
abbrev k_purserref04_Cube : Nat := 136
/-- purser/purserref04.padded -/
abbrev k_purserref04_padded : Nat := 137
/-- purser/purserref04.turned -/
abbrev k_purserref04_turned : Nat := 138
/-- purser/purserref04.Twice -/
def f_purserref04_Twice : Fn := ⟨8,[.cell 2 (some 32)],
  .seq (.ops [⟨(some 2),.alloc [(.int .u8 0),(.int .u8 0),(.int .u8 0),(.int .u8 0),(.int .u8 0),(.int .u8 0),(.int .u8 0),(.int .u8 0),(.int .u8 0),(.int .u8 0),(.int .u8 0),(.int .u8 0),(.int .u8 0),(.int .u8 0),(.int .u8 0),(.int .u8 0),(.int .u8 0),(.int .u8 0),(.int .u8 0),(.int .u8 0),(.int .u8 0),(.int .u8 0),(.int .u8 0),(.int .u8 0),(.int .u8 0),(.int .u8 0),(.int .u8 0),(.int .u8 0),(.int .u8 0),(.int .u8 0),(.int .u8 0),(.int .u8 0)],none⟩])
  (.seq (.ops [⟨(some 4),.mov (.t 0),none⟩,
     ⟨(some 5),.call k_purserref04_Of [(.t 4)],none⟩,
     ⟨(some 3),.alloc [(.int .u8 0),(.int .u8 0),(.int .u8 0),(.int .u8 0),(.int .u8 0),(.int .u8 0),(.int .u8 0),(.int .u8 0),(.int .u8 0),(.int .u8 0),(.int .u8 0),(.int .u8 0),(.int .u8 0),(.int .u8 0),(.int .u8 0),(.int .u8 0),(.int .u8 0),(.int .u8 0),(.int .u8 0),(.int .u8 0),(.int .u8 0),(.int .u8 0),(.int .u8 0),(.int .u8 0),(.int .u8 0),(.int .u8 0),(.int .u8 0),(.int .u8 0),(.int .u8 0),(.int .u8 0),(.int .u8 0),(.int .u8 0)],none⟩,
     ⟨none,.store 32 (.t 3) (.t 5),none⟩])
  (.seq (.ops [⟨(some 6),.slcA 32 1 (.t 3) none none none,none⟩,
     ⟨(some 7),.call k_purserref04_Of [(.t 6)],none⟩,
     ⟨none,.store 32 (.t 2) (.t 7),none⟩])
  (.ret)))⟩
def L_purserref04_Of_0 : C := .seq (.seq (.ops [⟨(some 30),.mov (.t 8),none⟩,
              ⟨(some 31),.bin .lss .no (.t 30) (.c (.int .i64 16)),none⟩])
           (.cond (.t 31)
            (.skip)
            (.exit 2)))
          (.seq (.block 3 (.dops 0 [] [(⟨(some 34),.mov (.t 7),none⟩,.L),
              (⟨(some 35),.mov (.t 8),none⟩,.L),
              (⟨(some 36),.mov (.t 5),none⟩,.L),
              (⟨(some 37),.mov (.t 6),none⟩,.L),
              (⟨(some 38),.mov (.t 8),none⟩,.L),
              (⟨(some 39),.bin .mul .no (.c (.int .i64 4)) (.t 38),none⟩,.L),
              (⟨(some 40),.bin .add .no (.t 37) (.t 39),none⟩,.L),
              (⟨(some 41),.idxAddrS 1 (.t 36) (.t 40),none⟩,.L),
              (⟨(some 42),.load none (.t 41),none⟩,.R [] []),
              (⟨(some 43),.conv .u32 (.t 42),none⟩,.L),
              (⟨(some 44),.bin .shl .no (.t 43) (.c (.int .u64 24)),none⟩,.L),
              (⟨(some 45),.mov (.t 5),none⟩,.L),
              (⟨(some 46),.mov (.t 6),none⟩,.L),
              (⟨(some 47),.mov (.t 8),none⟩,.L),
              (⟨(some 48),.bin .mul .no (.c (.int .i64 4)) (.t 47),none⟩,.L),
              (⟨(some 49),.bin .add .no (.t 46) (.t 48),none⟩,.L),
              (⟨(some 50),.bin .add .no (.t 49) (.c (.int .i64 1)),none⟩,.L),
              (⟨(some 51),.idxAddrS 1 (.t 45) (.t 50),none⟩,.L),
              (⟨(some 52),.load none (.t 51),none⟩,.R [] []),
              (⟨(some 53),.conv .u32 (.t 52),none⟩,.L),
              (⟨(some 54),.bin .shl .no (.t 53) (.c (.int .u64 16)),none⟩,.L),
              (⟨(some 55),.bin .add .no (.t 44) (.t 54),none⟩,.L),
              (⟨(some 56),.mov (.t 5),none⟩,.L),
              (⟨(some 57),.mov (.t 6),none⟩,.L),
              (⟨(some 58),.mov (.t 8),none⟩,.L),
              (⟨(some 59),.bin .mul .no (.c (.int .i64 4)) (.t 58),none⟩,.L),
              (⟨(some 60),.bin .add .no (.t 57) (.t 59),none⟩,.L),
              (⟨(some 61),.bin .add .no (.t 60) (.c (.int .i64 2)),none⟩,.L),
              (⟨(some 62),.idxAddrS 1 (.t 56) (.t 61),none⟩,.L),
              (⟨(some 63),.load none (.t 62),none⟩,.R [] []),
              (⟨(some 64),.conv .u32 (.t 63),none⟩,.L),
              (⟨(some 65),.bin .shl .no (.t 64) (.c (.int .u64 8)),none⟩,.L),
              (⟨(some 66),.bin .add .no (.t 55) (.t 65),none⟩,.L),
              (⟨(some 67),.mov (.t 5),none⟩,.L),
              (⟨(some 68),.mov (.t 6),none⟩,.L),
              (⟨(some 69),.mov (.t 8),none⟩,.L),
              (⟨(some 70),.bin .mul .no (.c (.int .i64 4)) (.t 69),none⟩,.L),
              (⟨(some 71),.bin .add .no (.t 68) (.t 70),none⟩,.L),
              (⟨(some 72),.bin .add .no (.t 71) (.c (.int .i64 3)),none⟩,.L),
              (⟨(some 73),.idxAddrS 1 (.t 67) (.t 72),none⟩,.L),
              (⟨(some 74),.load none (.t 73),none⟩,.R [] []),
              (⟨(some 75),.conv .u32 (.t 74),none⟩,.L),
              (⟨(some 76),.bin .add .no (.t 66) (.t 75),none⟩,.L),
              (⟨(some 77),.idxAddrS 1 (.t 34) (.t 35),none⟩,.L),
              (⟨none,.store 1 (.t 77) (.t 76),none⟩,.B [])]))
          (.ops [⟨(some 32),.mov (.t 8),none⟩,
            ⟨(some 33),.bin .add .no (.t 32) (.c (.int .i64 1)),none⟩,
            ⟨(some 8),.mov (.t 33),none⟩]))
def L_purserref04_Of_1 : C := .seq (.seq (.ops [⟨(some 78),.mov (.t 9),none⟩,
              ⟨(some 79),.bin .lss .no (.t 78) (.c (.int .i64 64)),none⟩])
           (.cond (.t 79)
            (.skip)
            (.exit 4)))
          (.seq (.block 5 (.seq (.dops 0 [] [(⟨(some 82),.mov (.t 7),none⟩,.L),
               (⟨(some 83),.mov (.t 9),none⟩,.L),
               (⟨(some 84),.bin .sub .no (.t 83) (.c (.int .i64 15)),none⟩,.L),
               (⟨(some 85),.idxAddrS 1 (.t 82) (.t 84),none⟩,.L),
               (⟨(some 86),.load none (.t 85),none⟩,.R [] []),
               (⟨(some 87),.call k_purserref04_turned [(.t 86),(.c (.int .u64 7))],none⟩,.B []),
               (⟨(some 88),.mov (.t 7),none⟩,.L),
               (⟨(some 89),.mov (.t 9),none⟩,.L),
               (⟨(some 90),.bin .sub .no (.t 89) (.c (.int .i64 15)),none⟩,.L),
               (⟨(some 91),.idxAddrS 1 (.t 88) (.t 90),none⟩,.L),
               (⟨(some 92),.load none (.t 91),none⟩,.R [] [(2,[])]),
               (⟨(some 93),.call k_purserref04_turned [(.t 92),(.c (.int .u64 18))],none⟩,.B []),
               (⟨(some 94),.bin .xor .no (.t 87) (.t 93),none⟩,.L),
               (⟨(some 95),.mov (.t 7),none⟩,.L),
               (⟨(some 96),.mov (.t 9),none⟩,.L),
               (⟨(some 97),.bin .sub .no (.t 96) (.c (.int .i64 15)),none⟩,.L),
               (⟨(some 98),.idxAddrS 1 (.t 95) (.t 97),none⟩,.L),
               (⟨(some 99),.load none (.t 98),none⟩,.R [] [(2,[]),(1,[])]),
               (⟨(some 100),.bin .shr .no (.t 99) (.c (.int .u64 3)),none⟩,.L),
               (⟨(some 101),.bin .xor .no (.t 94) (.t 100),none⟩,.L),
               (⟨(some 10),.mov (.t 101),none⟩,.L)])
            (.seq (.dops 0 [] [(⟨(some 102),.mov (.t 7),none⟩,.L),
               (⟨(some 103),.mov (.t 9),none⟩,.L),
               (⟨(some 104),.bin .sub .no (.t 103) (.c (.int .i64 2)),none⟩,.L),
               (⟨(some 105),.idxAddrS 1 (.t 102) (.t 104),none⟩,.L),
               (⟨(some 106),.load none (.t 105),none⟩,.R [] []),
               (⟨(some 107),.call k_purserref04_turned [(.t 106),(.c (.int .u64 17))],none⟩,.B []),
               (⟨(some 108),.mov (.t 7),none⟩,.L),
               (⟨(some 109),.mov (.t 9),none⟩,.L),
               (⟨(some 110),.bin .sub .no (.t 109) (.c (.int .i64 2)),none⟩,.L),
               (⟨(some 111),.idxAddrS 1 (.t 108) (.t 110),none⟩,.L),
               (⟨(some 112),.load none (.t 111),none⟩,.R [] [(2,[])]),
               (⟨(some 113),.call k_purserref04_turned [(.t 112),(.c (.int .u64 19))],none⟩,.B []),
               (⟨(some 114),.bin .xor .no (.t 107) (.t 113),none⟩,.L),
               (⟨(some 115),.mov (.t 7),none⟩,.L),
               (⟨(some 116),.mov (.t 9),none⟩,.L),
               (⟨(some 117),.bin .sub .no (.t 116) (.c (.int .i64 2)),none⟩,.L),
               (⟨(some 118),.idxAddrS 1 (.t 115) (.t 117),none⟩,.L),
               (⟨(some 119),.load none (.t 118),none⟩,.R [] [(2,[]),(1,[])]),
               (⟨(some 120),.bin .shr .no (.t 119) (.c (.int .u64 10)),none⟩,.L),
               (⟨(some 121),.bin .xor .no (.t 114) (.t 120),none⟩,.L),
               (⟨(some 11),.mov (.t 121),none⟩,.L)])
            (.dops 0 [] [(⟨(some 122),.mov (.t 7),none⟩,.L),
              (⟨(some 123),.mov (.t 9),none⟩,.L),
              (⟨(some 124),.mov (.t 7),none⟩,.L),
              (⟨(some 125),.mov (.t 9),none⟩,.L),
              (⟨(some 126),.bin .sub .no (.t 125) (.c (.int .i64 16)),none⟩,.L),
              (⟨(some 127),.idxAddrS 1 (.t 124) (.t 126),none⟩,.L),
              (⟨(some 128),.load none (.t 127),none⟩,.R [] []),
              (⟨(some 129),.mov (.t 10),none⟩,.L),
              (⟨(some 130),.bin .add .no (.t 128) (.t 129),none⟩,.L),
              (⟨(some 131),.mov (.t 7),none⟩,.L),
              (⟨(some 132),.mov (.t 9),none⟩,.L),
              (⟨(some 133),.bin .sub .no (.t 132) (.c (.int .i64 7)),none⟩,.L),
              (⟨(some 134),.idxAddrS 1 (.t 131) (.t 133),none⟩,.L),
              (⟨(some 135),.load none (.t 134),none⟩,.R [] []),
              (⟨(some 136),.bin .add .no (.t 130) (.t 135),none⟩,.L),
              (⟨(some 137),.mov (.t 11),none⟩,.L),
              (⟨(some 138),.bin .add .no (.t 136) (.t 137),none⟩,.L),
              (⟨(some 139),.idxAddrS 1 (.t 122) (.t 123),none⟩,.L),
              (⟨none,.store 1 (.t 139) (.t 138),none⟩,.B [])]))))
          (.ops [⟨(some 80),.mov (.t 9),none⟩,
            ⟨(some 81),.bin .add .no (.t 80) (.c (.int .i64 1)),none⟩,
            ⟨(some 9),.mov (.t 81),none⟩]))
def L_purserref04_Of_2 : C := .seq (.seq (.ops [⟨(some 143),.mov (.t 13),none⟩,
              ⟨(some 144),.bin .lss .no (.t 143) (.c (.int .i64 64)),none⟩])
           (.cond (.t 144)
            (.skip)
            (.exit 6)))
          (.seq (.block 7 (.seq (.dops 0 [] [(⟨(some 147),.mov (.t 12),none⟩,.L),
               (⟨(some 148),.idxAddrS 1 (.t 147) (.c (.int .i64 7)),none⟩,.L),
               (⟨(some 149),.load none (.t 148),none⟩,.R [] [(2,[]),(1,[]),(0,[])]),
               (⟨(some 150),.mov (.t 12),none⟩,.L),
               (⟨(some 151),.idxAddrS 1 (.t 150) (.c (.int .i64 4)),none⟩,.L),
               (⟨(some 152),.load none (.t 151),none⟩,.R [] []),
               (⟨(some 153),.call k_purserref04_turned [(.t 152),(.c (.int .u64 6))],none⟩,.B []),
               (⟨(some 154),.mov (.t 12),none⟩,.L),
               (⟨(some 155),.idxAddrS 1 (.t 154) (.c (.int .i64 4)),none⟩,.L),
               (⟨(some 156),.load none (.t 155),none⟩,.R [] [(3,[])]),
               (⟨(some 157),.call k_purserref04_turned [(.t 156),(.c (.int .u64 11))],none⟩,.B []),
               (⟨(some 158),.bin .xor .no (.t 153) (.t 157),none⟩,.L),
               (⟨(some 159),.mov (.t 12),none⟩,.L),
               (⟨(some 160),.idxAddrS 1 (.t 159) (.c (.int .i64 4)),none⟩,.L),
               (⟨(some 161),.load none (.t 160),none⟩,.R [] [(3,[]),(2,[])]),
               (⟨(some 162),.call k_purserref04_turned [(.t 161),(.c (.int .u64 25))],none⟩,.B []),
               (⟨(some 163),.bin .xor .no (.t 158) (.t 162),none⟩,.L),
               (⟨(some 164),.bin .add .no (.t 149) (.t 163),none⟩,.L),
               (⟨(some 165),.mov (.t 12),none⟩,.L),
               (⟨(some 166),.idxAddrS 1 (.t 165) (.c (.int .i64 4)),none⟩,.L),
               (⟨(some 167),.load none (.t 166),none⟩,.R [] [(3,[]),(2,[]),(1,[])]),
               (⟨(some 168),.mov (.t 12),none⟩,.L),
               (⟨(some 169),.idxAddrS 1 (.t 168) (.c (.int .i64 5)),none⟩,.L),
               (⟨(some 170),.load none (.t 169),none⟩,.R [] [(3,[]),(2,[]),(1,[])]),
               (⟨(some 171),.bin .and .no (.t 167) (.t 170),none⟩,.L),
               (⟨(some 172),.mov (.t 12),none⟩,.L),
               (⟨(some 173),.idxAddrS 1 (.t 172) (.c (.int .i64 4)),none⟩,.L),
               (⟨(some 174),.load none (.t 173),none⟩,.R [] [(3,[]),(2,[]),(1,[])]),
               (⟨(some 175),.un .xor (.t 174),none⟩,.L),
               (⟨(some 176),.mov (.t 12),none⟩,.L),
               (⟨(some 177),.idxAddrS 1 (.t 176) (.c (.int .i64 6)),none⟩,.L),
               (⟨(some 178),.load none (.t 177),none⟩,.R [] [(3,[]),(2,[]),(1,[])]),
               (⟨(some 179),.bin .and .no (.t 175) (.t 178),none⟩,.L),
               (⟨(some 180),.bin .xor .no (.t 171) (.t 179),none⟩,.L),
               (⟨(some 181),.bin .add .no (.t 164) (.t 180),none⟩,.L),
               (⟨(some 182),.mov (.t 4),none⟩,.L),
               (⟨(some 183),.mov (.t 13),none⟩,.L),
               (⟨(some 184),.idxAddrS 1 (.t 182) (.t 183),none⟩,.L),
               (⟨(some 185),.load none (.t 184),none⟩,.R [] [(3,[]),(2,[]),(1,[])]),
               (⟨(some 186),.bin .add .no (.t 181) (.t 185),none⟩,.L),
               (⟨(some 187),.mov (.t 7),none⟩,.L),
               (⟨(some 188),.mov (.t 13),none⟩,.L),
               (⟨(some 189),.idxAddrS 1 (.t 187) (.t 188),none⟩,.L),
               (⟨(some 190),.load none (.t 189),none⟩,.R [] [(3,[]),(2,[]),(1,[])]),
               (⟨(some 191),.bin .add .no (.t 186) (.t 190),none⟩,.L),
               (⟨(some 14),.mov (.t 191),none⟩,.L)])
            (.seq (.dops 0 [] [(⟨(some 192),.mov (.t 12),none⟩,.L),
               (⟨(some 193),.idxAddrS 1 (.t 192) (.c (.int .i64 0)),none⟩,.L),
               (⟨(some 194),.load none (.t 193),none⟩,.R [] []),
               (⟨(some 195),.call k_purserref04_turned [(.t 194),(.c (.int .u64 2))],none⟩,.B []),
               (⟨(some 196),.mov (.t 12),none⟩,.L),
               (⟨(some 197),.idxAddrS 1 (.t 196) (.c (.int .i64 0)),none⟩,.L),
               (⟨(some 198),.load none (.t 197),none⟩,.R [] [(3,[])]),
               (⟨(some 199),.call k_purserref04_turned [(.t 198),(.c (.int .u64 13))],none⟩,.B []),
               (⟨(some 200),.bin .xor .no (.t 195) (.t 199),none⟩,.L),
               (⟨(some 201),.mov (.t 12),none⟩,.L),
               (⟨(some 202),.idxAddrS 1 (.t 201) (.c (.int .i64 0)),none⟩,.L),
               (⟨(some 203),.load none (.t 202),none⟩,.R [] [(3,[]),(2,[])]),
               (⟨(some 204),.call k_purserref04_turned [(.t 203),(.c (.int .u64 22))],none⟩,.B []),
               (⟨(some 205),.bin .xor .no (.t 200) (.t 204),none⟩,.L),
               (⟨(some 206),.mov (.t 12),none⟩,.L),
               (⟨(some 207),.idxAddrS 1 (.t 206) (.c (.int .i64 0)),none⟩,.L),
               (⟨(some 208),.load none (.t 207),none⟩,.R [] [(3,[]),(2,[]),(1,[])]),
               (⟨(some 209),.mov (.t 12),none⟩,.L),
               (⟨(some 210),.idxAddrS 1 (.t 209) (.c (.int .i64 1)),none⟩,.L),
               (⟨(some 211),.load none (.t 210),none⟩,.R [] [(3,[]),(2,[]),(1,[])]),
               (⟨(some 212),.bin .and .no (.t 208) (.t 211),none⟩,.L),
               (⟨(some 213),.mov (.t 12),none⟩,.L),
               (⟨(some 214),.idxAddrS 1 (.t 213) (.c (.int .i64 0)),none⟩,.L),
               (⟨(some 215),.load none (.t 214),none⟩,.R [] [(3,[]),(2,[]),(1,[])]),
               (⟨(some 216),.mov (.t 12),none⟩,.L),
               (⟨(some 217),.idxAddrS 1 (.t 216) (.c (.int .i64 2)),none⟩,.L),
               (⟨(some 218),.load none (.t 217),none⟩,.R [] [(3,[]),(2,[]),(1,[])]),
               (⟨(some 219),.bin .and .no (.t 215) (.t 218),none⟩,.L),
               (⟨(some 220),.bin .xor .no (.t 212) (.t 219),none⟩,.L),
               (⟨(some 221),.mov (.t 12),none⟩,.L),
               (⟨(some 222),.idxAddrS 1 (.t 221) (.c (.int .i64 1)),none⟩,.L),
               (⟨(some 223),.load none (.t 222),none⟩,.R [] [(3,[]),(2,[]),(1,[])]),
               (⟨(some 224),.mov (.t 12),none⟩,.L),
               (⟨(some 225),.idxAddrS 1 (.t 224) (.c (.int .i64 2)),none⟩,.L),
               (⟨(some 226),.load none (.t 225),none⟩,.R [] [(3,[]),(2,[]),(1,[])]),
               (⟨(some 227),.bin .and .no (.t 223) (.t 226),none⟩,.L),
               (⟨(some 228),.bin .xor .no (.t 220) (.t 227),none⟩,.L),
               (⟨(some 229),.bin .add .no (.t 205) (.t 228),none⟩,.L),
               (⟨(some 15),.mov (.t 229),none⟩,.L)])
            (.dops 1 [0] [(⟨(some 230),.mov (.t 14),none⟩,.L),
              (⟨(some 231),.mov (.t 15),none⟩,.L),
              (⟨(some 232),.bin .add .no (.t 230) (.t 231),none⟩,.L),
              (⟨(some 233),.mov (.t 12),none⟩,.L),
              (⟨(some 234),.idxAddrS 1 (.t 233) (.c (.int .i64 0)),none⟩,.L),
              (⟨(some 235),.load none (.t 234),none⟩,.R [] []),
              (⟨(some 236),.mov (.t 12),none⟩,.L),
              (⟨(some 237),.idxAddrS 1 (.t 236) (.c (.int .i64 1)),none⟩,.L),
              (⟨(some 238),.load none (.t 237),none⟩,.R [] []),
              (⟨(some 239),.mov (.t 12),none⟩,.L),
              (⟨(some 240),.idxAddrS 1 (.t 239) (.c (.int .i64 2)),none⟩,.L),
              (⟨(some 241),.load none (.t 240),none⟩,.R [] []),
              (⟨(some 242),.mov (.t 12),none⟩,.L),
              (⟨(some 243),.idxAddrS 1 (.t 242) (.c (.int .i64 3)),none⟩,.L),
              (⟨(some 244),.load none (.t 243),none⟩,.R [] []),
              (⟨(some 245),.mov (.t 14),none⟩,.L),
              (⟨(some 246),.bin .add .no (.t 244) (.t 245),none⟩,.L),
              (⟨(some 247),.mov (.t 12),none⟩,.L),
              (⟨(some 248),.idxAddrS 1 (.t 247) (.c (.int .i64 4)),none⟩,.L),
              (⟨(some 249),.load none (.t 248),none⟩,.R [] []),
              (⟨(some 250),.mov (.t 12),none⟩,.L),
              (⟨(some 251),.idxAddrS 1 (.t 250) (.c (.int .i64 5)),none⟩,.L),
              (⟨(some 252),.load none (.t 251),none⟩,.R [] []),
              (⟨(some 253),.mov (.t 12),none⟩,.L),
              (⟨(some 254),.idxAddrS 1 (.t 253) (.c (.int .i64 6)),none⟩,.L),
              (⟨(some 255),.load none (.t 254),none⟩,.R [] []),
              (⟨(some 256),.buildS [(.int .u32 0),(.int .u32 0),(.int .u32 0),(.int .u32 0),(.int .u32 0),(.int .u32 0),(.int .u32 0),(.int .u32 0)] 8 1 [(0,1,(.t 232)),(1,1,(.t 235)),(2,1,(.t 238)),(3,1,(.t 241)),(4,1,(.t 246)),(5,1,(.t 249)),(6,1,(.t 252)),(7,1,(.t 255))],none⟩,.Al 0),
              (⟨(some 12),.mov (.t 256),none⟩,.L)]))))
          (.ops [⟨(some 145),.mov (.t 13),none⟩,
            ⟨(some 146),.bin .add .no (.t 145) (.c (.int .i64 1)),none⟩,
            ⟨(some 13),.mov (.t 146),none⟩]))
def L_purserref04_Of_3 : C := .seq (.seq (.ops [⟨(some 257),.mov (.t 16),none⟩,
             ⟨(some 258),.bin .lss .no (.t 257) (.c (.int .i64 8)),none⟩])
          (.cond (.t 258)
           (.skip)
           (.exit 8)))
         (.seq (.block 9 (.dops 0 [] [(⟨(some 261),.mov (.t 3),none⟩,.L),
             (⟨(some 262),.mov (.t 16),none⟩,.L),
             (⟨(some 263),.mov (.t 3),none⟩,.L),
             (⟨(some 264),.mov (.t 16),none⟩,.L),
             (⟨(some 265),.idxAddrS 1 (.t 263) (.t 264),none⟩,.L),
             (⟨(some 266),.load none (.t 265),none⟩,.R [] []),
             (⟨(some 267),.mov (.t 12),none⟩,.L),
             (⟨(some 268),.mov (.t 16),none⟩,.L),
             (⟨(some 269),.idxAddrS 1 (.t 267) (.t 268),none⟩,.L),
             (⟨(some 270),.load none (.t 269),none⟩,.R [] []),
             (⟨(some 271),.bin .add .no (.t 266) (.t 270),none⟩,.L),
             (⟨(some 272),.idxAddrS 1 (.t 261) (.t 262),none⟩,.L),
             (⟨none,.store 1 (.t 272) (.t 271),none⟩,.B [])]))
         (.ops [⟨(some 259),.mov (.t 16),none⟩,
           ⟨(some 260),.bin .add .no (.t 259) (.c (.int .i64 1)),none⟩,
           ⟨(some 16),.mov (.t 260),none⟩]))
def R_purserref04_Of_0 : C := .seq (.ops [⟨(some 16),.mov (.c (.int .i64 0)),none⟩])
       (.block 8 (.loop (L_purserref04_Of_3)))
def R_purserref04_Of_1 : C := .seq (.ops [⟨(some 12),.mov (.c (.slice none 0 (some 0) 0)),none⟩])
       (.seq (.ops [⟨(some 140),.mov (.t 12),none⟩,
          ⟨(some 141),.mov (.t 3),none⟩,
          ⟨(some 142),.append 1 4 (.t 140) (.t 141),none⟩,
          ⟨(some 12),.mov (.t 142),none⟩])
       (.seq (.seq (.ops [⟨(some 13),.mov (.c (.int .i64 0)),none⟩])
        (.block 6 (.loop (L_purserref04_Of_2))))
       (R_purserref04_Of_0)))
def R_purserref04_Of_2 : C := .seq (.seq (.ops [⟨(some 9),.mov (.c (.int .i64 16)),none⟩])
        (.block 4 (.loop (L_purserref04_Of_1))))
       (R_purserref04_Of_1)
def R_purserref04_Of_3 : C := .ops [⟨(some 27),.mov (.t 6),none⟩,
       ⟨(some 28),.bin .add .no (.t 27) (.c (.int .i64 64)),none⟩,
       ⟨(some 6),.mov (.t 28),none⟩]
def L_purserref04_Of_4 : C := .seq (.seq (.ops [⟨(some 23),.mov (.t 6),none⟩,
         ⟨(some 24),.mov (.t 5),none⟩,
         ⟨(some 25),.len false (.t 24),none⟩,
         ⟨(some 26),.bin .lss .no (.t 23) (.t 25),none⟩])
      (.cond (.t 26)
       (.skip)
       (.exit 0)))
     (.seq (.block 1 (.seq (.ops [⟨(some 29),.mkslice [(.int .u32 0)] 4 (.c (.int .i64 64)) (.c (.int .i64 64)),none⟩,
          ⟨(some 7),.mov (.t 29),none⟩])
       (.seq (.seq (.ops [⟨(some 8),.mov (.c (.int .i64 0)),none⟩])
        (.block 2 (.loop (L_purserref04_Of_0))))
       (R_purserref04_Of_2))))
     (R_purserref04_Of_3))
def L_purserref04_Of_5 : C := .seq (.seq (.ops [⟨(some 273),.mov (.t 18),none⟩,
         ⟨(some 274),.bin .lss .no (.t 273) (.c (.int .i64 32)),none⟩])
      (.cond (.t 274)
       (.skip)
       (.exit 10)))
     (.seq (.block 11 (.ops [⟨(some 277),.mov (.t 18),none⟩,
         ⟨(some 278),.mov (.t 3),none⟩,
         ⟨(some 279),.mov (.t 18),none⟩,
         ⟨(some 280),.bin .quo .no (.t 279) (.c (.int .i64 4)),none⟩,
         ⟨(some 281),.idxAddrS 1 (.t 278) (.t 280),none⟩,
         ⟨(some 282),.load none (.t 281),none⟩,
         ⟨(some 283),.mov (.t 18),none⟩,
         ⟨(some 284),.bin .rem .no (.t 283) (.c (.int .i64 4)),none⟩,
         ⟨(some 285),.bin .mul .no (.c (.int .i64 8)) (.t 284),none⟩,
         ⟨(some 286),.bin .sub .no (.c (.int .i64 24)) (.t 285),none⟩,
         ⟨(some 287),.conv .u64 (.t 286),none⟩,
         ⟨(some 288),.bin .shr .no (.t 282) (.t 287),none⟩,
         ⟨(some 289),.conv .u8 (.t 288),none⟩,
         ⟨(some 290),.idxAddrA 32 1 (.t 17) (.t 277),none⟩,
         ⟨none,.store 1 (.t 290) (.t 289),none⟩]))
     (.ops [⟨(some 275),.mov (.t 18),none⟩,
       ⟨(some 276),.bin .add .no (.t 275) (.c (.int .i64 1)),none⟩,
       ⟨(some 18),.mov (.t 276),none⟩]))
def R_purserref04_Of_4 : C := .seq (.ops [⟨(some 291),.load (some 32) (.t 17),none⟩,
     ⟨none,.store 32 (.t 2) (.t 291),none⟩])
  (.ret)
def R_purserref04_Of_5 : C := .seq (.ops [⟨(some 17),.alloc [(.int .u8 0),(.int .u8 0),(.int .u8 0),(.int .u8 0),(.int .u8 0),(.int .u8 0),(.int .u8 0),(.int .u8 0),(.int .u8 0),(.int .u8 0),(.int .u8 0),(.int .u8 0),(.int .u8 0),(.int .u8 0),(.int .u8 0),(.int .u8 0),(.int .u8 0),(.int .u8 0),(.int .u8 0),(.int .u8 0),(.int .u8 0),(.int .u8 0),(.int .u8 0),(.int .u8 0),(.int .u8 0),(.int .u8 0),(.int .u8 0),(.int .u8 0),(.int .u8 0),(.int .u8 0),(.int .u8 0),(.int .u8 0)],none⟩])
  (.seq (.seq (.ops [⟨(some 18),.mov (.c (.int .i64 0)),none⟩])
   (.block 10 (.loop (L_purserref04_Of_5))))
  (R_purserref04_Of_4))
/-- purser/purserref04.Of -/
def f_purserref04_Of : Fn := ⟨292,[.cell 2 (some 32)],
  .seq (.ops [⟨(some 2),.alloc [(.int .u8 0),(.int .u8 0),(.int .u8 0),(.int .u8 0),(.int .u8 0),(.int .u8 0),(.int .u8 0),(.int .u8 0),(.int .u8 0),(.int .u8 0),(.int .u8 0),(.int .u8 0),(.int .u8 0),(.int .u8 0),(.int .u8 0),(.int .u8 0),(.int .u8 0),(.int .u8 0),(.int .u8 0),(.int .u8 0),(.int .u8 0),(.int .u8 0),(.int .u8 0),(.int .u8 0),(.int .u8 0),(.int .u8 0),(.int .u8 0),(.int .u8 0),(.int .u8 0),(.int .u8 0),(.int .u8 0),(.int .u8 0)],none⟩])
  (.seq (.ops [⟨(some 19),.call k_purserref04_Square [],none⟩,
     ⟨(some 3),.mov (.t 19),none⟩])
  (.seq (.ops [⟨(some 20),.call k_purserref04_Cube [],none⟩,
     ⟨(some 4),.mov (.t 20),none⟩])
  (.seq (.ops [⟨(some 21),.mov (.t 0),none⟩,
     ⟨(some 22),.call k_purserref04_padded [(.t 21)],none⟩,
     ⟨(some 5),.mov (.t 22),none⟩])
  (.seq (.seq (.ops [⟨(some 6),.mov (.c (.int .i64 0)),none⟩])
   (.block 0 (.loop (L_purserref04_Of_4))))
  (R_purserref04_Of_5)))))⟩
/-- purser/purserref04.Square -/
def f_purserref04_Square : Fn := ⟨2,[.tmp 0],
  .seq (.ops [⟨(some 0),.mov (.c (.slice none 0 (some 0) 0)),none⟩])
  (.seq (.ops [⟨(some 1),.buildS [(.int .u32 0),(.int .u32 0),(.int .u32 0),(.int .u32 0),(.int .u32 0),(.int .u32 0),(.int .u32 0),(.int .u32 0)] 8 1 [(0,1,(.c (.int .u32 1779033703))),(1,1,(.c (.int .u32 3144134277))),(2,1,(.c (.int .u32 1013904242))),(3,1,(.c (.int .u32 2773480762))),(4,1,(.c (.int .u32 1359893119))),(5,1,(.c (.int .u32 2600822924))),(6,1,(.c (.int .u32 528734635))),(7,1,(.c (.int .u32 1541459225)))],none⟩,
     ⟨(some 0),.mov (.t 1),none⟩])
  (.ret))⟩
/-- purser/purserref04.Cube -/
def f_purserref04_Cube : Fn := ⟨2,[.tmp 0],
  .seq (.ops [⟨(some 0),.mov (.c (.slice none 0 (some 0) 0)),none⟩])
  (.seq (.ops [⟨(some 1),.buildS [(.int .u32 0),(.int .u32 0),(.int .u32 0),(.int .u32 0),(.int .u32 0),(.int .u32 0),(.int .u32 0),(.int .u32 0),(.int .u32 0),(.int .u32 0),(.int .u32 0),(.int .u32 0),(.int .u32 0),(.int .u32 0),(.int .u32 0),(.int .u32 0),(.int .u32 0),(.int .u32 0),(.int .u32 0),(.int .u32 0),(.int .u32 0),(.int .u32 0),(.int .u32 0),(.int .u32 0),(.int .u32 0),(.int .u32 0),(.int .u32 0),(.int .u32 0),(.int .u32 0),(.int .u32 0),(.int .u32 0),(.int .u32 0),(.int .u32 0),(.int .u32 0),(.int .u32 0),(.int .u32 0),(.int .u32 0),(.int .u32 0),(.int .u32 0),(.int .u32 0),(.int .u32 0),(.int .u32 0),(.int .u32 0),(.int .u32 0),(.int .u32 0),(.int .u32 0),(.int .u32 0),(.int .u32 0),(.int .u32 0),(.int .u32 0),(.int .u32 0),(.int .u32 0),(.int .u32 0),(.int .u32 0),(.int .u32 0),(.int .u32 0),(.int .u32 0),(.int .u32 0),(.int .u32 0),(.int .u32 0),(.int .u32 0),(.int .u32 0),(.int .u32 0),(.int .u32 0)] 64 1 [(0,1,(.c (.int .u32 1116352408))),(1,1,(.c (.int .u32 1899447441))),(2,1,(.c (.int .u32 3049323471))),(3,1,(.c (.int .u32 3921009573))),(4,1,(.c (.int .u32 961987163))),(5,1,(.c (.int .u32 1508970993))),(6,1,(.c (.int .u32 2453635748))),(7,1,(.c (.int .u32 2870763221))),(8,1,(.c (.int .u32 3624381080))),(9,1,(.c (.int .u32 310598401))),(10,1,(.c (.int .u32 607225278))),(11,1,(.c (.int .u32 1426881987))),(12,1,(.c (.int .u32 1925078388))),(13,1,(.c (.int .u32 2162078206))),(14,1,(.c (.int .u32 2614888103))),(15,1,(.c (.int .u32 3248222580))),(16,1,(.c (.int .u32 3835390401))),(17,1,(.c (.int .u32 4022224774))),(18,1,(.c (.int .u32 264347078))),(19,1,(.c (.int .u32 604807628))),(20,1,(.c (.int .u32 770255983))),(21,1,(.c (.int .u32 1249150122))),(22,1,(.c (.int .u32 1555081692))),(23,1,(.c (.int .u32 1996064986))),(24,1,(.c (.int .u32 2554220882))),(25,1,(.c (.int .u32 2821834349))),(26,1,(.c (.int .u32 2952996808))),(27,1,(.c (.int .u32 3210313671))),(28,1,(.c (.int .u32 3336571891))),(29,1,(.c (.int .u32 3584528711))),(30,1,(.c (.int .u32 113926993))),(31,1,(.c (.int .u32 338241895))),(32,1,(.c (.int .u32 666307205))),(33,1,(.c (.int .u32 773529912))),(34,1,(.c (.int .u32 1294757372))),(35,1,(.c (.int .u32 1396182291))),(36,1,(.c (.int .u32 1695183700))),(37,1,(.c (.int .u32 1986661051))),(38,1,(.c (.int .u32 2177026350))),(39,1,(.c (.int .u32 2456956037))),(40,1,(.c (.int .u32 2730485921))),(41,1,(.c (.int .u32 2820302411))),(42,1,(.c (.int .u32 3259730800))),(43,1,(.c (.int .u32 3345764771))),(44,1,(.c (.int .u32 3516065817))),(45,1,(.c (.int .u32 3600352804))),(46,1,(.c (.int .u32 4094571909))),(47,1,(.c (.int .u32 275423344))),(48,1,(.c (.int .u32 430227734))),(49,1,(.c (.int .u32 506948616))),(50,1,(.c (.int .u32 659060556))),(51,1,(.c (.int .u32 883997877))),(52,1,(.c (.int .u32 958139571))),(53,1,(.c (.int .u32 1322822218))),(54,1,(.c (.int .u32 1537002063))),(55,1,(.c (.int .u32 1747873779))),(56,1,(.c (.int .u32 1955562222))),(57,1,(.c (.int .u32 2024104815))),(58,1,(.c (.int .u32 2227730452))),(59,1,(.c (.int .u32 2361852424))),(60,1,(.c (.int .u32 2428436474))),(61,1,(.c (.int .u32 2756734187))),(62,1,(.c (.int .u32 3204031479))),(63,1,(.c (.int .u32 3329325298)))],none⟩,
     ⟨(some 0),.mov (.t 1),none⟩])
  (.ret))⟩
def L_purserref04_padded_0 : C := .seq (.seq (.ops [⟨(some 12),.mov (.t 3),none⟩,
         ⟨(some 13),.len false (.t 12),none⟩,
         ⟨(some 14),.bin .rem .no (.t 13) (.c (.int .i64 64)),none⟩,
         ⟨(some 15),.bin .neq .no (.t 14) (.c (.int .i64 56)),none⟩])
      (.cond (.t 15)
       (.skip)
       (.exit 0)))
     (.block 1 (.ops [⟨(some 16),.mov (.t 3),none⟩,
        ⟨(some 17),.buildS [(.int .u8 0)] 1 1 [(0,1,(.c (.int .u8 0)))],none⟩,
        ⟨(some 18),.append 1 1 (.t 16) (.t 17),none⟩,
        ⟨(some 3),.mov (.t 18),none⟩]))
def L_purserref04_padded_1 : C := .seq (.seq (.ops [⟨(some 23),.mov (.t 5),none⟩,
         ⟨(some 24),.bin .lss .no (.t 23) (.c (.int .i64 8)),none⟩])
      (.cond (.t 24)
       (.skip)
       (.exit 2)))
     (.seq (.block 3 (.ops [⟨(some 27),.mov (.t 3),none⟩,
         ⟨(some 28),.mov (.t 4),none⟩,
         ⟨(some 29),.mov (.t 5),none⟩,
         ⟨(some 30),.bin .mul .no (.c (.int .i64 8)) (.t 29),none⟩,
         ⟨(some 31),.bin .sub .no (.c (.int .i64 56)) (.t 30),none⟩,
         ⟨(some 32),.conv .u64 (.t 31),none⟩,
         ⟨(some 33),.bin .shr .no (.t 28) (.t 32),none⟩,
         ⟨(some 34),.conv .u8 (.t 33),none⟩,
         ⟨(some 35),.buildS [(.int .u8 0)] 1 1 [(0,1,(.t 34))],none⟩,
         ⟨(some 36),.append 1 1 (.t 27) (.t 35),none⟩,
         ⟨(some 3),.mov (.t 36),none⟩]))
     (.ops [⟨(some 25),.mov (.t 5),none⟩,
       ⟨(some 26),.bin .add .no (.t 25) (.c (.int .i64 1)),none⟩,
       ⟨(some 5),.mov (.t 26),none⟩]))
def R_purserref04_padded_0 : C := .seq (.ops [⟨(some 37),.mov (.t 3),none⟩,
     ⟨(some 2),.mov (.t 37),none⟩])
  (.ret)
def R_purserref04_padded_1 : C := .seq (.ops [⟨(some 19),.mov (.t 0),none⟩,
     ⟨(some 20),.len false (.t 19),none⟩,
     ⟨(some 21),.conv .u64 (.t 20),none⟩,
     ⟨(some 22),.bin .mul .no (.t 21) (.c (.int .u64 8)),none⟩,
     ⟨(some 4),.mov (.t 22),none⟩])
  (.seq (.seq (.ops [⟨(some 5),.mov (.c (.int .i64 0)),none⟩])
   (.block 2 (.loop (L_purserref04_padded_1))))
  (R_purserref04_padded_0))
/-- purser/purserref04.padded -/
def f_purserref04_padded : Fn := ⟨38,[.tmp 2],
  .seq (.ops [⟨(some 2),.mov (.c (.slice none 0 (some 0) 0)),none⟩])
  (.seq (.ops [⟨(some 3),.mov (.c (.slice none 0 (some 0) 0)),none⟩])
  (.seq (.ops [⟨(some 6),.mov (.t 3),none⟩,
     ⟨(some 7),.mov (.t 0),none⟩,
     ⟨(some 8),.append 1 1 (.t 6) (.t 7),none⟩,
     ⟨(some 3),.mov (.t 8),none⟩])
  (.seq (.ops [⟨(some 9),.mov (.t 3),none⟩,
     ⟨(some 10),.buildS [(.int .u8 0)] 1 1 [(0,1,(.c (.int .u8 128)))],none⟩,
     ⟨(some 11),.append 1 1 (.t 9) (.t 10),none⟩,
     ⟨(some 3),.mov (.t 11),none⟩])
  (.seq (.block 0 (.loop (L_purserref04_padded_0)))
  (R_purserref04_padded_1)))))⟩
/-- purser/purserref04.turned -/
def f_purserref04_turned : Fn := ⟨13,[.tmp 4],
  .seq (.ops [⟨(some 4),.mov (.c (.int .u32 0)),none⟩])
  (.seq (.ops [⟨(some 5),.mov (.t 0),none⟩,
     ⟨(some 6),.mov (.t 1),none⟩,
     ⟨(some 7),.bin .shr .no (.t 5) (.t 6),none⟩,
     ⟨(some 8),.mov (.t 0),none⟩,
     ⟨(some 9),.mov (.t 1),none⟩,
     ⟨(some 10),.bin .sub .no (.c (.int .u64 32)) (.t 9),none⟩,
     ⟨(some 11),.bin .shl .no (.t 8) (.t 10),none⟩,
     ⟨(some 12),.bin .or .no (.t 7) (.t 11),none⟩,
     ⟨(some 4),.mov (.t 12),none⟩])
  (.ret))⟩

end Go.Eng
