/- Functions of the program,as the evaluator takes them: printed by program. -/
import Derived.Test.YtfopajklnakmpaaBxS
namespace Go.Eng
open Go
/-- purser/purserlaw07.BlockHeaders -/
abbrev k_purserlaw07_BlockHeaders : Nat := 10
/-- purser/purserref07.DecodeHeader -/
abbrev k_purserref07_DecodeHeader : Nat := 47
/-- purser/purserref07.Read -/
abbrev k_purserref07_Read : Nat := 49
/-- purser/purserref07.Header -/
abbrev k_purserref07_Header : Nat := 51
/-- purser/purserref07.Hash -/
abbrev k_purserref07_Hash : Nat := 53
/-- purser/purserref07.Show -/
abbrev k_purserref07_Show : Nat := 55
/-- purser/purserref01.Number -/
abbrev k_purserref01_Number : Nat := 95
/-- purser/purserref07.digit -/
abbrev k_purserref07_digit : Nat := 98
/-- purser/purserref07.num -/
abbrev k_purserref07_num : Nat := 99
/-- purser/purserlaw07.BlockHeaders -/
def f_purserlaw07_BlockHeaders : Fn := ⟨96,[.tmp 8],
  .seq (.ops [⟨(some 4),.box (.t 0),none⟩,
     ⟨(some 6),.box (.t 2),none⟩,
     ⟨(some 8),.mov (.c (.bool false)),none⟩])
  (.seq (.seq (.ops [⟨(some 18),.mov (.t 1),none⟩,
      ⟨(some 19),.len false (.t 18),none⟩,
      ⟨(some 20),.bin .gtr .no (.t 19) (.c (.int .i64 500)),none⟩,
      ⟨(some 21),.mov (.t 20),none⟩,
      ⟨(some 22),.mov (.t 3),(some (21,false))⟩,
      ⟨(some 23),.len true (.t 22),(some (21,false))⟩,
      ⟨(some 24),.bin .gtr .no (.t 23) (.c (.int .i64 500)),(some (21,false))⟩,
      ⟨(some 25),.pick (.t 21) (.c (.bool true)) (.t 24),none⟩])
   (.cond (.t 25)
    (.seq (.ops [⟨(some 8),.mov (.c (.bool true)),none⟩])
     (.ret))
    (.skip)))
  (.seq (.ops [⟨(some 26),.mov (.t 1),none⟩,
     ⟨(some 27),.call k_purserref01_Twin [(.t 26)],none⟩,
     ⟨(some 9),.mov (.t 27),none⟩])
  (.seq (.ops [⟨(some 29),.mov (.t 9),none⟩,
     ⟨(some 30),.call k_block_DecodeHeader [(.t 29)],none⟩,
     ⟨(some 28),.mov (.t 30),none⟩,
     ⟨(some 31),.ext (.t 28) 0,none⟩,
     ⟨(some 32),.ext (.t 28) 1,none⟩,
     ⟨(some 10),.alloc [(.int .u32 0),(.int .u8 0),(.int .u8 0),(.int .u8 0),(.int .u8 0),(.int .u8 0),(.int .u8 0),(.int .u8 0),(.int .u8 0),(.int .u8 0),(.int .u8 0),(.int .u8 0),(.int .u8 0),(.int .u8 0),(.int .u8 0),(.int .u8 0),(.int .u8 0),(.int .u8 0),(.int .u8 0),(.int .u8 0),(.int .u8 0),(.int .u8 0),(.int .u8 0),(.int .u8 0),(.int .u8 0),(.int .u8 0),(.int .u8 0),(.int .u8 0),(.int .u8 0),(.int .u8 0),(.int .u8 0),(.int .u8 0),(.int .u8 0),(.int .u8 0),(.int .u8 0),(.int .u8 0),(.int .u8 0),(.int .u8 0),(.int .u8 0),(.int .u8 0),(.int .u8 0),(.int .u8 0),(.int .u8 0),(.int .u8 0),(.int .u8 0),(.int .u8 0),(.int .u8 0),(.int .u8 0),(.int .u8 0),(.int .u8 0),(.int .u8 0),(.int .u8 0),(.int .u8 0),(.int .u8 0),(.int .u8 0),(.int .u8 0),(.int .u8 0),(.int .u8 0),(.int .u8 0),(.int .u8 0),(.int .u8 0),(.int .u8 0),(.int .u8 0),(.int .u8 0),(.int .u8 0),(.int .u32 0),(.int .u32 0),(.int .u32 0)],none⟩,
     ⟨none,.store 68 (.t 10) (.t 31),none⟩,
     ⟨(some 11),.mov (.t 32),none⟩])
  (.seq (.ops [⟨(some 34),.mov (.t 1),none⟩,
     ⟨(some 35),.call k_purserref07_DecodeHeader [(.t 34)],none⟩,
     ⟨(some 33),.mov (.t 35),none⟩,
     ⟨(some 36),.ext (.t 33) 0,none⟩,
     ⟨(some 37),.ext (.t 33) 1,none⟩,
     ⟨(some 12),.alloc [(.int .u32 0),(.int .u8 0),(.int .u8 0),(.int .u8 0),(.int .u8 0),(.int .u8 0),(.int .u8 0),(.int .u8 0),(.int .u8 0),(.int .u8 0),(.int .u8 0),(.int .u8 0),(.int .u8 0),(.int .u8 0),(.int .u8 0),(.int .u8 0),(.int .u8 0),(.int .u8 0),(.int .u8 0),(.int .u8 0),(.int .u8 0),(.int .u8 0),(.int .u8 0),(.int .u8 0),(.int .u8 0),(.int .u8 0),(.int .u8 0),(.int .u8 0),(.int .u8 0),(.int .u8 0),(.int .u8 0),(.int .u8 0),(.int .u8 0),(.int .u8 0),(.int .u8 0),(.int .u8 0),(.int .u8 0),(.int .u8 0),(.int .u8 0),(.int .u8 0),(.int .u8 0),(.int .u8 0),(.int .u8 0),(.int .u8 0),(.int .u8 0),(.int .u8 0),(.int .u8 0),(.int .u8 0),(.int .u8 0),(.int .u8 0),(.int .u8 0),(.int .u8 0),(.int .u8 0),(.int .u8 0),(.int .u8 0),(.int .u8 0),(.int .u8 0),(.int .u8 0),(.int .u8 0),(.int .u8 0),(.int .u8 0),(.int .u8 0),(.int .u8 0),(.int .u8 0),(.int .u8 0),(.int .u32 0),(.int .u32 0),(.int .u32 0)],none⟩,
     ⟨none,.store 68 (.t 12) (.t 36),none⟩,
     ⟨(some 13),.mov (.t 37),none⟩])
  (.seq (.ops [⟨(some 39),.mov (.t 3),none⟩,
     ⟨(some 40),.call k_block_Read [(.t 39)],none⟩,
     ⟨(some 38),.mov (.t 40),none⟩,
     ⟨(some 41),.ext (.t 38) 0,none⟩,
     ⟨(some 42),.ext (.t 38) 1,none⟩,
     ⟨(some 14),.alloc [(.int .u8 0),(.int .u8 0),(.int .u8 0),(.int .u8 0),(.int .u8 0),(.int .u8 0),(.int .u8 0),(.int .u8 0),(.int .u8 0),(.int .u8 0),(.int .u8 0),(.int .u8 0),(.int .u8 0),(.int .u8 0),(.int .u8 0),(.int .u8 0),(.int .u8 0),(.int .u8 0),(.int .u8 0),(.int .u8 0),(.int .u8 0),(.int .u8 0),(.int .u8 0),(.int .u8 0),(.int .u8 0),(.int .u8 0),(.int .u8 0),(.int .u8 0),(.int .u8 0),(.int .u8 0),(.int .u8 0),(.int .u8 0)],none⟩,
     ⟨none,.store 32 (.t 14) (.t 41),none⟩,
     ⟨(some 15),.mov (.t 42),none⟩])
  (.seq (.ops [⟨(some 44),.mov (.t 3),none⟩,
     ⟨(some 45),.call k_purserref07_Read [(.t 44)],none⟩,
     ⟨(some 43),.mov (.t 45),none⟩,
     ⟨(some 46),.ext (.t 43) 0,none⟩,
     ⟨(some 47),.ext (.t 43) 1,none⟩,
     ⟨(some 16),.alloc [(.int .u8 0),(.int .u8 0),(.int .u8 0),(.int .u8 0),(.int .u8 0),(.int .u8 0),(.int .u8 0),(.int .u8 0),(.int .u8 0),(.int .u8 0),(.int .u8 0),(.int .u8 0),(.int .u8 0),(.int .u8 0),(.int .u8 0),(.int .u8 0),(.int .u8 0),(.int .u8 0),(.int .u8 0),(.int .u8 0),(.int .u8 0),(.int .u8 0),(.int .u8 0),(.int .u8 0),(.int .u8 0),(.int .u8 0),(.int .u8 0),(.int .u8 0),(.int .u8 0),(.int .u8 0),(.int .u8 0),(.int .u8 0)],none⟩,
     ⟨none,.store 32 (.t 16) (.t 46),none⟩,
     ⟨(some 17),.mov (.t 47),none⟩])
  (.seq (.dops 0 [] [(⟨(some 48),.load (some 68) (.t 4),none⟩,.R [] []),
     (⟨(some 49),.call k_block_EncodeHeader [(.t 48)],none⟩,.B []),
     (⟨(some 50),.b2s (.t 49),none⟩,.R [] [(4,[])]),
     (⟨(some 51),.load (some 68) (.t 4),none⟩,.R [] [(6,[])]),
     (⟨(some 52),.call k_purserref07_Header [(.t 51)],none⟩,.B []),
     (⟨(some 53),.b2s (.t 52),none⟩,.R [] []),
     (⟨(some 54),.bin .eql .no (.t 50) (.t 53),none⟩,.L),
     (⟨(some 55),.mov (.t 54),none⟩,.L),
     (⟨(some 56),.load (some 68) (.t 4),(some (55,true))⟩,.R [] []),
     (⟨(some 57),.call k_block_Hash [(.t 56)],(some (55,true))⟩,.B []),
     (⟨(some 58),.load (some 68) (.t 4),(some (55,true))⟩,.R [] [(4,[])]),
     (⟨(some 59),.call k_purserref07_Hash [(.t 58)],(some (55,true))⟩,.B []),
     (⟨(some 60),.bin .eql (.flat [.i,.i,.i,.i,.i,.i,.i,.i,.i,.i,.i,.i,.i,.i,.i,.i,.i,.i,.i,.i,.i,.i,.i,.i,.i,.i,.i,.i,.i,.i,.i,.i]) (.t 57) (.t 59),(some (55,true))⟩,.L),
     (⟨(some 61),.pick (.t 55) (.t 60) (.c (.bool false)),none⟩,.L),
     (⟨(some 62),.mov (.t 61),none⟩,.L),
     (⟨(some 63),.load (some 68) (.t 10),(some (62,true))⟩,.R [] []),
     (⟨(some 64),.load (some 68) (.t 12),(some (62,true))⟩,.R [] []),
     (⟨(some 65),.bin .eql (.flat [.i,.i,.i,.i,.i,.i,.i,.i,.i,.i,.i,.i,.i,.i,.i,.i,.i,.i,.i,.i,.i,.i,.i,.i,.i,.i,.i,.i,.i,.i,.i,.i,.i,.i,.i,.i,.i,.i,.i,.i,.i,.i,.i,.i,.i,.i,.i,.i,.i,.i,.i,.i,.i,.i,.i,.i,.i,.i,.i,.i,.i,.i,.i,.i,.i,.i,.i,.i]) (.t 63) (.t 64),(some (62,true))⟩,.L),
     (⟨(some 66),.pick (.t 62) (.t 65) (.c (.bool false)),none⟩,.L),
     (⟨(some 67),.mov (.t 66),none⟩,.L),
     (⟨(some 68),.mov (.t 11),(some (67,true))⟩,.L),
     (⟨(some 69),.mov (.t 13),(some (67,true))⟩,.L),
     (⟨(some 70),.bin .eql .no (.t 68) (.t 69),(some (67,true))⟩,.L),
     (⟨(some 71),.pick (.t 67) (.t 70) (.c (.bool false)),none⟩,.L),
     (⟨(some 72),.mov (.t 71),none⟩,.L),
     (⟨(some 73),.load (some 32) (.t 6),(some (72,true))⟩,.R [] []),
     (⟨(some 74),.call k_block_Show [(.t 73)],(some (72,true))⟩,.B []),
     (⟨(some 75),.load (some 32) (.t 6),(some (72,true))⟩,.R [] [(2,[])]),
     (⟨(some 76),.call k_purserref07_Show [(.t 75)],(some (72,true))⟩,.B []),
     (⟨(some 77),.bin .eql .no (.t 74) (.t 76),(some (72,true))⟩,.L),
     (⟨(some 78),.pick (.t 72) (.t 77) (.c (.bool false)),none⟩,.L),
     (⟨(some 79),.mov (.t 78),none⟩,.L),
     (⟨(some 80),.load (some 32) (.t 14),(some (79,true))⟩,.R [] []),
     (⟨(some 81),.load (some 32) (.t 16),(some (79,true))⟩,.R [] []),
     (⟨(some 82),.bin .eql (.flat [.i,.i,.i,.i,.i,.i,.i,.i,.i,.i,.i,.i,.i,.i,.i,.i,.i,.i,.i,.i,.i,.i,.i,.i,.i,.i,.i,.i,.i,.i,.i,.i]) (.t 80) (.t 81),(some (79,true))⟩,.L),
     (⟨(some 83),.pick (.t 79) (.t 82) (.c (.bool false)),none⟩,.L),
     (⟨(some 84),.mov (.t 83),none⟩,.L),
     (⟨(some 85),.mov (.t 15),(some (84,true))⟩,.L),
     (⟨(some 86),.mov (.t 17),(some (84,true))⟩,.L),
     (⟨(some 87),.bin .eql .no (.t 85) (.t 86),(some (84,true))⟩,.L),
     (⟨(some 88),.pick (.t 84) (.t 87) (.c (.bool false)),none⟩,.L),
     (⟨(some 89),.mov (.t 88),none⟩,.L),
     (⟨(some 90),.mov (.t 9),(some (89,true))⟩,.L),
     (⟨(some 91),.b2s (.t 90),(some (89,true))⟩,.R [] []),
     (⟨(some 92),.mov (.t 1),(some (89,true))⟩,.L),
     (⟨(some 93),.b2s (.t 92),(some (89,true))⟩,.R [] []),
     (⟨(some 94),.bin .eql .no (.t 91) (.t 93),(some (89,true))⟩,.L),
     (⟨(some 95),.pick (.t 89) (.t 94) (.c (.bool false)),none⟩,.L),
     (⟨(some 8),.mov (.t 95),none⟩,.L)])
  (.ret))))))))⟩
def L_purserref07_DecodeHeader_0 : C := .seq (.seq (.ops [⟨(some 27),.mov (.t 5),none⟩,
         ⟨(some 28),.bin .lss .no (.t 27) (.c (.int .i64 32)),none⟩])
      (.cond (.t 28)
       (.skip)
       (.exit 0)))
     (.seq (.block 1 (.seq (.ops [⟨(some 31),.mov (.t 5),none⟩,
          ⟨(some 32),.mov (.t 0),none⟩,
          ⟨(some 33),.mov (.t 5),none⟩,
          ⟨(some 34),.bin .add .no (.c (.int .i64 4)) (.t 33),none⟩,
          ⟨(some 35),.idxAddrS 1 (.t 32) (.t 34),none⟩,
          ⟨(some 36),.load none (.t 35),none⟩,
          ⟨(some 37),.fieldAddr 1 (.t 4),none⟩,
          ⟨(some 38),.idxAddrA 32 1 (.t 37) (.t 31),none⟩,
          ⟨none,.store 1 (.t 38) (.t 36),none⟩])
       (.ops [⟨(some 39),.mov (.t 5),none⟩,
         ⟨(some 40),.mov (.t 0),none⟩,
         ⟨(some 41),.mov (.t 5),none⟩,
         ⟨(some 42),.bin .add .no (.c (.int .i64 36)) (.t 41),none⟩,
         ⟨(some 43),.idxAddrS 1 (.t 40) (.t 42),none⟩,
         ⟨(some 44),.load none (.t 43),none⟩,
         ⟨(some 45),.fieldAddr 33 (.t 4),none⟩,
         ⟨(some 46),.idxAddrA 32 1 (.t 45) (.t 39),none⟩,
         ⟨none,.store 1 (.t 46) (.t 44),none⟩])))
     (.ops [⟨(some 29),.mov (.t 5),none⟩,
       ⟨(some 30),.bin .add .no (.t 29) (.c (.int .i64 1)),none⟩,
       ⟨(some 5),.mov (.t 30),none⟩]))
def R_purserref07_DecodeHeader_0 : C := .seq (.ops [⟨(some 47),.load (some 68) (.t 4),none⟩,
     ⟨none,.store 68 (.t 2) (.t 47),none⟩,
     ⟨(some 3),.mov (.c (.int .i64 0)),none⟩])
  (.ret)
/-- purser/purserref07.DecodeHeader -/
def f_purserref07_DecodeHeader : Fn := ⟨48,[.cell 2 (some 68),.tmp 3],
  .seq (.ops [⟨(some 2),.alloc [(.int .u32 0),(.int .u8 0),(.int .u8 0),(.int .u8 0),(.int .u8 0),(.int .u8 0),(.int .u8 0),(.int .u8 0),(.int .u8 0),(.int .u8 0),(.int .u8 0),(.int .u8 0),(.int .u8 0),(.int .u8 0),(.int .u8 0),(.int .u8 0),(.int .u8 0),(.int .u8 0),(.int .u8 0),(.int .u8 0),(.int .u8 0),(.int .u8 0),(.int .u8 0),(.int .u8 0),(.int .u8 0),(.int .u8 0),(.int .u8 0),(.int .u8 0),(.int .u8 0),(.int .u8 0),(.int .u8 0),(.int .u8 0),(.int .u8 0),(.int .u8 0),(.int .u8 0),(.int .u8 0),(.int .u8 0),(.int .u8 0),(.int .u8 0),(.int .u8 0),(.int .u8 0),(.int .u8 0),(.int .u8 0),(.int .u8 0),(.int .u8 0),(.int .u8 0),(.int .u8 0),(.int .u8 0),(.int .u8 0),(.int .u8 0),(.int .u8 0),(.int .u8 0),(.int .u8 0),(.int .u8 0),(.int .u8 0),(.int .u8 0),(.int .u8 0),(.int .u8 0),(.int .u8 0),(.int .u8 0),(.int .u8 0),(.int .u8 0),(.int .u8 0),(.int .u8 0),(.int .u8 0),(.int .u32 0),(.int .u32 0),(.int .u32 0)],none⟩,
     ⟨(some 3),.mov (.c (.int .i64 0)),none⟩])
  (.seq (.seq (.ops [⟨(some 6),.mov (.t 0),none⟩,
      ⟨(some 7),.len false (.t 6),none⟩,
      ⟨(some 8),.bin .neq .no (.t 7) (.c (.int .i64 80)),none⟩])
   (.cond (.t 8)
    (.seq (.ops [⟨(some 9),.build [(.int .u32 0),(.int .u8 0),(.int .u8 0),(.int .u8 0),(.int .u8 0),(.int .u8 0),(.int .u8 0),(.int .u8 0),(.int .u8 0),(.int .u8 0),(.int .u8 0),(.int .u8 0),(.int .u8 0),(.int .u8 0),(.int .u8 0),(.int .u8 0),(.int .u8 0),(.int .u8 0),(.int .u8 0),(.int .u8 0),(.int .u8 0),(.int .u8 0),(.int .u8 0),(.int .u8 0),(.int .u8 0),(.int .u8 0),(.int .u8 0),(.int .u8 0),(.int .u8 0),(.int .u8 0),(.int .u8 0),(.int .u8 0),(.int .u8 0),(.int .u8 0),(.int .u8 0),(.int .u8 0),(.int .u8 0),(.int .u8 0),(.int .u8 0),(.int .u8 0),(.int .u8 0),(.int .u8 0),(.int .u8 0),(.int .u8 0),(.int .u8 0),(.int .u8 0),(.int .u8 0),(.int .u8 0),(.int .u8 0),(.int .u8 0),(.int .u8 0),(.int .u8 0),(.int .u8 0),(.int .u8 0),(.int .u8 0),(.int .u8 0),(.int .u8 0),(.int .u8 0),(.int .u8 0),(.int .u8 0),(.int .u8 0),(.int .u8 0),(.int .u8 0),(.int .u8 0),(.int .u8 0),(.int .u32 0),(.int .u32 0),(.int .u32 0)] [],none⟩,
        ⟨none,.store 68 (.t 2) (.t 9),none⟩,
        ⟨(some 3),.mov (.c (.int .i64 70)),none⟩])
     (.ret))
    (.skip)))
  (.seq (.dops 1 [] [(⟨(some 10),.mov (.t 0),none⟩,.L),
     (⟨(some 11),.slcS 1 (.t 10) none (some (.c (.int .i64 4))) none,none⟩,.L),
     (⟨(some 12),.call k_purserref01_Number [(.t 11)],none⟩,.B []),
     (⟨(some 13),.conv .u32 (.t 12),none⟩,.L),
     (⟨(some 14),.mov (.t 0),none⟩,.L),
     (⟨(some 15),.slcS 1 (.t 14) (some (.c (.int .i64 68))) (some (.c (.int .i64 72))) none,none⟩,.L),
     (⟨(some 16),.call k_purserref01_Number [(.t 15)],none⟩,.B []),
     (⟨(some 17),.conv .u32 (.t 16),none⟩,.L),
     (⟨(some 18),.mov (.t 0),none⟩,.L),
     (⟨(some 19),.slcS 1 (.t 18) (some (.c (.int .i64 72))) (some (.c (.int .i64 76))) none,none⟩,.L),
     (⟨(some 20),.call k_purserref01_Number [(.t 19)],none⟩,.B []),
     (⟨(some 21),.conv .u32 (.t 20),none⟩,.L),
     (⟨(some 22),.mov (.t 0),none⟩,.L),
     (⟨(some 23),.slcS 1 (.t 22) (some (.c (.int .i64 76))) none none,none⟩,.L),
     (⟨(some 24),.call k_purserref01_Number [(.t 23)],none⟩,.B []),
     (⟨(some 25),.conv .u32 (.t 24),none⟩,.L),
     (⟨(some 26),.build [(.int .u32 0),(.int .u8 0),(.int .u8 0),(.int .u8 0),(.int .u8 0),(.int .u8 0),(.int .u8 0),(.int .u8 0),(.int .u8 0),(.int .u8 0),(.int .u8 0),(.int .u8 0),(.int .u8 0),(.int .u8 0),(.int .u8 0),(.int .u8 0),(.int .u8 0),(.int .u8 0),(.int .u8 0),(.int .u8 0),(.int .u8 0),(.int .u8 0),(.int .u8 0),(.int .u8 0),(.int .u8 0),(.int .u8 0),(.int .u8 0),(.int .u8 0),(.int .u8 0),(.int .u8 0),(.int .u8 0),(.int .u8 0),(.int .u8 0),(.int .u8 0),(.int .u8 0),(.int .u8 0),(.int .u8 0),(.int .u8 0),(.int .u8 0),(.int .u8 0),(.int .u8 0),(.int .u8 0),(.int .u8 0),(.int .u8 0),(.int .u8 0),(.int .u8 0),(.int .u8 0),(.int .u8 0),(.int .u8 0),(.int .u8 0),(.int .u8 0),(.int .u8 0),(.int .u8 0),(.int .u8 0),(.int .u8 0),(.int .u8 0),(.int .u8 0),(.int .u8 0),(.int .u8 0),(.int .u8 0),(.int .u8 0),(.int .u8 0),(.int .u8 0),(.int .u8 0),(.int .u8 0),(.int .u32 0),(.int .u32 0),(.int .u32 0)] [(0,1,(.t 13)),(65,1,(.t 17)),(66,1,(.t 21)),(67,1,(.t 25))],none⟩,.L),
     (⟨(some 4),.alloc [(.int .u32 0),(.int .u8 0),(.int .u8 0),(.int .u8 0),(.int .u8 0),(.int .u8 0),(.int .u8 0),(.int .u8 0),(.int .u8 0),(.int .u8 0),(.int .u8 0),(.int .u8 0),(.int .u8 0),(.int .u8 0),(.int .u8 0),(.int .u8 0),(.int .u8 0),(.int .u8 0),(.int .u8 0),(.int .u8 0),(.int .u8 0),(.int .u8 0),(.int .u8 0),(.int .u8 0),(.int .u8 0),(.int .u8 0),(.int .u8 0),(.int .u8 0),(.int .u8 0),(.int .u8 0),(.int .u8 0),(.int .u8 0),(.int .u8 0),(.int .u8 0),(.int .u8 0),(.int .u8 0),(.int .u8 0),(.int .u8 0),(.int .u8 0),(.int .u8 0),(.int .u8 0),(.int .u8 0),(.int .u8 0),(.int .u8 0),(.int .u8 0),(.int .u8 0),(.int .u8 0),(.int .u8 0),(.int .u8 0),(.int .u8 0),(.int .u8 0),(.int .u8 0),(.int .u8 0),(.int .u8 0),(.int .u8 0),(.int .u8 0),(.int .u8 0),(.int .u8 0),(.int .u8 0),(.int .u8 0),(.int .u8 0),(.int .u8 0),(.int .u8 0),(.int .u8 0),(.int .u8 0),(.int .u32 0),(.int .u32 0),(.int .u32 0)],none⟩,.Al 0),
     (⟨none,.store 68 (.t 4) (.t 26),none⟩,.B [0])])
  (.seq (.seq (.ops [⟨(some 5),.mov (.c (.int .i64 0)),none⟩])
   (.block 0 (.loop (L_purserref07_DecodeHeader_0))))
  (R_purserref07_DecodeHeader_0))))⟩
def L_purserref07_Read_0 : C := .seq (.seq (.ops [⟨(some 17),.mov (.t 7),none⟩,
              ⟨(some 18),.bin .lss .no (.t 17) (.c (.int .i64 16)),none⟩])
           (.cond (.t 18)
            (.skip)
            (.exit 2)))
          (.seq (.block 3 (.seq (.dops 0 [] [(⟨(some 21),.mov (.t 7),none⟩,.L),
               (⟨(some 22),.conv .u8 (.t 21),none⟩,.L),
               (⟨(some 23),.call k_purserref07_digit [(.t 22)],none⟩,.B []),
               (⟨(some 24),.mov (.t 0),none⟩,.L),
               (⟨(some 25),.mov (.t 5),none⟩,.L),
               (⟨(some 26),.idxStr (.t 24) (.t 25),none⟩,.L),
               (⟨(some 27),.bin .eql .no (.t 23) (.t 26),none⟩,.L)])
            (.cond (.t 27)
             (.ops [⟨(some 28),.mov (.t 7),none⟩,
                ⟨(some 6),.mov (.t 28),none⟩])
             (.skip))))
          (.ops [⟨(some 19),.mov (.t 7),none⟩,
            ⟨(some 20),.bin .add .no (.t 19) (.c (.int .i64 1)),none⟩,
            ⟨(some 7),.mov (.t 20),none⟩]))
def R_purserref07_Read_0 : C := .seq (.seq (.ops [⟨(some 29),.mov (.t 6),none⟩,
           ⟨(some 30),.bin .gtr .no (.t 29) (.c (.int .i64 15)),none⟩])
        (.cond (.t 30)
         (.seq (.ops [⟨(some 31),.build [(.int .u8 0),(.int .u8 0),(.int .u8 0),(.int .u8 0),(.int .u8 0),(.int .u8 0),(.int .u8 0),(.int .u8 0),(.int .u8 0),(.int .u8 0),(.int .u8 0),(.int .u8 0),(.int .u8 0),(.int .u8 0),(.int .u8 0),(.int .u8 0),(.int .u8 0),(.int .u8 0),(.int .u8 0),(.int .u8 0),(.int .u8 0),(.int .u8 0),(.int .u8 0),(.int .u8 0),(.int .u8 0),(.int .u8 0),(.int .u8 0),(.int .u8 0),(.int .u8 0),(.int .u8 0),(.int .u8 0),(.int .u8 0)] [],none⟩,
             ⟨none,.store 32 (.t 2) (.t 31),none⟩,
             ⟨(some 3),.mov (.c (.int .i64 70)),none⟩])
          (.ret))
         (.skip)))
       (.ops [⟨(some 32),.mov (.t 5),none⟩,
         ⟨(some 33),.bin .quo .no (.t 32) (.c (.int .i64 2)),none⟩,
         ⟨(some 34),.bin .sub .no (.c (.int .i64 31)) (.t 33),none⟩,
         ⟨(some 35),.mov (.t 5),none⟩,
         ⟨(some 36),.bin .quo .no (.t 35) (.c (.int .i64 2)),none⟩,
         ⟨(some 37),.bin .sub .no (.c (.int .i64 31)) (.t 36),none⟩,
         ⟨(some 38),.idxAddrA 32 1 (.t 4) (.t 37),none⟩,
         ⟨(some 39),.load none (.t 38),none⟩,
         ⟨(some 40),.bin .mul .no (.c (.int .u8 16)) (.t 39),none⟩,
         ⟨(some 41),.mov (.t 6),none⟩,
         ⟨(some 42),.conv .u8 (.t 41),none⟩,
         ⟨(some 43),.bin .add .no (.t 40) (.t 42),none⟩,
         ⟨(some 44),.idxAddrA 32 1 (.t 4) (.t 34),none⟩,
         ⟨none,.store 1 (.t 44) (.t 43),none⟩])
def R_purserref07_Read_1 : C := .ops [⟨(some 15),.mov (.t 5),none⟩,
       ⟨(some 16),.bin .add .no (.t 15) (.c (.int .i64 1)),none⟩,
       ⟨(some 5),.mov (.t 16),none⟩]
def L_purserref07_Read_1 : C := .seq (.seq (.ops [⟨(some 13),.mov (.t 5),none⟩,
         ⟨(some 14),.bin .lss .no (.t 13) (.c (.int .i64 64)),none⟩])
      (.cond (.t 14)
       (.skip)
       (.exit 0)))
     (.seq (.block 1 (.seq (.ops [⟨(some 6),.mov (.c (.int .i64 16)),none⟩])
       (.seq (.seq (.ops [⟨(some 7),.mov (.c (.int .i64 0)),none⟩])
        (.block 2 (.loop (L_purserref07_Read_0))))
       (R_purserref07_Read_0))))
     (R_purserref07_Read_1))
def R_purserref07_Read_2 : C := .seq (.ops [⟨(some 45),.load (some 32) (.t 4),none⟩,
     ⟨none,.store 32 (.t 2) (.t 45),none⟩,
     ⟨(some 3),.mov (.c (.int .i64 0)),none⟩])
  (.ret)
/-- purser/purserref07.Read -/
def f_purserref07_Read : Fn := ⟨46,[.cell 2 (some 32),.tmp 3],
  .seq (.ops [⟨(some 2),.alloc [(.int .u8 0),(.int .u8 0),(.int .u8 0),(.int .u8 0),(.int .u8 0),(.int .u8 0),(.int .u8 0),(.int .u8 0),(.int .u8 0),(.int .u8 0),(.int .u8 0),(.int .u8 0),(.int .u8 0),(.int .u8 0),(.int .u8 0),(.int .u8 0),(.int .u8 0),(.int .u8 0),(.int .u8 0),(.int .u8 0),(.int .u8 0),(.int .u8 0),(.int .u8 0),(.int .u8 0),(.int .u8 0),(.int .u8 0),(.int .u8 0),(.int .u8 0),(.int .u8 0),(.int .u8 0),(.int .u8 0),(.int .u8 0)],none⟩,
     ⟨(some 3),.mov (.c (.int .i64 0)),none⟩])
  (.seq (.ops [⟨(some 8),.build [(.int .u8 0),(.int .u8 0),(.int .u8 0),(.int .u8 0),(.int .u8 0),(.int .u8 0),(.int .u8 0),(.int .u8 0),(.int .u8 0),(.int .u8 0),(.int .u8 0),(.int .u8 0),(.int .u8 0),(.int .u8 0),(.int .u8 0),(.int .u8 0),(.int .u8 0),(.int .u8 0),(.int .u8 0),(.int .u8 0),(.int .u8 0),(.int .u8 0),(.int .u8 0),(.int .u8 0),(.int .u8 0),(.int .u8 0),(.int .u8 0),(.int .u8 0),(.int .u8 0),(.int .u8 0),(.int .u8 0),(.int .u8 0)] [],none⟩,
     ⟨(some 4),.alloc [(.int .u8 0),(.int .u8 0),(.int .u8 0),(.int .u8 0),(.int .u8 0),(.int .u8 0),(.int .u8 0),(.int .u8 0),(.int .u8 0),(.int .u8 0),(.int .u8 0),(.int .u8 0),(.int .u8 0),(.int .u8 0),(.int .u8 0),(.int .u8 0),(.int .u8 0),(.int .u8 0),(.int .u8 0),(.int .u8 0),(.int .u8 0),(.int .u8 0),(.int .u8 0),(.int .u8 0),(.int .u8 0),(.int .u8 0),(.int .u8 0),(.int .u8 0),(.int .u8 0),(.int .u8 0),(.int .u8 0),(.int .u8 0)],none⟩,
     ⟨none,.store 32 (.t 4) (.t 8),none⟩])
  (.seq (.seq (.ops [⟨(some 9),.mov (.t 0),none⟩,
      ⟨(some 10),.len true (.t 9),none⟩,
      ⟨(some 11),.bin .neq .no (.t 10) (.c (.int .i64 64)),none⟩])
   (.cond (.t 11)
    (.seq (.ops [⟨(some 12),.load (some 32) (.t 4),none⟩,
        ⟨none,.store 32 (.t 2) (.t 12),none⟩,
        ⟨(some 3),.mov (.c (.int .i64 70)),none⟩])
     (.ret))
    (.skip)))
  (.seq (.seq (.ops [⟨(some 5),.mov (.c (.int .i64 0)),none⟩])
   (.block 0 (.loop (L_purserref07_Read_1))))
  (R_purserref07_Read_2))))⟩
/-- purser/purserref07.Header -/
def f_purserref07_Header : Fn := ⟨29,[.tmp 2],
  .seq (.ops [⟨(some 1),.box (.t 0),none⟩,
     ⟨(some 2),.mov (.c (.slice none 0 (some 0) 0)),none⟩])
  (.seq (.dops 0 [] [(⟨(some 4),.fieldAddr 0 (.t 1),none⟩,.L),
     (⟨(some 5),.load none (.t 4),none⟩,.R [] []),
     (⟨(some 6),.call k_purserref07_num [(.t 5)],none⟩,.B []),
     (⟨(some 7),.fieldAddr 1 (.t 1),none⟩,.L),
     (⟨(some 8),.slcA 32 1 (.t 7) none none none,none⟩,.R [] [(2,[])]),
     (⟨(some 9),.append 1 1 (.t 6) (.t 8),none⟩,.B []),
     (⟨(some 3),.mov (.t 9),none⟩,.L)])
  (.seq (.ops [⟨(some 10),.mov (.t 3),none⟩,
     ⟨(some 11),.fieldAddr 33 (.t 1),none⟩,
     ⟨(some 12),.slcA 32 1 (.t 11) none none none,none⟩,
     ⟨(some 13),.append 1 1 (.t 10) (.t 12),none⟩,
     ⟨(some 3),.mov (.t 13),none⟩])
  (.seq (.ops [⟨(some 14),.mov (.t 3),none⟩,
     ⟨(some 15),.fieldAddr 65 (.t 1),none⟩,
     ⟨(some 16),.load none (.t 15),none⟩,
     ⟨(some 17),.call k_purserref07_num [(.t 16)],none⟩,
     ⟨(some 18),.append 1 1 (.t 14) (.t 17),none⟩,
     ⟨(some 3),.mov (.t 18),none⟩])
  (.seq (.ops [⟨(some 19),.mov (.t 3),none⟩,
     ⟨(some 20),.fieldAddr 66 (.t 1),none⟩,
     ⟨(some 21),.load none (.t 20),none⟩,
     ⟨(some 22),.call k_purserref07_num [(.t 21)],none⟩,
     ⟨(some 23),.append 1 1 (.t 19) (.t 22),none⟩,
     ⟨(some 3),.mov (.t 23),none⟩])
  (.seq (.ops [⟨(some 24),.mov (.t 3),none⟩,
     ⟨(some 25),.fieldAddr 67 (.t 1),none⟩,
     ⟨(some 26),.load none (.t 25),none⟩,
     ⟨(some 27),.call k_purserref07_num [(.t 26)],none⟩,
     ⟨(some 28),.append 1 1 (.t 24) (.t 27),none⟩,
     ⟨(some 2),.mov (.t 28),none⟩])
  (.ret))))))⟩
/-- purser/purserref07.Hash -/
def f_purserref07_Hash : Fn := ⟨6,[.cell 2 (some 32)],
  .seq (.ops [⟨(some 1),.box (.t 0),none⟩,
     ⟨(some 2),.alloc [(.int .u8 0),(.int .u8 0),(.int .u8 0),(.int .u8 0),(.int .u8 0),(.int .u8 0),(.int .u8 0),(.int .u8 0),(.int .u8 0),(.int .u8 0),(.int .u8 0),(.int .u8 0),(.int .u8 0),(.int .u8 0),(.int .u8 0),(.int .u8 0),(.int .u8 0),(.int .u8 0),(.int .u8 0),(.int .u8 0),(.int .u8 0),(.int .u8 0),(.int .u8 0),(.int .u8 0),(.int .u8 0),(.int .u8 0),(.int .u8 0),(.int .u8 0),(.int .u8 0),(.int .u8 0),(.int .u8 0),(.int .u8 0)],none⟩])
  (.seq (.ops [⟨(some 3),.load (some 68) (.t 1),none⟩,
     ⟨(some 4),.call k_purserref07_Header [(.t 3)],none⟩,
     ⟨(some 5),.call k_purserref04_Twice [(.t 4)],none⟩,
     ⟨none,.store 32 (.t 2) (.t 5),none⟩])
  (.ret))⟩
def L_purserref07_Show_0 : C := .seq (.seq (.ops [⟨(some 5),.mov (.t 4),none⟩,
         ⟨(some 6),.bin .geq .no (.t 5) (.c (.int .i64 0)),none⟩])
      (.cond (.t 6)
       (.skip)
       (.exit 0)))
     (.seq (.block 1 (.dops 1 [] [(⟨(some 9),.mov (.t 3),none⟩,.L),
         (⟨(some 10),.mov (.t 4),none⟩,.L),
         (⟨(some 11),.idxAddrA 32 1 (.t 1) (.t 10),none⟩,.L),
         (⟨(some 12),.load none (.t 11),none⟩,.R [] []),
         (⟨(some 13),.bin .quo .no (.t 12) (.c (.int .u8 16)),none⟩,.L),
         (⟨(some 14),.call k_purserref07_digit [(.t 13)],none⟩,.B []),
         (⟨(some 15),.mov (.t 4),none⟩,.L),
         (⟨(some 16),.idxAddrA 32 1 (.t 1) (.t 15),none⟩,.L),
         (⟨(some 17),.load none (.t 16),none⟩,.R [] [(3,[])]),
         (⟨(some 18),.bin .rem .no (.t 17) (.c (.int .u8 16)),none⟩,.L),
         (⟨(some 19),.call k_purserref07_digit [(.t 18)],none⟩,.B []),
         (⟨(some 20),.buildS [(.int .u8 0),(.int .u8 0)] 2 1 [(0,1,(.t 14)),(1,1,(.t 19))],none⟩,.Al 0),
         (⟨(some 21),.append 1 1 (.t 9) (.t 20),none⟩,.B [0]),
         (⟨(some 3),.mov (.t 21),none⟩,.L)]))
     (.ops [⟨(some 7),.mov (.t 4),none⟩,
       ⟨(some 8),.bin .sub .no (.t 7) (.c (.int .i64 1)),none⟩,
       ⟨(some 4),.mov (.t 8),none⟩]))
def R_purserref07_Show_0 : C := .seq (.ops [⟨(some 22),.mov (.t 3),none⟩,
     ⟨(some 23),.b2s (.t 22),none⟩,
     ⟨(some 2),.mov (.t 23),none⟩])
  (.ret)
/-- purser/purserref07.Show -/
def f_purserref07_Show : Fn := ⟨24,[.tmp 2],
  .seq (.ops [⟨(some 1),.box (.t 0),none⟩,
     ⟨(some 2),.mov (.c (.str [])),none⟩])
  (.seq (.ops [⟨(some 3),.mov (.c (.slice none 0 (some 0) 0)),none⟩])
  (.seq (.seq (.ops [⟨(some 4),.mov (.c (.int .i64 31)),none⟩])
   (.block 0 (.loop (L_purserref07_Show_0))))
  (R_purserref07_Show_0)))⟩
def L_purserref01_Number_0 : C := .seq (.seq (.ops [⟨(some 5),.mov (.t 4),none⟩,
         ⟨(some 6),.mov (.t 0),none⟩,
         ⟨(some 7),.len false (.t 6),none⟩,
         ⟨(some 8),.bin .lss .no (.t 5) (.t 7),none⟩])
      (.cond (.t 8)
       (.skip)
       (.exit 0)))
     (.seq (.block 1 (.dops 0 [] [(⟨(some 11),.mov (.t 3),none⟩,.L),
         (⟨(some 12),.mov (.t 0),none⟩,.L),
         (⟨(some 13),.mov (.t 4),none⟩,.L),
         (⟨(some 14),.idxAddrS 1 (.t 12) (.t 13),none⟩,.L),
         (⟨(some 15),.load none (.t 14),none⟩,.R [] [(0,[])]),
         (⟨(some 16),.conv .u64 (.t 15),none⟩,.L),
         (⟨(some 17),.mov (.t 4),none⟩,.L),
         (⟨(some 18),.call k_purserref01_power [(.t 17)],none⟩,.B []),
         (⟨(some 19),.bin .mul .no (.t 16) (.t 18),none⟩,.L),
         (⟨(some 20),.bin .add .no (.t 11) (.t 19),none⟩,.L),
         (⟨(some 3),.mov (.t 20),none⟩,.L)]))
     (.ops [⟨(some 9),.mov (.t 4),none⟩,
       ⟨(some 10),.bin .add .no (.t 9) (.c (.int .i64 1)),none⟩,
       ⟨(some 4),.mov (.t 10),none⟩]))
def R_purserref01_Number_0 : C := .seq (.ops [⟨(some 21),.mov (.t 3),none⟩,
     ⟨(some 2),.mov (.t 21),none⟩])
  (.ret)
/-- purser/purserref01.Number -/
def f_purserref01_Number : Fn := ⟨22,[.tmp 2],
  .seq (.ops [⟨(some 2),.mov (.c (.int .u64 0)),none⟩])
  (.seq (.ops [⟨(some 3),.mov (.c (.int .u64 0)),none⟩])
  (.seq (.seq (.ops [⟨(some 4),.mov (.c (.int .i64 0)),none⟩])
   (.block 0 (.loop (L_purserref01_Number_0))))
  (R_purserref01_Number_0)))⟩
/-- purser/purserref07.digit -/
def f_purserref07_digit : Fn := ⟨10,[.tmp 2],
  .seq (.ops [⟨(some 2),.mov (.c (.int .u8 0)),none⟩])
  (.seq (.seq (.ops [⟨(some 3),.mov (.t 0),none⟩,
      ⟨(some 4),.bin .lss .no (.t 3) (.c (.int .u8 10)),none⟩])
   (.cond (.t 4)
    (.seq (.ops [⟨(some 5),.mov (.t 0),none⟩,
        ⟨(some 6),.bin .add .no (.c (.int .u8 48)) (.t 5),none⟩,
        ⟨(some 2),.mov (.t 6),none⟩])
     (.ret))
    (.skip)))
  (.seq (.ops [⟨(some 7),.mov (.t 0),none⟩,
     ⟨(some 8),.bin .add .no (.c (.int .u8 97)) (.t 7),none⟩,
     ⟨(some 9),.bin .sub .no (.t 8) (.c (.int .u8 10)),none⟩,
     ⟨(some 2),.mov (.t 9),none⟩])
  (.ret)))⟩
/-- purser/purserref07.num -/
def f_purserref07_num : Fn := ⟨12,[.tmp 2],
  .seq (.ops [⟨(some 2),.mov (.c (.slice none 0 (some 0) 0)),none⟩])
  (.seq (.ops [⟨(some 6),.mov (.t 0),none⟩,
     ⟨(some 7),.conv .u64 (.t 6),none⟩,
     ⟨(some 8),.call k_purserref01_Fixed [(.c (.int .i64 4)),(.t 7)],none⟩,
     ⟨(some 5),.mov (.t 8),none⟩,
     ⟨(some 9),.ext (.t 5) 0,none⟩,
     ⟨(some 10),.ext (.t 5) 1,none⟩,
     ⟨(some 3),.mov (.t 9),none⟩,
     ⟨(some 4),.mov (.t 10),none⟩])
  (.seq (.ops [⟨(some 11),.mov (.t 3),none⟩,
     ⟨(some 2),.mov (.t 11),none⟩])
  (.ret)))⟩

end Go.Eng
