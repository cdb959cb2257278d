/- Functions of the program,as the evaluator takes them: printed by program. -/
import Derived.Test.YtfopajklnakmpaaBtS
namespace Go.Eng
open Go
/-- purser/purserlaw06.TxReads -/
abbrev k_purserlaw06_TxReads : Nat := 6
/-- purser/purserref06.First -/
abbrev k_purserref06_First : Nat := 39
/-- purser/purserref06.Decode -/
abbrev k_purserref06_Decode : Nat := 41
/-- purser/purserref01.GetFixed -/
abbrev k_purserref01_GetFixed : Nat := 86
/-- purser/purserref01.GetSize -/
abbrev k_purserref01_GetSize : Nat := 87
/-- purser/purserref06.in -/
abbrev k_purserref06_in : Nat := 88
/-- purser/purserref06.out -/
abbrev k_purserref06_out : Nat := 89
/-- purser/purserref01.Number -/
abbrev k_purserref01_Number : Nat := 95
/-- purser/purserref01.GetRaw -/
abbrev k_purserref01_GetRaw : Nat := 120
/-- purser/purserref01.GetBytes -/
abbrev k_purserref01_GetBytes : Nat := 121
def L_purserlaw06_TxReads_0 : C := .seq (.ops [⟨(some 93),.bin .lss .no (.t 92) (.t 91),none⟩])
         (.seq (.cond (.t 93)
           (.skip)
           (.exit 2))
         (.seq (.block 3 (.seq (.ops [⟨(some 94),.mov (.t 92),none⟩,
              ⟨(some 15),.mov (.t 94),none⟩])
           (.ops [⟨(some 95),.fieldAddr 1 (.t 4),none⟩,
             ⟨(some 96),.load none (.t 95),none⟩,
             ⟨(some 97),.mov (.t 14),none⟩,
             ⟨(some 98),.idxAddrS 35 (.t 96) (.t 97),none⟩,
             ⟨(some 99),.fieldAddr 33 (.t 98),none⟩,
             ⟨(some 100),.load none (.t 99),none⟩,
             ⟨(some 101),.mov (.t 15),none⟩,
             ⟨(some 102),.idxAddrS 1 (.t 100) (.t 101),none⟩,
             ⟨(some 103),.load none (.t 102),none⟩,
             ⟨(some 104),.bin .add .no (.t 103) (.c (.int .u8 1)),none⟩,
             ⟨(some 105),.idxAddrS 1 (.t 100) (.t 101),none⟩,
             ⟨none,.store 1 (.t 105) (.t 104),none⟩])))
         (.ops [⟨(some 106),.bin .add .no (.t 92) (.c (.int .i64 1)),none⟩,
           ⟨(some 92),.mov (.t 106),none⟩])))
def R_purserlaw06_TxReads_0 : C := .ops [⟨(some 107),.bin .add .no (.t 82) (.c (.int .i64 1)),none⟩,
       ⟨(some 82),.mov (.t 107),none⟩]
def L_purserlaw06_TxReads_1 : C := .seq (.ops [⟨(some 83),.bin .lss .no (.t 82) (.t 81),none⟩])
     (.seq (.cond (.t 83)
       (.skip)
       (.exit 0))
     (.seq (.block 1 (.seq (.ops [⟨(some 84),.mov (.t 82),none⟩,
          ⟨(some 14),.mov (.t 84),none⟩])
       (.seq (.ops [⟨(some 85),.fieldAddr 1 (.t 4),none⟩,
          ⟨(some 86),.load none (.t 85),none⟩,
          ⟨(some 87),.mov (.t 14),none⟩,
          ⟨(some 88),.idxAddrS 35 (.t 86) (.t 87),none⟩,
          ⟨(some 89),.fieldAddr 33 (.t 88),none⟩,
          ⟨(some 90),.load none (.t 89),none⟩,
          ⟨(some 91),.len false (.t 90),none⟩,
          ⟨(some 92),.mov (.c (.int .i64 0)),none⟩])
       (.block 2 (.loop (L_purserlaw06_TxReads_0))))))
     (R_purserlaw06_TxReads_0)))
def L_purserlaw06_TxReads_2 : C := .seq (.ops [⟨(some 122),.bin .lss .no (.t 121) (.t 120),none⟩])
         (.seq (.cond (.t 122)
           (.skip)
           (.exit 6))
         (.seq (.block 7 (.seq (.ops [⟨(some 123),.mov (.t 121),none⟩,
              ⟨(some 17),.mov (.t 123),none⟩])
           (.ops [⟨(some 124),.fieldAddr 2 (.t 4),none⟩,
             ⟨(some 125),.load none (.t 124),none⟩,
             ⟨(some 126),.mov (.t 16),none⟩,
             ⟨(some 127),.idxAddrS 2 (.t 125) (.t 126),none⟩,
             ⟨(some 128),.fieldAddr 1 (.t 127),none⟩,
             ⟨(some 129),.load none (.t 128),none⟩,
             ⟨(some 130),.mov (.t 17),none⟩,
             ⟨(some 131),.idxAddrS 1 (.t 129) (.t 130),none⟩,
             ⟨(some 132),.load none (.t 131),none⟩,
             ⟨(some 133),.bin .add .no (.t 132) (.c (.int .u8 1)),none⟩,
             ⟨(some 134),.idxAddrS 1 (.t 129) (.t 130),none⟩,
             ⟨none,.store 1 (.t 134) (.t 133),none⟩])))
         (.ops [⟨(some 135),.bin .add .no (.t 121) (.c (.int .i64 1)),none⟩,
           ⟨(some 121),.mov (.t 135),none⟩])))
def R_purserlaw06_TxReads_1 : C := .ops [⟨(some 136),.bin .add .no (.t 111) (.c (.int .i64 1)),none⟩,
       ⟨(some 111),.mov (.t 136),none⟩]
def L_purserlaw06_TxReads_3 : C := .seq (.ops [⟨(some 112),.bin .lss .no (.t 111) (.t 110),none⟩])
     (.seq (.cond (.t 112)
       (.skip)
       (.exit 4))
     (.seq (.block 5 (.seq (.ops [⟨(some 113),.mov (.t 111),none⟩,
          ⟨(some 16),.mov (.t 113),none⟩])
       (.seq (.ops [⟨(some 114),.fieldAddr 2 (.t 4),none⟩,
          ⟨(some 115),.load none (.t 114),none⟩,
          ⟨(some 116),.mov (.t 16),none⟩,
          ⟨(some 117),.idxAddrS 2 (.t 115) (.t 116),none⟩,
          ⟨(some 118),.fieldAddr 1 (.t 117),none⟩,
          ⟨(some 119),.load none (.t 118),none⟩,
          ⟨(some 120),.len false (.t 119),none⟩,
          ⟨(some 121),.mov (.c (.int .i64 0)),none⟩])
       (.block 6 (.loop (L_purserlaw06_TxReads_2))))))
     (R_purserlaw06_TxReads_1)))
def R_purserlaw06_TxReads_2 : C := .seq (.ops [⟨(some 137),.mov (.t 3),none⟩,
     ⟨(some 138),.b2s (.t 137),none⟩,
     ⟨(some 139),.mov (.t 0),none⟩,
     ⟨(some 140),.b2s (.t 139),none⟩,
     ⟨(some 141),.bin .add .no (.t 140) (.c (.str [7])),none⟩,
     ⟨(some 142),.bin .eql .no (.t 138) (.t 141),none⟩,
     ⟨(some 2),.mov (.t 142),none⟩])
  (.ret)
def R_purserlaw06_TxReads_3 : C := .seq (.seq (.ops [⟨(some 108),.fieldAddr 2 (.t 4),none⟩,
      ⟨(some 109),.load none (.t 108),none⟩,
      ⟨(some 110),.len false (.t 109),none⟩,
      ⟨(some 111),.mov (.c (.int .i64 0)),none⟩])
   (.block 4 (.loop (L_purserlaw06_TxReads_3))))
  (R_purserlaw06_TxReads_2)
/-- purser/purserlaw06.TxReads -/
def f_purserlaw06_TxReads : Fn := ⟨143,[.tmp 2],
  .seq (.ops [⟨(some 2),.mov (.c (.bool false)),none⟩])
  (.seq (.seq (.ops [⟨(some 18),.mov (.t 0),none⟩,
      ⟨(some 19),.len false (.t 18),none⟩,
      ⟨(some 20),.bin .gtr .no (.t 19) (.c (.int .i64 5000)),none⟩])
   (.cond (.t 20)
    (.seq (.ops [⟨(some 2),.mov (.c (.bool true)),none⟩])
     (.ret))
    (.skip)))
  (.seq (.ops [⟨(some 21),.buildS [] 0 1 [],none⟩,
     ⟨(some 22),.mov (.t 0),none⟩,
     ⟨(some 23),.append 1 1 (.t 21) (.t 22),none⟩,
     ⟨(some 24),.buildS [(.int .u8 0)] 1 1 [(0,1,(.c (.int .u8 7)))],none⟩,
     ⟨(some 25),.append 1 1 (.t 23) (.t 24),none⟩,
     ⟨(some 3),.mov (.t 25),none⟩])
  (.seq (.ops [⟨(some 27),.mov (.t 3),none⟩,
     ⟨(some 28),.mov (.t 0),none⟩,
     ⟨(some 29),.len false (.t 28),none⟩,
     ⟨(some 30),.slcS 1 (.t 27) none (some (.t 29)) none,none⟩,
     ⟨(some 31),.call k_tx_First [(.t 30)],none⟩,
     ⟨(some 26),.mov (.t 31),none⟩,
     ⟨(some 32),.ext (.t 26) 0,none⟩,
     ⟨(some 33),.ext (.t 26) 1,none⟩,
     ⟨(some 34),.ext (.t 26) 2,none⟩,
     ⟨(some 4),.alloc [(.int .u32 0),(.slice none 0 (some 0) 0),(.slice none 0 (some 0) 0),(.int .u32 0)],none⟩,
     ⟨none,.store 4 (.t 4) (.t 32),none⟩,
     ⟨(some 5),.mov (.t 33),none⟩,
     ⟨(some 6),.mov (.t 34),none⟩])
  (.seq (.ops [⟨(some 36),.mov (.t 0),none⟩,
     ⟨(some 37),.call k_purserref06_First [(.t 36)],none⟩,
     ⟨(some 35),.mov (.t 37),none⟩,
     ⟨(some 38),.ext (.t 35) 0,none⟩,
     ⟨(some 39),.ext (.t 35) 1,none⟩,
     ⟨(some 40),.ext (.t 35) 2,none⟩,
     ⟨(some 7),.alloc [(.int .u32 0),(.slice none 0 (some 0) 0),(.slice none 0 (some 0) 0),(.int .u32 0)],none⟩,
     ⟨none,.store 4 (.t 7) (.t 38),none⟩,
     ⟨(some 8),.mov (.t 39),none⟩,
     ⟨(some 9),.mov (.t 40),none⟩])
  (.seq (.ops [⟨(some 42),.mov (.t 3),none⟩,
     ⟨(some 43),.mov (.t 0),none⟩,
     ⟨(some 44),.len false (.t 43),none⟩,
     ⟨(some 45),.slcS 1 (.t 42) none (some (.t 44)) none,none⟩,
     ⟨(some 46),.call k_tx_Decode [(.t 45)],none⟩,
     ⟨(some 41),.mov (.t 46),none⟩,
     ⟨(some 47),.ext (.t 41) 0,none⟩,
     ⟨(some 48),.ext (.t 41) 1,none⟩,
     ⟨(some 10),.alloc [(.int .u32 0),(.slice none 0 (some 0) 0),(.slice none 0 (some 0) 0),(.int .u32 0)],none⟩,
     ⟨none,.store 4 (.t 10) (.t 47),none⟩,
     ⟨(some 11),.mov (.t 48),none⟩])
  (.seq (.ops [⟨(some 50),.mov (.t 0),none⟩,
     ⟨(some 51),.call k_purserref06_Decode [(.t 50)],none⟩,
     ⟨(some 49),.mov (.t 51),none⟩,
     ⟨(some 52),.ext (.t 49) 0,none⟩,
     ⟨(some 53),.ext (.t 49) 1,none⟩,
     ⟨(some 12),.alloc [(.int .u32 0),(.slice none 0 (some 0) 0),(.slice none 0 (some 0) 0),(.int .u32 0)],none⟩,
     ⟨none,.store 4 (.t 12) (.t 52),none⟩,
     ⟨(some 13),.mov (.t 53),none⟩])
  (.seq (.seq (.ops [⟨(some 54),.load (some 4) (.t 4),none⟩,
      ⟨(some 55),.load (some 4) (.t 7),none⟩,
      ⟨(some 56),.call k_purserref06_Same [(.t 54),(.t 55)],none⟩,
      ⟨(some 57),.un .not (.t 56),none⟩,
      ⟨(some 58),.mov (.t 57),none⟩,
      ⟨(some 59),.mov (.t 5),(some (58,false))⟩,
      ⟨(some 60),.mov (.t 8),(some (58,false))⟩,
      ⟨(some 61),.bin .neq .no (.t 59) (.t 60),(some (58,false))⟩,
      ⟨(some 62),.pick (.t 58) (.c (.bool true)) (.t 61),none⟩,
      ⟨(some 63),.mov (.t 62),none⟩,
      ⟨(some 64),.mov (.t 6),(some (63,false))⟩,
      ⟨(some 65),.mov (.t 9),(some (63,false))⟩,
      ⟨(some 66),.bin .neq .no (.t 64) (.t 65),(some (63,false))⟩,
      ⟨(some 67),.pick (.t 63) (.c (.bool true)) (.t 66),none⟩,
      ⟨(some 68),.mov (.t 67),none⟩,
      ⟨(some 69),.load (some 4) (.t 10),(some (68,false))⟩,
      ⟨(some 70),.load (some 4) (.t 12),(some (68,false))⟩,
      ⟨(some 71),.call k_purserref06_Same [(.t 69),(.t 70)],(some (68,false))⟩,
      ⟨(some 72),.un .not (.t 71),(some (68,false))⟩,
      ⟨(some 73),.pick (.t 68) (.c (.bool true)) (.t 72),none⟩,
      ⟨(some 74),.mov (.t 73),none⟩,
      ⟨(some 75),.mov (.t 11),(some (74,false))⟩,
      ⟨(some 76),.mov (.t 13),(some (74,false))⟩,
      ⟨(some 77),.bin .neq .no (.t 75) (.t 76),(some (74,false))⟩,
      ⟨(some 78),.pick (.t 74) (.c (.bool true)) (.t 77),none⟩])
   (.cond (.t 78)
    (.seq (.ops [⟨(some 2),.mov (.c (.bool false)),none⟩])
     (.ret))
    (.skip)))
  (.seq (.seq (.ops [⟨(some 79),.fieldAddr 1 (.t 4),none⟩,
      ⟨(some 80),.load none (.t 79),none⟩,
      ⟨(some 81),.len false (.t 80),none⟩,
      ⟨(some 82),.mov (.c (.int .i64 0)),none⟩])
   (.block 0 (.loop (L_purserlaw06_TxReads_1))))
  (R_purserlaw06_TxReads_3)))))))))⟩
def L_purserref06_First_0 : C := .seq (.seq (.ops [⟨(some 45),.mov (.t 10),none⟩,
         ⟨(some 46),.mov (.t 9),none⟩,
         ⟨(some 47),.conv .i64 (.t 46),none⟩,
         ⟨(some 48),.bin .lss .no (.t 45) (.t 47),none⟩])
      (.cond (.t 48)
       (.skip)
       (.exit 0)))
     (.seq (.block 1 (.seq (.ops [⟨(some 52),.mov (.t 0),none⟩,
          ⟨(some 53),.mov (.t 7),none⟩,
          ⟨(some 54),.call k_purserref06_in [(.t 52),(.t 53)],none⟩,
          ⟨(some 51),.mov (.t 54),none⟩,
          ⟨(some 55),.ext (.t 51) 0,none⟩,
          ⟨(some 56),.ext (.t 51) 1,none⟩,
          ⟨(some 11),.alloc [(.int .u8 0),(.int .u8 0),(.int .u8 0),(.int .u8 0),(.int .u8 0),(.int .u8 0),(.int .u8 0),(.int .u8 0),(.int .u8 0),(.int .u8 0),(.int .u8 0),(.int .u8 0),(.int .u8 0),(.int .u8 0),(.int .u8 0),(.int .u8 0),(.int .u8 0),(.int .u8 0),(.int .u8 0),(.int .u8 0),(.int .u8 0),(.int .u8 0),(.int .u8 0),(.int .u8 0),(.int .u8 0),(.int .u8 0),(.int .u8 0),(.int .u8 0),(.int .u8 0),(.int .u8 0),(.int .u8 0),(.int .u8 0),(.int .u32 0),(.slice none 0 (some 0) 0),(.int .u32 0)],none⟩,
          ⟨none,.store 35 (.t 11) (.t 55),none⟩,
          ⟨(some 12),.mov (.t 56),none⟩])
       (.seq (.seq (.ops [⟨(some 57),.mov (.t 12),none⟩,
           ⟨(some 58),.bin .lss .no (.t 57) (.c (.int .i64 0)),none⟩])
        (.cond (.t 58)
         (.seq (.ops [⟨(some 59),.build [(.int .u32 0),(.slice none 0 (some 0) 0),(.slice none 0 (some 0) 0),(.int .u32 0)] [],none⟩,
             ⟨none,.store 4 (.t 2) (.t 59),none⟩,
             ⟨(some 3),.mov (.c (.int .i64 0)),none⟩,
             ⟨(some 4),.mov (.c (.int .i64 60)),none⟩])
          (.ret))
         (.skip)))
       (.seq (.ops [⟨(some 60),.fieldAddr 1 (.t 5),none⟩,
          ⟨(some 61),.load none (.t 60),none⟩,
          ⟨(some 62),.load (some 35) (.t 11),none⟩,
          ⟨(some 63),.buildS [(.int .u8 0),(.int .u8 0),(.int .u8 0),(.int .u8 0),(.int .u8 0),(.int .u8 0),(.int .u8 0),(.int .u8 0),(.int .u8 0),(.int .u8 0),(.int .u8 0),(.int .u8 0),(.int .u8 0),(.int .u8 0),(.int .u8 0),(.int .u8 0),(.int .u8 0),(.int .u8 0),(.int .u8 0),(.int .u8 0),(.int .u8 0),(.int .u8 0),(.int .u8 0),(.int .u8 0),(.int .u8 0),(.int .u8 0),(.int .u8 0),(.int .u8 0),(.int .u8 0),(.int .u8 0),(.int .u8 0),(.int .u8 0),(.int .u32 0),(.slice none 0 (some 0) 0),(.int .u32 0)] 1 35 [(0,35,(.t 62))],none⟩,
          ⟨(some 64),.append 35 72 (.t 61) (.t 63),none⟩,
          ⟨(some 65),.fieldAddr 1 (.t 5),none⟩,
          ⟨none,.store 1 (.t 65) (.t 64),none⟩])
       (.ops [⟨(some 66),.mov (.t 12),none⟩,
         ⟨(some 7),.mov (.t 66),none⟩])))))
     (.ops [⟨(some 49),.mov (.t 10),none⟩,
       ⟨(some 50),.bin .add .no (.t 49) (.c (.int .i64 1)),none⟩,
       ⟨(some 10),.mov (.t 50),none⟩]))
def L_purserref06_First_1 : C := .seq (.seq (.ops [⟨(some 85),.mov (.t 13),none⟩,
         ⟨(some 86),.mov (.t 9),none⟩,
         ⟨(some 87),.conv .i64 (.t 86),none⟩,
         ⟨(some 88),.bin .lss .no (.t 85) (.t 87),none⟩])
      (.cond (.t 88)
       (.skip)
       (.exit 2)))
     (.seq (.block 3 (.seq (.ops [⟨(some 92),.mov (.t 0),none⟩,
          ⟨(some 93),.mov (.t 7),none⟩,
          ⟨(some 94),.call k_purserref06_out [(.t 92),(.t 93)],none⟩,
          ⟨(some 91),.mov (.t 94),none⟩,
          ⟨(some 95),.ext (.t 91) 0,none⟩,
          ⟨(some 96),.ext (.t 91) 1,none⟩,
          ⟨(some 14),.alloc [(.int .i64 0),(.slice none 0 (some 0) 0)],none⟩,
          ⟨none,.store 2 (.t 14) (.t 95),none⟩,
          ⟨(some 15),.mov (.t 96),none⟩])
       (.seq (.seq (.ops [⟨(some 97),.mov (.t 15),none⟩,
           ⟨(some 98),.bin .lss .no (.t 97) (.c (.int .i64 0)),none⟩])
        (.cond (.t 98)
         (.seq (.ops [⟨(some 99),.build [(.int .u32 0),(.slice none 0 (some 0) 0),(.slice none 0 (some 0) 0),(.int .u32 0)] [],none⟩,
             ⟨none,.store 4 (.t 2) (.t 99),none⟩,
             ⟨(some 3),.mov (.c (.int .i64 0)),none⟩,
             ⟨(some 4),.mov (.c (.int .i64 60)),none⟩])
          (.ret))
         (.skip)))
       (.seq (.ops [⟨(some 100),.fieldAddr 2 (.t 5),none⟩,
          ⟨(some 101),.load none (.t 100),none⟩,
          ⟨(some 102),.load (some 2) (.t 14),none⟩,
          ⟨(some 103),.buildS [(.int .i64 0),(.slice none 0 (some 0) 0)] 1 2 [(0,2,(.t 102))],none⟩,
          ⟨(some 104),.append 2 32 (.t 101) (.t 103),none⟩,
          ⟨(some 105),.fieldAddr 2 (.t 5),none⟩,
          ⟨none,.store 1 (.t 105) (.t 104),none⟩])
       (.ops [⟨(some 106),.mov (.t 15),none⟩,
         ⟨(some 7),.mov (.t 106),none⟩])))))
     (.ops [⟨(some 89),.mov (.t 13),none⟩,
       ⟨(some 90),.bin .add .no (.t 89) (.c (.int .i64 1)),none⟩,
       ⟨(some 13),.mov (.t 90),none⟩]))
def R_purserref06_First_0 : C := .seq (.ops [⟨(some 108),.mov (.t 0),none⟩,
     ⟨(some 109),.mov (.t 7),none⟩,
     ⟨(some 110),.call k_purserref01_GetFixed [(.t 108),(.t 109),(.c (.int .i64 4))],none⟩,
     ⟨(some 107),.mov (.t 110),none⟩,
     ⟨(some 111),.ext (.t 107) 0,none⟩,
     ⟨(some 112),.ext (.t 107) 1,none⟩,
     ⟨(some 113),.ext (.t 107) 2,none⟩,
     ⟨(some 16),.mov (.t 111),none⟩,
     ⟨(some 7),.mov (.t 112),none⟩,
     ⟨(some 8),.mov (.t 113),none⟩])
  (.seq (.seq (.ops [⟨(some 114),.mov (.t 8),none⟩,
      ⟨(some 115),.bin .neq .no (.t 114) (.c (.int .i64 0)),none⟩])
   (.cond (.t 115)
    (.seq (.ops [⟨(some 116),.build [(.int .u32 0),(.slice none 0 (some 0) 0),(.slice none 0 (some 0) 0),(.int .u32 0)] [],none⟩,
        ⟨none,.store 4 (.t 2) (.t 116),none⟩,
        ⟨(some 3),.mov (.c (.int .i64 0)),none⟩,
        ⟨(some 4),.mov (.c (.int .i64 60)),none⟩])
     (.ret))
    (.skip)))
  (.seq (.ops [⟨(some 117),.mov (.t 6),none⟩,
     ⟨(some 118),.conv .u32 (.t 117),none⟩,
     ⟨(some 119),.fieldAddr 0 (.t 5),none⟩,
     ⟨none,.store 1 (.t 119) (.t 118),none⟩])
  (.seq (.ops [⟨(some 120),.mov (.t 16),none⟩,
     ⟨(some 121),.conv .u32 (.t 120),none⟩,
     ⟨(some 122),.fieldAddr 3 (.t 5),none⟩,
     ⟨none,.store 1 (.t 122) (.t 121),none⟩])
  (.seq (.ops [⟨(some 123),.load (some 4) (.t 5),none⟩,
     ⟨(some 124),.mov (.t 7),none⟩,
     ⟨none,.store 4 (.t 2) (.t 123),none⟩,
     ⟨(some 3),.mov (.t 124),none⟩,
     ⟨(some 4),.mov (.c (.int .i64 0)),none⟩])
  (.ret)))))
def R_purserref06_First_1 : C := .seq (.ops [⟨(some 68),.mov (.t 0),none⟩,
     ⟨(some 69),.mov (.t 7),none⟩,
     ⟨(some 70),.call k_purserref01_GetSize [(.t 68),(.t 69)],none⟩,
     ⟨(some 67),.mov (.t 70),none⟩,
     ⟨(some 71),.ext (.t 67) 0,none⟩,
     ⟨(some 72),.ext (.t 67) 1,none⟩,
     ⟨(some 73),.ext (.t 67) 2,none⟩,
     ⟨(some 9),.mov (.t 71),none⟩,
     ⟨(some 7),.mov (.t 72),none⟩,
     ⟨(some 8),.mov (.t 73),none⟩])
  (.seq (.seq (.ops [⟨(some 74),.mov (.t 8),none⟩,
      ⟨(some 75),.bin .neq .no (.t 74) (.c (.int .i64 0)),none⟩,
      ⟨(some 76),.mov (.t 75),none⟩,
      ⟨(some 77),.mov (.t 9),(some (76,false))⟩,
      ⟨(some 78),.bin .lss .no (.t 77) (.c (.int .u64 1)),(some (76,false))⟩,
      ⟨(some 79),.pick (.t 76) (.c (.bool true)) (.t 78),none⟩,
      ⟨(some 80),.mov (.t 79),none⟩,
      ⟨(some 81),.mov (.t 9),(some (80,false))⟩,
      ⟨(some 82),.bin .gtr .no (.t 81) (.c (.int .u64 50)),(some (80,false))⟩,
      ⟨(some 83),.pick (.t 80) (.c (.bool true)) (.t 82),none⟩])
   (.cond (.t 83)
    (.seq (.ops [⟨(some 84),.build [(.int .u32 0),(.slice none 0 (some 0) 0),(.slice none 0 (some 0) 0),(.int .u32 0)] [],none⟩,
        ⟨none,.store 4 (.t 2) (.t 84),none⟩,
        ⟨(some 3),.mov (.c (.int .i64 0)),none⟩,
        ⟨(some 4),.mov (.c (.int .i64 60)),none⟩])
     (.ret))
    (.skip)))
  (.seq (.seq (.ops [⟨(some 13),.mov (.c (.int .i64 0)),none⟩])
   (.block 2 (.loop (L_purserref06_First_1))))
  (R_purserref06_First_0)))
/-- purser/purserref06.First -/
def f_purserref06_First : Fn := ⟨125,[.cell 2 (some 4),.tmp 3,.tmp 4],
  .seq (.ops [⟨(some 2),.alloc [(.int .u32 0),(.slice none 0 (some 0) 0),(.slice none 0 (some 0) 0),(.int .u32 0)],none⟩,
     ⟨(some 3),.mov (.c (.int .i64 0)),none⟩,
     ⟨(some 4),.mov (.c (.int .i64 0)),none⟩])
  (.seq (.ops [⟨(some 17),.build [(.int .u32 0),(.slice none 0 (some 0) 0),(.slice none 0 (some 0) 0),(.int .u32 0)] [],none⟩,
     ⟨(some 5),.alloc [(.int .u32 0),(.slice none 0 (some 0) 0),(.slice none 0 (some 0) 0),(.int .u32 0)],none⟩,
     ⟨none,.store 4 (.t 5) (.t 17),none⟩])
  (.seq (.ops [⟨(some 19),.mov (.t 0),none⟩,
     ⟨(some 20),.call k_purserref01_GetFixed [(.t 19),(.c (.int .i64 0)),(.c (.int .i64 4))],none⟩,
     ⟨(some 18),.mov (.t 20),none⟩,
     ⟨(some 21),.ext (.t 18) 0,none⟩,
     ⟨(some 22),.ext (.t 18) 1,none⟩,
     ⟨(some 23),.ext (.t 18) 2,none⟩,
     ⟨(some 6),.mov (.t 21),none⟩,
     ⟨(some 7),.mov (.t 22),none⟩,
     ⟨(some 8),.mov (.t 23),none⟩])
  (.seq (.seq (.ops [⟨(some 24),.mov (.t 8),none⟩,
      ⟨(some 25),.bin .neq .no (.t 24) (.c (.int .i64 0)),none⟩])
   (.cond (.t 25)
    (.seq (.ops [⟨(some 26),.build [(.int .u32 0),(.slice none 0 (some 0) 0),(.slice none 0 (some 0) 0),(.int .u32 0)] [],none⟩,
        ⟨none,.store 4 (.t 2) (.t 26),none⟩,
        ⟨(some 3),.mov (.c (.int .i64 0)),none⟩,
        ⟨(some 4),.mov (.c (.int .i64 60)),none⟩])
     (.ret))
    (.skip)))
  (.seq (.ops [⟨(some 28),.mov (.t 0),none⟩,
     ⟨(some 29),.mov (.t 7),none⟩,
     ⟨(some 30),.call k_purserref01_GetSize [(.t 28),(.t 29)],none⟩,
     ⟨(some 27),.mov (.t 30),none⟩,
     ⟨(some 31),.ext (.t 27) 0,none⟩,
     ⟨(some 32),.ext (.t 27) 1,none⟩,
     ⟨(some 33),.ext (.t 27) 2,none⟩,
     ⟨(some 9),.mov (.t 31),none⟩,
     ⟨(some 7),.mov (.t 32),none⟩,
     ⟨(some 8),.mov (.t 33),none⟩])
  (.seq (.seq (.ops [⟨(some 34),.mov (.t 8),none⟩,
      ⟨(some 35),.bin .neq .no (.t 34) (.c (.int .i64 0)),none⟩,
      ⟨(some 36),.mov (.t 35),none⟩,
      ⟨(some 37),.mov (.t 9),(some (36,false))⟩,
      ⟨(some 38),.bin .lss .no (.t 37) (.c (.int .u64 1)),(some (36,false))⟩,
      ⟨(some 39),.pick (.t 36) (.c (.bool true)) (.t 38),none⟩,
      ⟨(some 40),.mov (.t 39),none⟩,
      ⟨(some 41),.mov (.t 9),(some (40,false))⟩,
      ⟨(some 42),.bin .gtr .no (.t 41) (.c (.int .u64 50)),(some (40,false))⟩,
      ⟨(some 43),.pick (.t 40) (.c (.bool true)) (.t 42),none⟩])
   (.cond (.t 43)
    (.seq (.ops [⟨(some 44),.build [(.int .u32 0),(.slice none 0 (some 0) 0),(.slice none 0 (some 0) 0),(.int .u32 0)] [],none⟩,
        ⟨none,.store 4 (.t 2) (.t 44),none⟩,
        ⟨(some 3),.mov (.c (.int .i64 0)),none⟩,
        ⟨(some 4),.mov (.c (.int .i64 60)),none⟩])
     (.ret))
    (.skip)))
  (.seq (.seq (.ops [⟨(some 10),.mov (.c (.int .i64 0)),none⟩])
   (.block 0 (.loop (L_purserref06_First_0))))
  (R_purserref06_First_1)))))))⟩
/-- purser/purserref06.Decode -/
def f_purserref06_Decode : Fn := ⟨23,[.cell 2 (some 4),.tmp 3],
  .seq (.ops [⟨(some 2),.alloc [(.int .u32 0),(.slice none 0 (some 0) 0),(.slice none 0 (some 0) 0),(.int .u32 0)],none⟩,
     ⟨(some 3),.mov (.c (.int .i64 0)),none⟩])
  (.seq (.ops [⟨(some 8),.mov (.t 0),none⟩,
     ⟨(some 9),.call k_purserref06_First [(.t 8)],none⟩,
     ⟨(some 7),.mov (.t 9),none⟩,
     ⟨(some 10),.ext (.t 7) 0,none⟩,
     ⟨(some 11),.ext (.t 7) 1,none⟩,
     ⟨(some 12),.ext (.t 7) 2,none⟩,
     ⟨(some 4),.alloc [(.int .u32 0),(.slice none 0 (some 0) 0),(.slice none 0 (some 0) 0),(.int .u32 0)],none⟩,
     ⟨none,.store 4 (.t 4) (.t 10),none⟩,
     ⟨(some 5),.mov (.t 11),none⟩,
     ⟨(some 6),.mov (.t 12),none⟩])
  (.seq (.seq (.ops [⟨(some 13),.mov (.t 6),none⟩,
      ⟨(some 14),.bin .neq .no (.t 13) (.c (.int .i64 0)),none⟩,
      ⟨(some 15),.mov (.t 14),none⟩,
      ⟨(some 16),.mov (.t 5),(some (15,false))⟩,
      ⟨(some 17),.mov (.t 0),(some (15,false))⟩,
      ⟨(some 18),.len false (.t 17),(some (15,false))⟩,
      ⟨(some 19),.bin .neq .no (.t 16) (.t 18),(some (15,false))⟩,
      ⟨(some 20),.pick (.t 15) (.c (.bool true)) (.t 19),none⟩])
   (.cond (.t 20)
    (.seq (.ops [⟨(some 21),.build [(.int .u32 0),(.slice none 0 (some 0) 0),(.slice none 0 (some 0) 0),(.int .u32 0)] [],none⟩,
        ⟨none,.store 4 (.t 2) (.t 21),none⟩,
        ⟨(some 3),.mov (.c (.int .i64 60)),none⟩])
     (.ret))
    (.skip)))
  (.seq (.ops [⟨(some 22),.load (some 4) (.t 4),none⟩,
     ⟨none,.store 4 (.t 2) (.t 22),none⟩,
     ⟨(some 3),.mov (.c (.int .i64 0)),none⟩])
  (.ret))))⟩
/-- purser/purserref01.GetFixed -/
def f_purserref01_GetFixed : Fn := ⟨41,[.tmp 6,.tmp 7,.tmp 8],
  .seq (.ops [⟨(some 6),.mov (.c (.int .u64 0)),none⟩,
     ⟨(some 7),.mov (.c (.int .i64 0)),none⟩,
     ⟨(some 8),.mov (.c (.int .i64 0)),none⟩])
  (.seq (.seq (.ops [⟨(some 9),.mov (.t 2),none⟩,
      ⟨(some 10),.bin .neq .no (.t 9) (.c (.int .i64 1)),none⟩,
      ⟨(some 11),.mov (.t 10),none⟩,
      ⟨(some 12),.mov (.t 2),(some (11,true))⟩,
      ⟨(some 13),.bin .neq .no (.t 12) (.c (.int .i64 2)),(some (11,true))⟩,
      ⟨(some 14),.pick (.t 11) (.t 13) (.c (.bool false)),none⟩,
      ⟨(some 15),.mov (.t 14),none⟩,
      ⟨(some 16),.mov (.t 2),(some (15,true))⟩,
      ⟨(some 17),.bin .neq .no (.t 16) (.c (.int .i64 4)),(some (15,true))⟩,
      ⟨(some 18),.pick (.t 15) (.t 17) (.c (.bool false)),none⟩,
      ⟨(some 19),.mov (.t 18),none⟩,
      ⟨(some 20),.mov (.t 2),(some (19,true))⟩,
      ⟨(some 21),.bin .neq .no (.t 20) (.c (.int .i64 8)),(some (19,true))⟩,
      ⟨(some 22),.pick (.t 19) (.t 21) (.c (.bool false)),none⟩])
   (.cond (.t 22)
    (.seq (.ops [⟨(some 23),.mov (.t 1),none⟩,
        ⟨(some 6),.mov (.c (.int .u64 0)),none⟩,
        ⟨(some 7),.mov (.t 23),none⟩,
        ⟨(some 8),.mov (.c (.int .i64 2)),none⟩])
     (.ret))
    (.skip)))
  (.seq (.seq (.ops [⟨(some 24),.mov (.t 0),none⟩,
      ⟨(some 25),.len false (.t 24),none⟩,
      ⟨(some 26),.mov (.t 1),none⟩,
      ⟨(some 27),.bin .sub .no (.t 25) (.t 26),none⟩,
      ⟨(some 28),.mov (.t 2),none⟩,
      ⟨(some 29),.bin .lss .no (.t 27) (.t 28),none⟩])
   (.cond (.t 29)
    (.seq (.ops [⟨(some 30),.mov (.t 1),none⟩,
        ⟨(some 6),.mov (.c (.int .u64 0)),none⟩,
        ⟨(some 7),.mov (.t 30),none⟩,
        ⟨(some 8),.mov (.c (.int .i64 10)),none⟩])
     (.ret))
    (.skip)))
  (.seq (.ops [⟨(some 31),.mov (.t 0),none⟩,
     ⟨(some 32),.mov (.t 1),none⟩,
     ⟨(some 33),.mov (.t 1),none⟩,
     ⟨(some 34),.mov (.t 2),none⟩,
     ⟨(some 35),.bin .add .no (.t 33) (.t 34),none⟩,
     ⟨(some 36),.slcS 1 (.t 31) (some (.t 32)) (some (.t 35)) none,none⟩,
     ⟨(some 37),.call k_purserref01_Number [(.t 36)],none⟩,
     ⟨(some 38),.mov (.t 1),none⟩,
     ⟨(some 39),.mov (.t 2),none⟩,
     ⟨(some 40),.bin .add .no (.t 38) (.t 39),none⟩,
     ⟨(some 6),.mov (.t 37),none⟩,
     ⟨(some 7),.mov (.t 40),none⟩,
     ⟨(some 8),.mov (.c (.int .i64 0)),none⟩])
  (.ret))))⟩
/-- purser/purserref01.GetSize -/
def f_purserref01_GetSize : Fn := ⟨54,[.tmp 4,.tmp 5,.tmp 6],
  .seq (.ops [⟨(some 4),.mov (.c (.int .u64 0)),none⟩,
     ⟨(some 5),.mov (.c (.int .i64 0)),none⟩,
     ⟨(some 6),.mov (.c (.int .i64 0)),none⟩])
  (.seq (.seq (.ops [⟨(some 12),.mov (.t 1),none⟩,
      ⟨(some 13),.mov (.t 0),none⟩,
      ⟨(some 14),.len false (.t 13),none⟩,
      ⟨(some 15),.bin .geq .no (.t 12) (.t 14),none⟩])
   (.cond (.t 15)
    (.seq (.ops [⟨(some 16),.mov (.t 1),none⟩,
        ⟨(some 4),.mov (.c (.int .u64 0)),none⟩,
        ⟨(some 5),.mov (.t 16),none⟩,
        ⟨(some 6),.mov (.c (.int .i64 10)),none⟩])
     (.ret))
    (.skip)))
  (.seq (.ops [⟨(some 17),.mov (.t 1),none⟩,
     ⟨(some 18),.bin .add .no (.t 17) (.c (.int .i64 1)),none⟩,
     ⟨(some 7),.mov (.t 18),none⟩])
  (.seq (.ops [⟨(some 8),.mov (.c (.int .i64 1)),none⟩])
  (.seq (.seq (.ops [⟨(some 19),.mov (.t 0),none⟩,
      ⟨(some 20),.mov (.t 1),none⟩,
      ⟨(some 21),.idxAddrS 1 (.t 19) (.t 20),none⟩,
      ⟨(some 22),.load none (.t 21),none⟩])
   (.block 0 (.seq (.ops [⟨(some 25),.bin .eql .no (.t 22) (.c (.int .u8 253)),none⟩,
       ⟨(some 24),.mov (.t 25),none⟩])
    (.cond (.t 24)
     (.ops [⟨(some 8),.mov (.c (.int .i64 2)),none⟩])
     (.seq (.ops [⟨(some 27),.bin .eql .no (.t 22) (.c (.int .u8 254)),none⟩,
         ⟨(some 26),.mov (.t 27),none⟩])
      (.cond (.t 26)
       (.ops [⟨(some 8),.mov (.c (.int .i64 4)),none⟩])
       (.seq (.ops [⟨(some 29),.bin .eql .no (.t 22) (.c (.int .u8 255)),none⟩,
           ⟨(some 28),.mov (.t 29),none⟩])
        (.cond (.t 28)
         (.ops [⟨(some 8),.mov (.c (.int .i64 8)),none⟩])
         (.ops [⟨(some 23),.mov (.t 1),none⟩,
            ⟨(some 7),.mov (.t 23),none⟩])))))))))
  (.seq (.ops [⟨(some 31),.mov (.t 0),none⟩,
     ⟨(some 32),.mov (.t 7),none⟩,
     ⟨(some 33),.mov (.t 8),none⟩,
     ⟨(some 34),.call k_purserref01_GetFixed [(.t 31),(.t 32),(.t 33)],none⟩,
     ⟨(some 30),.mov (.t 34),none⟩,
     ⟨(some 35),.ext (.t 30) 0,none⟩,
     ⟨(some 36),.ext (.t 30) 1,none⟩,
     ⟨(some 37),.ext (.t 30) 2,none⟩,
     ⟨(some 9),.mov (.t 35),none⟩,
     ⟨(some 10),.mov (.t 36),none⟩,
     ⟨(some 11),.mov (.t 37),none⟩])
  (.seq (.seq (.dops 0 [] [(⟨(some 38),.mov (.t 11),none⟩,.L),
      (⟨(some 39),.bin .neq .no (.t 38) (.c (.int .i64 0)),none⟩,.L),
      (⟨(some 40),.mov (.t 39),none⟩,.L),
      (⟨(some 41),.mov (.t 9),(some (40,false))⟩,.L),
      (⟨(some 42),.call k_purserref01_Size [(.t 41)],(some (40,false))⟩,.B []),
      (⟨(some 43),.b2s (.t 42),(some (40,false))⟩,.R [] []),
      (⟨(some 44),.mov (.t 0),(some (40,false))⟩,.L),
      (⟨(some 45),.mov (.t 1),(some (40,false))⟩,.L),
      (⟨(some 46),.mov (.t 10),(some (40,false))⟩,.L),
      (⟨(some 47),.slcS 1 (.t 44) (some (.t 45)) (some (.t 46)) none,(some (40,false))⟩,.L),
      (⟨(some 48),.b2s (.t 47),(some (40,false))⟩,.R [] [(1,[])]),
      (⟨(some 49),.bin .neq .no (.t 43) (.t 48),(some (40,false))⟩,.L),
      (⟨(some 50),.pick (.t 40) (.c (.bool true)) (.t 49),none⟩,.L)])
   (.cond (.t 50)
    (.seq (.ops [⟨(some 51),.mov (.t 1),none⟩,
        ⟨(some 4),.mov (.c (.int .u64 0)),none⟩,
        ⟨(some 5),.mov (.t 51),none⟩,
        ⟨(some 6),.mov (.c (.int .i64 10)),none⟩])
     (.ret))
    (.skip)))
  (.seq (.ops [⟨(some 52),.mov (.t 9),none⟩,
     ⟨(some 53),.mov (.t 10),none⟩,
     ⟨(some 4),.mov (.t 52),none⟩,
     ⟨(some 5),.mov (.t 53),none⟩,
     ⟨(some 6),.mov (.c (.int .i64 0)),none⟩])
  (.ret))))))))⟩
def L_purserref06_in_0 : C := .seq (.seq (.ops [⟨(some 24),.mov (.t 9),none⟩,
         ⟨(some 25),.bin .lss .no (.t 24) (.c (.int .i64 32)),none⟩])
      (.cond (.t 25)
       (.skip)
       (.exit 0)))
     (.seq (.block 1 (.ops [⟨(some 28),.mov (.t 9),none⟩,
         ⟨(some 29),.mov (.t 7),none⟩,
         ⟨(some 30),.mov (.t 9),none⟩,
         ⟨(some 31),.idxAddrS 1 (.t 29) (.t 30),none⟩,
         ⟨(some 32),.load none (.t 31),none⟩,
         ⟨(some 33),.fieldAddr 0 (.t 6),none⟩,
         ⟨(some 34),.fieldAddr 0 (.t 33),none⟩,
         ⟨(some 35),.idxAddrA 32 1 (.t 34) (.t 28),none⟩,
         ⟨none,.store 1 (.t 35) (.t 32),none⟩]))
     (.ops [⟨(some 26),.mov (.t 9),none⟩,
       ⟨(some 27),.bin .add .no (.t 26) (.c (.int .i64 1)),none⟩,
       ⟨(some 9),.mov (.t 27),none⟩]))
def R_purserref06_in_0 : C := .seq (.ops [⟨(some 37),.mov (.t 0),none⟩,
     ⟨(some 38),.mov (.t 1),none⟩,
     ⟨(some 39),.call k_purserref01_GetFixed [(.t 37),(.t 38),(.c (.int .i64 4))],none⟩,
     ⟨(some 36),.mov (.t 39),none⟩,
     ⟨(some 40),.ext (.t 36) 0,none⟩,
     ⟨(some 41),.ext (.t 36) 1,none⟩,
     ⟨(some 42),.ext (.t 36) 2,none⟩,
     ⟨(some 10),.mov (.t 40),none⟩,
     ⟨(some 1),.mov (.t 41),none⟩,
     ⟨(some 8),.mov (.t 42),none⟩])
  (.seq (.seq (.ops [⟨(some 43),.mov (.t 8),none⟩,
      ⟨(some 44),.bin .neq .no (.t 43) (.c (.int .i64 0)),none⟩])
   (.cond (.t 44)
    (.seq (.ops [⟨(some 45),.load (some 35) (.t 6),none⟩,
        ⟨none,.store 35 (.t 4) (.t 45),none⟩,
        ⟨(some 5),.mov (.c (.int .i64 (-1))),none⟩])
     (.ret))
    (.skip)))
  (.seq (.ops [⟨(some 47),.mov (.t 0),none⟩,
     ⟨(some 48),.mov (.t 1),none⟩,
     ⟨(some 49),.call k_purserref01_GetBytes [(.t 47),(.t 48),(.c (.int .i64 2000))],none⟩,
     ⟨(some 46),.mov (.t 49),none⟩,
     ⟨(some 50),.ext (.t 46) 0,none⟩,
     ⟨(some 51),.ext (.t 46) 1,none⟩,
     ⟨(some 52),.ext (.t 46) 2,none⟩,
     ⟨(some 11),.mov (.t 50),none⟩,
     ⟨(some 1),.mov (.t 51),none⟩,
     ⟨(some 8),.mov (.t 52),none⟩])
  (.seq (.seq (.ops [⟨(some 53),.mov (.t 8),none⟩,
      ⟨(some 54),.bin .neq .no (.t 53) (.c (.int .i64 0)),none⟩])
   (.cond (.t 54)
    (.seq (.ops [⟨(some 55),.load (some 35) (.t 6),none⟩,
        ⟨none,.store 35 (.t 4) (.t 55),none⟩,
        ⟨(some 5),.mov (.c (.int .i64 (-1))),none⟩])
     (.ret))
    (.skip)))
  (.seq (.ops [⟨(some 57),.mov (.t 0),none⟩,
     ⟨(some 58),.mov (.t 1),none⟩,
     ⟨(some 59),.call k_purserref01_GetFixed [(.t 57),(.t 58),(.c (.int .i64 4))],none⟩,
     ⟨(some 56),.mov (.t 59),none⟩,
     ⟨(some 60),.ext (.t 56) 0,none⟩,
     ⟨(some 61),.ext (.t 56) 1,none⟩,
     ⟨(some 62),.ext (.t 56) 2,none⟩,
     ⟨(some 12),.mov (.t 60),none⟩,
     ⟨(some 1),.mov (.t 61),none⟩,
     ⟨(some 8),.mov (.t 62),none⟩])
  (.seq (.seq (.ops [⟨(some 63),.mov (.t 8),none⟩,
      ⟨(some 64),.bin .neq .no (.t 63) (.c (.int .i64 0)),none⟩])
   (.cond (.t 64)
    (.seq (.ops [⟨(some 65),.load (some 35) (.t 6),none⟩,
        ⟨none,.store 35 (.t 4) (.t 65),none⟩,
        ⟨(some 5),.mov (.c (.int .i64 (-1))),none⟩])
     (.ret))
    (.skip)))
  (.seq (.ops [⟨(some 66),.mov (.t 10),none⟩,
     ⟨(some 67),.conv .u32 (.t 66),none⟩,
     ⟨(some 68),.fieldAddr 0 (.t 6),none⟩,
     ⟨(some 69),.fieldAddr 32 (.t 68),none⟩,
     ⟨none,.store 1 (.t 69) (.t 67),none⟩])
  (.seq (.ops [⟨(some 70),.mov (.t 11),none⟩,
     ⟨(some 71),.fieldAddr 33 (.t 6),none⟩,
     ⟨none,.store 1 (.t 71) (.t 70),none⟩])
  (.seq (.ops [⟨(some 72),.mov (.t 12),none⟩,
     ⟨(some 73),.conv .u32 (.t 72),none⟩,
     ⟨(some 74),.fieldAddr 34 (.t 6),none⟩,
     ⟨none,.store 1 (.t 74) (.t 73),none⟩])
  (.seq (.ops [⟨(some 75),.load (some 35) (.t 6),none⟩,
     ⟨(some 76),.mov (.t 1),none⟩,
     ⟨none,.store 35 (.t 4) (.t 75),none⟩,
     ⟨(some 5),.mov (.t 76),none⟩])
  (.ret))))))))))
/-- purser/purserref06.in -/
def f_purserref06_in : Fn := ⟨77,[.cell 4 (some 35),.tmp 5],
  .seq (.ops [⟨(some 4),.alloc [(.int .u8 0),(.int .u8 0),(.int .u8 0),(.int .u8 0),(.int .u8 0),(.int .u8 0),(.int .u8 0),(.int .u8 0),(.int .u8 0),(.int .u8 0),(.int .u8 0),(.int .u8 0),(.int .u8 0),(.int .u8 0),(.int .u8 0),(.int .u8 0),(.int .u8 0),(.int .u8 0),(.int .u8 0),(.int .u8 0),(.int .u8 0),(.int .u8 0),(.int .u8 0),(.int .u8 0),(.int .u8 0),(.int .u8 0),(.int .u8 0),(.int .u8 0),(.int .u8 0),(.int .u8 0),(.int .u8 0),(.int .u8 0),(.int .u32 0),(.slice none 0 (some 0) 0),(.int .u32 0)],none⟩,
     ⟨(some 5),.mov (.c (.int .i64 0)),none⟩])
  (.seq (.ops [⟨(some 13),.build [(.int .u8 0),(.int .u8 0),(.int .u8 0),(.int .u8 0),(.int .u8 0),(.int .u8 0),(.int .u8 0),(.int .u8 0),(.int .u8 0),(.int .u8 0),(.int .u8 0),(.int .u8 0),(.int .u8 0),(.int .u8 0),(.int .u8 0),(.int .u8 0),(.int .u8 0),(.int .u8 0),(.int .u8 0),(.int .u8 0),(.int .u8 0),(.int .u8 0),(.int .u8 0),(.int .u8 0),(.int .u8 0),(.int .u8 0),(.int .u8 0),(.int .u8 0),(.int .u8 0),(.int .u8 0),(.int .u8 0),(.int .u8 0),(.int .u32 0),(.slice none 0 (some 0) 0),(.int .u32 0)] [],none⟩,
     ⟨(some 6),.alloc [(.int .u8 0),(.int .u8 0),(.int .u8 0),(.int .u8 0),(.int .u8 0),(.int .u8 0),(.int .u8 0),(.int .u8 0),(.int .u8 0),(.int .u8 0),(.int .u8 0),(.int .u8 0),(.int .u8 0),(.int .u8 0),(.int .u8 0),(.int .u8 0),(.int .u8 0),(.int .u8 0),(.int .u8 0),(.int .u8 0),(.int .u8 0),(.int .u8 0),(.int .u8 0),(.int .u8 0),(.int .u8 0),(.int .u8 0),(.int .u8 0),(.int .u8 0),(.int .u8 0),(.int .u8 0),(.int .u8 0),(.int .u8 0),(.int .u32 0),(.slice none 0 (some 0) 0),(.int .u32 0)],none⟩,
     ⟨none,.store 35 (.t 6) (.t 13),none⟩])
  (.seq (.ops [⟨(some 15),.mov (.t 0),none⟩,
     ⟨(some 16),.mov (.t 1),none⟩,
     ⟨(some 17),.call k_purserref01_GetRaw [(.t 15),(.t 16),(.c (.int .i64 32))],none⟩,
     ⟨(some 14),.mov (.t 17),none⟩,
     ⟨(some 18),.ext (.t 14) 0,none⟩,
     ⟨(some 19),.ext (.t 14) 1,none⟩,
     ⟨(some 20),.ext (.t 14) 2,none⟩,
     ⟨(some 7),.mov (.t 18),none⟩,
     ⟨(some 1),.mov (.t 19),none⟩,
     ⟨(some 8),.mov (.t 20),none⟩])
  (.seq (.seq (.ops [⟨(some 21),.mov (.t 8),none⟩,
      ⟨(some 22),.bin .neq .no (.t 21) (.c (.int .i64 0)),none⟩])
   (.cond (.t 22)
    (.seq (.ops [⟨(some 23),.load (some 35) (.t 6),none⟩,
        ⟨none,.store 35 (.t 4) (.t 23),none⟩,
        ⟨(some 5),.mov (.c (.int .i64 (-1))),none⟩])
     (.ret))
    (.skip)))
  (.seq (.seq (.ops [⟨(some 9),.mov (.c (.int .i64 0)),none⟩])
   (.block 0 (.loop (L_purserref06_in_0))))
  (R_purserref06_in_0)))))⟩
/-- purser/purserref06.out -/
def f_purserref06_out : Fn := ⟨34,[.cell 4 (some 2),.tmp 5],
  .seq (.ops [⟨(some 4),.alloc [(.int .i64 0),(.slice none 0 (some 0) 0)],none⟩,
     ⟨(some 5),.mov (.c (.int .i64 0)),none⟩])
  (.seq (.ops [⟨(some 10),.mov (.t 0),none⟩,
     ⟨(some 11),.mov (.t 1),none⟩,
     ⟨(some 12),.call k_purserref01_GetFixed [(.t 10),(.t 11),(.c (.int .i64 8))],none⟩,
     ⟨(some 9),.mov (.t 12),none⟩,
     ⟨(some 13),.ext (.t 9) 0,none⟩,
     ⟨(some 14),.ext (.t 9) 1,none⟩,
     ⟨(some 15),.ext (.t 9) 2,none⟩,
     ⟨(some 6),.mov (.t 13),none⟩,
     ⟨(some 1),.mov (.t 14),none⟩,
     ⟨(some 7),.mov (.t 15),none⟩])
  (.seq (.seq (.ops [⟨(some 16),.mov (.t 7),none⟩,
      ⟨(some 17),.bin .neq .no (.t 16) (.c (.int .i64 0)),none⟩])
   (.cond (.t 17)
    (.seq (.ops [⟨(some 18),.build [(.int .i64 0),(.slice none 0 (some 0) 0)] [],none⟩,
        ⟨none,.store 2 (.t 4) (.t 18),none⟩,
        ⟨(some 5),.mov (.c (.int .i64 (-1))),none⟩])
     (.ret))
    (.skip)))
  (.seq (.ops [⟨(some 20),.mov (.t 0),none⟩,
     ⟨(some 21),.mov (.t 1),none⟩,
     ⟨(some 22),.call k_purserref01_GetBytes [(.t 20),(.t 21),(.c (.int .i64 2000))],none⟩,
     ⟨(some 19),.mov (.t 22),none⟩,
     ⟨(some 23),.ext (.t 19) 0,none⟩,
     ⟨(some 24),.ext (.t 19) 1,none⟩,
     ⟨(some 25),.ext (.t 19) 2,none⟩,
     ⟨(some 8),.mov (.t 23),none⟩,
     ⟨(some 1),.mov (.t 24),none⟩,
     ⟨(some 7),.mov (.t 25),none⟩])
  (.seq (.seq (.ops [⟨(some 26),.mov (.t 7),none⟩,
      ⟨(some 27),.bin .neq .no (.t 26) (.c (.int .i64 0)),none⟩])
   (.cond (.t 27)
    (.seq (.ops [⟨(some 28),.build [(.int .i64 0),(.slice none 0 (some 0) 0)] [],none⟩,
        ⟨none,.store 2 (.t 4) (.t 28),none⟩,
        ⟨(some 5),.mov (.c (.int .i64 (-1))),none⟩])
     (.ret))
    (.skip)))
  (.seq (.ops [⟨(some 29),.mov (.t 6),none⟩,
     ⟨(some 30),.conv .i64 (.t 29),none⟩,
     ⟨(some 31),.mov (.t 8),none⟩,
     ⟨(some 32),.build [(.int .i64 0),(.slice none 0 (some 0) 0)] [(0,1,(.t 30)),(1,1,(.t 31))],none⟩,
     ⟨(some 33),.mov (.t 1),none⟩,
     ⟨none,.store 2 (.t 4) (.t 32),none⟩,
     ⟨(some 5),.mov (.t 33),none⟩])
  (.ret))))))⟩
def L_purserref01_Number_0 : C := .seq (.seq (.ops [⟨(some 5),.mov (.t 4),none⟩,
         ⟨(some 6),.mov (.t 0),none⟩,
         ⟨(some 7),.len false (.t 6),none⟩,
         ⟨(some 8),.bin .lss .no (.t 5) (.t 7),none⟩])
      (.cond (.t 8)
       (.skip)
       (.exit 0)))
     (.seq (.block 1 (.dops 0 [] [(⟨(some 11),.mov (.t 3),none⟩,.L),
         (⟨(some 12),.mov (.t 0),none⟩,.L),
         (⟨(some 13),.mov (.t 4),none⟩,.L),
         (⟨(some 14),.idxAddrS 1 (.t 12) (.t 13),none⟩,.L),
         (⟨(some 15),.load none (.t 14),none⟩,.R [] [(0,[])]),
         (⟨(some 16),.conv .u64 (.t 15),none⟩,.L),
         (⟨(some 17),.mov (.t 4),none⟩,.L),
         (⟨(some 18),.call k_purserref01_power [(.t 17)],none⟩,.B []),
         (⟨(some 19),.bin .mul .no (.t 16) (.t 18),none⟩,.L),
         (⟨(some 20),.bin .add .no (.t 11) (.t 19),none⟩,.L),
         (⟨(some 3),.mov (.t 20),none⟩,.L)]))
     (.ops [⟨(some 9),.mov (.t 4),none⟩,
       ⟨(some 10),.bin .add .no (.t 9) (.c (.int .i64 1)),none⟩,
       ⟨(some 4),.mov (.t 10),none⟩]))
def R_purserref01_Number_0 : C := .seq (.ops [⟨(some 21),.mov (.t 3),none⟩,
     ⟨(some 2),.mov (.t 21),none⟩])
  (.ret)
/-- purser/purserref01.Number -/
def f_purserref01_Number : Fn := ⟨22,[.tmp 2],
  .seq (.ops [⟨(some 2),.mov (.c (.int .u64 0)),none⟩])
  (.seq (.ops [⟨(some 3),.mov (.c (.int .u64 0)),none⟩])
  (.seq (.seq (.ops [⟨(some 4),.mov (.c (.int .i64 0)),none⟩])
   (.block 0 (.loop (L_purserref01_Number_0))))
  (R_purserref01_Number_0)))⟩
/-- purser/purserref01.GetRaw -/
def f_purserref01_GetRaw : Fn := ⟨29,[.tmp 6,.tmp 7,.tmp 8],
  .seq (.ops [⟨(some 6),.mov (.c (.slice none 0 (some 0) 0)),none⟩,
     ⟨(some 7),.mov (.c (.int .i64 0)),none⟩,
     ⟨(some 8),.mov (.c (.int .i64 0)),none⟩])
  (.seq (.seq (.ops [⟨(some 9),.mov (.t 2),none⟩,
      ⟨(some 10),.bin .lss .no (.t 9) (.c (.int .i64 0)),none⟩])
   (.cond (.t 10)
    (.seq (.ops [⟨(some 11),.mov (.t 1),none⟩,
        ⟨(some 6),.mov (.c (.slice none 0 (some 0) 0)),none⟩,
        ⟨(some 7),.mov (.t 11),none⟩,
        ⟨(some 8),.mov (.c (.int .i64 2)),none⟩])
     (.ret))
    (.skip)))
  (.seq (.seq (.ops [⟨(some 12),.mov (.t 2),none⟩,
      ⟨(some 13),.mov (.t 0),none⟩,
      ⟨(some 14),.len false (.t 13),none⟩,
      ⟨(some 15),.mov (.t 1),none⟩,
      ⟨(some 16),.bin .sub .no (.t 14) (.t 15),none⟩,
      ⟨(some 17),.bin .gtr .no (.t 12) (.t 16),none⟩])
   (.cond (.t 17)
    (.seq (.ops [⟨(some 18),.mov (.t 1),none⟩,
        ⟨(some 6),.mov (.c (.slice none 0 (some 0) 0)),none⟩,
        ⟨(some 7),.mov (.t 18),none⟩,
        ⟨(some 8),.mov (.c (.int .i64 10)),none⟩])
     (.ret))
    (.skip)))
  (.seq (.ops [⟨(some 19),.mov (.t 0),none⟩,
     ⟨(some 20),.mov (.t 1),none⟩,
     ⟨(some 21),.mov (.t 1),none⟩,
     ⟨(some 22),.mov (.t 2),none⟩,
     ⟨(some 23),.bin .add .no (.t 21) (.t 22),none⟩,
     ⟨(some 24),.slcS 1 (.t 19) (some (.t 20)) (some (.t 23)) none,none⟩,
     ⟨(some 25),.call k_purserref01_Twin [(.t 24)],none⟩,
     ⟨(some 26),.mov (.t 1),none⟩,
     ⟨(some 27),.mov (.t 2),none⟩,
     ⟨(some 28),.bin .add .no (.t 26) (.t 27),none⟩,
     ⟨(some 6),.mov (.t 25),none⟩,
     ⟨(some 7),.mov (.t 28),none⟩,
     ⟨(some 8),.mov (.c (.int .i64 0)),none⟩])
  (.ret))))⟩
/-- purser/purserref01.GetBytes -/
def f_purserref01_GetBytes : Fn := ⟨53,[.tmp 6,.tmp 7,.tmp 8],
  .seq (.ops [⟨(some 6),.mov (.c (.slice none 0 (some 0) 0)),none⟩,
     ⟨(some 7),.mov (.c (.int .i64 0)),none⟩,
     ⟨(some 8),.mov (.c (.int .i64 0)),none⟩])
  (.seq (.ops [⟨(some 13),.mov (.t 0),none⟩,
     ⟨(some 14),.mov (.t 1),none⟩,
     ⟨(some 15),.call k_purserref01_GetSize [(.t 13),(.t 14)],none⟩,
     ⟨(some 12),.mov (.t 15),none⟩,
     ⟨(some 16),.ext (.t 12) 0,none⟩,
     ⟨(some 17),.ext (.t 12) 1,none⟩,
     ⟨(some 18),.ext (.t 12) 2,none⟩,
     ⟨(some 9),.mov (.t 16),none⟩,
     ⟨(some 10),.mov (.t 17),none⟩,
     ⟨(some 11),.mov (.t 18),none⟩])
  (.seq (.seq (.ops [⟨(some 19),.mov (.t 11),none⟩,
      ⟨(some 20),.bin .neq .no (.t 19) (.c (.int .i64 0)),none⟩,
      ⟨(some 21),.mov (.t 20),none⟩,
      ⟨(some 22),.mov (.t 2),(some (21,false))⟩,
      ⟨(some 23),.bin .lss .no (.t 22) (.c (.int .i64 0)),(some (21,false))⟩,
      ⟨(some 24),.pick (.t 21) (.c (.bool true)) (.t 23),none⟩,
      ⟨(some 25),.mov (.t 24),none⟩,
      ⟨(some 26),.mov (.t 9),(some (25,false))⟩,
      ⟨(some 27),.mov (.t 2),(some (25,false))⟩,
      ⟨(some 28),.conv .u64 (.t 27),(some (25,false))⟩,
      ⟨(some 29),.bin .gtr .no (.t 26) (.t 28),(some (25,false))⟩,
      ⟨(some 30),.pick (.t 25) (.c (.bool true)) (.t 29),none⟩,
      ⟨(some 31),.mov (.t 30),none⟩,
      ⟨(some 32),.mov (.t 9),(some (31,false))⟩,
      ⟨(some 33),.mov (.t 0),(some (31,false))⟩,
      ⟨(some 34),.len false (.t 33),(some (31,false))⟩,
      ⟨(some 35),.mov (.t 10),(some (31,false))⟩,
      ⟨(some 36),.bin .sub .no (.t 34) (.t 35),(some (31,false))⟩,
      ⟨(some 37),.conv .u64 (.t 36),(some (31,false))⟩,
      ⟨(some 38),.bin .gtr .no (.t 32) (.t 37),(some (31,false))⟩,
      ⟨(some 39),.pick (.t 31) (.c (.bool true)) (.t 38),none⟩])
   (.cond (.t 39)
    (.seq (.ops [⟨(some 40),.mov (.t 1),none⟩,
        ⟨(some 6),.mov (.c (.slice none 0 (some 0) 0)),none⟩,
        ⟨(some 7),.mov (.t 40),none⟩,
        ⟨(some 8),.mov (.c (.int .i64 10)),none⟩])
     (.ret))
    (.skip)))
  (.seq (.ops [⟨(some 41),.mov (.t 0),none⟩,
     ⟨(some 42),.mov (.t 10),none⟩,
     ⟨(some 43),.mov (.t 10),none⟩,
     ⟨(some 44),.mov (.t 9),none⟩,
     ⟨(some 45),.conv .i64 (.t 44),none⟩,
     ⟨(some 46),.bin .add .no (.t 43) (.t 45),none⟩,
     ⟨(some 47),.slcS 1 (.t 41) (some (.t 42)) (some (.t 46)) none,none⟩,
     ⟨(some 48),.call k_purserref01_Twin [(.t 47)],none⟩,
     ⟨(some 49),.mov (.t 10),none⟩,
     ⟨(some 50),.mov (.t 9),none⟩,
     ⟨(some 51),.conv .i64 (.t 50),none⟩,
     ⟨(some 52),.bin .add .no (.t 49) (.t 51),none⟩,
     ⟨(some 6),.mov (.t 48),none⟩,
     ⟨(some 7),.mov (.t 52),none⟩,
     ⟨(some 8),.mov (.c (.int .i64 0)),none⟩])
  (.ret))))⟩

end Go.Eng
