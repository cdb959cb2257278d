/- Functions of the program, as the evaluator takes them: printed by program. -/
import Derived.Test.YtgjoaeefnknpfaaCrF
namespace Go.Eng
open Go
/-- purser/purserlaw02.CrcSums -/
abbrev k_purserlaw02_CrcSums : Nat := 8
/-- purser/purserref01.Twin -/
abbrev k_purserref01_Twin : Nat := 19
/-- purser/purserref02.Sum -/
abbrev k_purserref02_Sum : Nat := 38
/-- purser/purserref02.On -/
abbrev k_purserref02_On : Nat := 40
/-- purser/purserref02.about -/
abbrev k_purserref02_about : Nat := 63
/-- purser/purserref02.rest -/
abbrev k_purserref02_rest : Nat := 64
/-- purser/purserlaw02.CrcSums -/
def f_purserlaw02_CrcSums : Fn := ⟨33, [.tmp 4],
  .seq (.ops [⟨(some 4), .mov (.c (.bool false)), none⟩])
  (.seq (.seq (.ops [⟨(some 6), .mov (.t 0), none⟩,
      ⟨(some 7), .len false (.t 6), none⟩,
      ⟨(some 8), .bin .gtr .no (.t 7) (.c (.int .i64 10000)), none⟩])
   (.cond (.t 8)
    (.seq (.ops [⟨(some 4), .mov (.c (.bool true)), none⟩])
     (.ret))
    (.skip)))
  (.seq (.ops [⟨(some 9), .mov (.t 0), none⟩,
     ⟨(some 10), .call k_purserref01_Twin [(.t 9)], none⟩,
     ⟨(some 5), .mov (.t 10), none⟩])
  (.seq (.ops [⟨(some 11), .mov (.t 5), none⟩,
     ⟨(some 12), .buildS [(.slice none 0 (some 0) 0)] 1 1 [(0, 1, (.t 11))], none⟩,
     ⟨(some 13), .call k_crc_Sum [(.t 12)], none⟩,
     ⟨(some 14), .mov (.t 0), none⟩,
     ⟨(some 15), .call k_purserref02_Sum [(.t 14)], none⟩,
     ⟨(some 16), .bin .eql .no (.t 13) (.t 15), none⟩,
     ⟨(some 17), .mov (.t 16), none⟩,
     ⟨(some 18), .mov (.t 1), (some (17, true))⟩,
     ⟨(some 19), .mov (.t 5), (some (17, true))⟩,
     ⟨(some 20), .call k_crc_On [(.t 18), (.t 19)], (some (17, true))⟩,
     ⟨(some 21), .mov (.t 1), (some (17, true))⟩,
     ⟨(some 22), .mov (.t 0), (some (17, true))⟩,
     ⟨(some 23), .call k_purserref02_On [(.t 21), (.t 22)], (some (17, true))⟩,
     ⟨(some 24), .bin .eql .no (.t 20) (.t 23), (some (17, true))⟩,
     ⟨(some 25), .pick (.t 17) (.t 24) (.c (.bool false)), none⟩,
     ⟨(some 26), .mov (.t 25), none⟩,
     ⟨(some 27), .mov (.t 5), (some (26, true))⟩,
     ⟨(some 28), .b2s (.t 27), (some (26, true))⟩,
     ⟨(some 29), .mov (.t 0), (some (26, true))⟩,
     ⟨(some 30), .b2s (.t 29), (some (26, true))⟩,
     ⟨(some 31), .bin .eql .no (.t 28) (.t 30), (some (26, true))⟩,
     ⟨(some 32), .pick (.t 26) (.t 31) (.c (.bool false)), none⟩,
     ⟨(some 4), .mov (.t 32), none⟩])
  (.ret))))⟩
/-- purser/purserref01.Twin -/
def f_purserref01_Twin : Fn := ⟨7, [.tmp 2],
  .seq (.ops [⟨(some 2), .mov (.c (.slice none 0 (some 0) 0)), none⟩])
  (.seq (.ops [⟨(some 3), .mov (.c (.slice none 0 (some 0) 0)), none⟩])
  (.seq (.ops [⟨(some 4), .mov (.t 3), none⟩,
     ⟨(some 5), .mov (.t 0), none⟩,
     ⟨(some 6), .append 1 1 (.t 4) (.t 5), none⟩,
     ⟨(some 2), .mov (.t 6), none⟩])
  (.ret)))⟩
/-- purser/purserref02.Sum -/
def f_purserref02_Sum : Fn := ⟨5, [.tmp 2],
  .seq (.ops [⟨(some 2), .mov (.c (.int .u32 0)), none⟩])
  (.seq (.ops [⟨(some 3), .mov (.t 0), none⟩,
     ⟨(some 4), .call k_purserref02_On [(.c (.int .u32 0)), (.t 3)], none⟩,
     ⟨(some 2), .mov (.t 4), none⟩])
  (.ret))⟩
def L_purserref02_On_0 : C := .seq (.seq (.ops [⟨(some 25), .mov (.t 8), none⟩,
             ⟨(some 26), .bin .lss .no (.t 25) (.c (.int .i64 8)), none⟩])
          (.cond (.t 26)
           (.skip)
           (.exit 2)))
         (.seq (.block 3 (.seq (.ops [⟨(some 29), .mov (.t 7), none⟩,
              ⟨(some 30), .bin .rem .no (.t 29) (.c (.int .u64 2)), none⟩,
              ⟨(some 9), .mov (.t 30), none⟩])
           (.seq (.ops [⟨(some 31), .mov (.t 7), none⟩,
              ⟨(some 32), .bin .quo .no (.t 31) (.c (.int .u64 2)), none⟩,
              ⟨(some 7), .mov (.t 32), none⟩])
           (.ops [⟨(some 33), .mov (.t 5), none⟩,
             ⟨(some 34), .mov (.t 9), none⟩,
             ⟨(some 35), .call k_purserref02_rest [(.t 33), (.t 34)], none⟩,
             ⟨(some 5), .mov (.t 35), none⟩]))))
         (.ops [⟨(some 27), .mov (.t 8), none⟩,
           ⟨(some 28), .bin .add .no (.t 27) (.c (.int .i64 1)), none⟩,
           ⟨(some 8), .mov (.t 28), none⟩]))
def R_purserref02_On_0 : C := .ops [⟨(some 18), .mov (.t 6), none⟩,
       ⟨(some 19), .bin .add .no (.t 18) (.c (.int .i64 1)), none⟩,
       ⟨(some 6), .mov (.t 19), none⟩]
def L_purserref02_On_1 : C := .seq (.seq (.ops [⟨(some 14), .mov (.t 6), none⟩,
         ⟨(some 15), .mov (.t 1), none⟩,
         ⟨(some 16), .len false (.t 15), none⟩,
         ⟨(some 17), .bin .lss .no (.t 14) (.t 16), none⟩])
      (.cond (.t 17)
       (.skip)
       (.exit 0)))
     (.seq (.block 1 (.seq (.ops [⟨(some 20), .mov (.t 1), none⟩,
          ⟨(some 21), .mov (.t 6), none⟩,
          ⟨(some 22), .idxAddrS 1 (.t 20) (.t 21), none⟩,
          ⟨(some 23), .load none (.t 22), none⟩,
          ⟨(some 24), .conv .u64 (.t 23), none⟩,
          ⟨(some 7), .mov (.t 24), none⟩])
       (.seq (.ops [⟨(some 8), .mov (.c (.int .i64 0)), none⟩])
       (.block 2 (.loop (L_purserref02_On_0))))))
     (R_purserref02_On_0))
def R_purserref02_On_1 : C := .seq (.ops [⟨(some 36), .mov (.t 5), none⟩,
     ⟨(some 37), .call k_purserref02_about [(.t 36)], none⟩,
     ⟨(some 38), .bin .sub .no (.c (.int .u64 4294967295)) (.t 37), none⟩,
     ⟨(some 39), .conv .u32 (.t 38), none⟩,
     ⟨(some 4), .mov (.t 39), none⟩])
  (.ret)
/-- purser/purserref02.On -/
def f_purserref02_On : Fn := ⟨40, [.tmp 4],
  .seq (.ops [⟨(some 4), .mov (.c (.int .u32 0)), none⟩])
  (.seq (.ops [⟨(some 10), .mov (.t 0), none⟩,
     ⟨(some 11), .conv .u64 (.t 10), none⟩,
     ⟨(some 12), .bin .sub .no (.c (.int .u64 4294967295)) (.t 11), none⟩,
     ⟨(some 13), .call k_purserref02_about [(.t 12)], none⟩,
     ⟨(some 5), .mov (.t 13), none⟩])
  (.seq (.seq (.ops [⟨(some 6), .mov (.c (.int .i64 0)), none⟩])
   (.block 0 (.loop (L_purserref02_On_1))))
  (R_purserref02_On_1)))⟩
def L_purserref02_about_0 : C := .seq (.seq (.ops [⟨(some 5), .mov (.t 4), none⟩,
         ⟨(some 6), .bin .lss .no (.t 5) (.c (.int .i64 32)), none⟩])
      (.cond (.t 6)
       (.skip)
       (.exit 0)))
     (.seq (.block 1 (.seq (.ops [⟨(some 9), .mov (.t 3), none⟩,
          ⟨(some 10), .bin .mul .no (.c (.int .u64 2)) (.t 9), none⟩,
          ⟨(some 11), .mov (.t 0), none⟩,
          ⟨(some 12), .bin .rem .no (.t 11) (.c (.int .u64 2)), none⟩,
          ⟨(some 13), .bin .add .no (.t 10) (.t 12), none⟩,
          ⟨(some 3), .mov (.t 13), none⟩])
       (.ops [⟨(some 14), .mov (.t 0), none⟩,
         ⟨(some 15), .bin .quo .no (.t 14) (.c (.int .u64 2)), none⟩,
         ⟨(some 0), .mov (.t 15), none⟩])))
     (.ops [⟨(some 7), .mov (.t 4), none⟩,
       ⟨(some 8), .bin .add .no (.t 7) (.c (.int .i64 1)), none⟩,
       ⟨(some 4), .mov (.t 8), none⟩]))
def R_purserref02_about_0 : C := .seq (.ops [⟨(some 16), .mov (.t 3), none⟩,
     ⟨(some 2), .mov (.t 16), none⟩])
  (.ret)
/-- purser/purserref02.about -/
def f_purserref02_about : Fn := ⟨17, [.tmp 2],
  .seq (.ops [⟨(some 2), .mov (.c (.int .u64 0)), none⟩])
  (.seq (.ops [⟨(some 3), .mov (.c (.int .u64 0)), none⟩])
  (.seq (.seq (.ops [⟨(some 4), .mov (.c (.int .i64 0)), none⟩])
   (.block 0 (.loop (L_purserref02_about_0))))
  (R_purserref02_about_0)))⟩
/-- purser/purserref02.rest -/
def f_purserref02_rest : Fn := ⟨20, [.tmp 4],
  .seq (.ops [⟨(some 4), .mov (.c (.int .u64 0)), none⟩])
  (.seq (.ops [⟨(some 5), .mov (.t 0), none⟩,
     ⟨(some 6), .bin .mul .no (.c (.int .u64 2)) (.t 5), none⟩,
     ⟨(some 7), .mov (.t 1), none⟩,
     ⟨(some 8), .bin .mul .no (.t 7) (.c (.int .u64 4294967296)), none⟩,
     ⟨(some 9), .bin .add .no (.t 6) (.t 8), none⟩,
     ⟨(some 0), .mov (.t 9), none⟩])
  (.seq (.seq (.ops [⟨(some 10), .mov (.t 0), none⟩,
      ⟨(some 11), .bin .geq .no (.t 10) (.c (.int .u64 8589934592)), none⟩])
   (.cond (.t 11)
    (.ops [⟨(some 12), .mov (.t 0), none⟩,
       ⟨(some 13), .bin .sub .no (.t 12) (.c (.int .u64 8589934592)), none⟩,
       ⟨(some 0), .mov (.t 13), none⟩])
    (.skip)))
  (.seq (.seq (.ops [⟨(some 14), .mov (.t 0), none⟩,
      ⟨(some 15), .bin .geq .no (.t 14) (.c (.int .u64 4294967296)), none⟩])
   (.cond (.t 15)
    (.ops [⟨(some 16), .mov (.t 0), none⟩,
       ⟨(some 17), .bin .sub .no (.t 16) (.c (.int .u64 4294967296)), none⟩,
       ⟨(some 18), .bin .xor .no (.t 17) (.c (.int .u64 517762881)), none⟩,
       ⟨(some 0), .mov (.t 18), none⟩])
    (.skip)))
  (.seq (.ops [⟨(some 19), .mov (.t 0), none⟩,
     ⟨(some 4), .mov (.t 19), none⟩])
  (.ret)))))⟩

end Go.Eng
