/- Functions of the program, as the evaluator takes them: printed by program. -/
import Derived.Test.YtglaaipaomnnmaaRfF
namespace Go.Eng
open Go
/-- purser/purserlaw04.ShaSums -/
abbrev k_purserlaw04_ShaSums : Nat := 3
/-- purser/purserref04.Twice -/
abbrev k_purserref04_Twice : Nat := 19
/-- purser/purserref04.Short -/
abbrev k_purserref04_Short : Nat := 20
def L_purserlaw04_ShaSums_0 : C := .seq (.ops [⟨(some 49), .bin .lss .no (.t 48) (.t 47), none⟩])
     (.seq (.cond (.t 49)
       (.skip)
       (.exit 0))
     (.seq (.block 1 (.seq (.ops [⟨(some 50), .mov (.t 48), none⟩,
          ⟨(some 6), .mov (.t 50), none⟩])
       (.ops [⟨(some 51), .mov (.t 4), none⟩,
         ⟨(some 52), .mov (.t 6), none⟩,
         ⟨(some 53), .idxAddrS 1 (.t 51) (.t 52), none⟩,
         ⟨(some 54), .load none (.t 53), none⟩,
         ⟨(some 55), .bin .add .no (.t 54) (.c (.int .u8 1)), none⟩,
         ⟨(some 56), .idxAddrS 1 (.t 51) (.t 52), none⟩,
         ⟨none, .store 1 (.t 56) (.t 55), none⟩])))
     (.ops [⟨(some 57), .bin .add .no (.t 48) (.c (.int .i64 1)), none⟩,
       ⟨(some 48), .mov (.t 57), none⟩])))
def R_purserlaw04_ShaSums_0 : C := .seq (.dops 0 [] [(⟨(some 58), .mov (.t 5), none⟩, .L),
     (⟨(some 59), .mov (.t 58), none⟩, .L),
     (⟨(some 60), .mov (.t 3), (some (59, true))⟩, .L),
     (⟨(some 61), .b2s (.t 60), (some (59, true))⟩, .R [] []),
     (⟨(some 62), .mov (.t 0), (some (59, true))⟩, .L),
     (⟨(some 63), .b2s (.t 62), (some (59, true))⟩, .R [] []),
     (⟨(some 64), .bin .add .no (.t 63) (.c (.str [7])), (some (59, true))⟩, .L),
     (⟨(some 65), .bin .eql .no (.t 61) (.t 64), (some (59, true))⟩, .L),
     (⟨(some 66), .pick (.t 59) (.t 65) (.c (.bool false)), none⟩, .L),
     (⟨(some 67), .mov (.t 66), none⟩, .L),
     (⟨(some 68), .mov (.t 0), (some (67, true))⟩, .L),
     (⟨(some 69), .call k_sha_Short [(.t 68)], (some (67, true))⟩, .B []),
     (⟨(some 70), .b2s (.t 69), (some (67, true))⟩, .R [] [(0, [])]),
     (⟨(some 71), .mov (.t 0), (some (67, true))⟩, .L),
     (⟨(some 72), .call k_purserref04_Short [(.t 71)], (some (67, true))⟩, .B []),
     (⟨(some 73), .b2s (.t 72), (some (67, true))⟩, .R [] []),
     (⟨(some 74), .bin .eql .no (.t 70) (.t 73), (some (67, true))⟩, .L),
     (⟨(some 75), .pick (.t 67) (.t 74) (.c (.bool false)), none⟩, .L),
     (⟨(some 2), .mov (.t 75), none⟩, .L)])
  (.ret)
/-- purser/purserlaw04.ShaSums -/
def f_purserlaw04_ShaSums : Fn := ⟨76, [.tmp 2],
  .seq (.ops [⟨(some 2), .mov (.c (.bool false)), none⟩])
  (.seq (.seq (.ops [⟨(some 7), .mov (.t 0), none⟩,
      ⟨(some 8), .len false (.t 7), none⟩,
      ⟨(some 9), .bin .gtr .no (.t 8) (.c (.int .i64 3000)), none⟩])
   (.cond (.t 9)
    (.seq (.ops [⟨(some 2), .mov (.c (.bool true)), none⟩])
     (.ret))
    (.skip)))
  (.seq (.ops [⟨(some 10), .buildS [] 0 1 [], none⟩,
     ⟨(some 11), .mov (.t 0), none⟩,
     ⟨(some 12), .append 1 1 (.t 10) (.t 11), none⟩,
     ⟨(some 13), .buildS [(.int .u8 0)] 1 1 [(0, 1, (.c (.int .u8 7)))], none⟩,
     ⟨(some 14), .append 1 1 (.t 12) (.t 13), none⟩,
     ⟨(some 3), .mov (.t 14), none⟩])
  (.seq (.ops [⟨(some 15), .mov (.t 3), none⟩,
     ⟨(some 16), .mov (.t 0), none⟩,
     ⟨(some 17), .len false (.t 16), none⟩,
     ⟨(some 18), .slcS 1 (.t 15) none (some (.t 17)) none, none⟩,
     ⟨(some 19), .call k_sha_Short [(.t 18)], none⟩,
     ⟨(some 4), .mov (.t 19), none⟩])
  (.seq (.dops 0 [] [(⟨(some 20), .mov (.t 3), none⟩, .L),
     (⟨(some 21), .mov (.t 0), none⟩, .L),
     (⟨(some 22), .len false (.t 21), none⟩, .L),
     (⟨(some 23), .slcS 1 (.t 20) none (some (.t 22)) none, none⟩, .L),
     (⟨(some 24), .call k_sha_Of [(.t 23)], none⟩, .B []),
     (⟨(some 25), .mov (.t 0), none⟩, .L),
     (⟨(some 26), .call k_purserref04_Of [(.t 25)], none⟩, .B []),
     (⟨(some 27), .bin .eql (.flat [.i, .i, .i, .i, .i, .i, .i, .i, .i, .i, .i, .i, .i, .i, .i, .i, .i, .i, .i, .i, .i, .i, .i, .i, .i, .i, .i, .i, .i, .i, .i, .i]) (.t 24) (.t 26), none⟩, .L),
     (⟨(some 28), .mov (.t 27), none⟩, .L),
     (⟨(some 29), .mov (.t 3), (some (28, true))⟩, .L),
     (⟨(some 30), .mov (.t 0), (some (28, true))⟩, .L),
     (⟨(some 31), .len false (.t 30), (some (28, true))⟩, .L),
     (⟨(some 32), .slcS 1 (.t 29) none (some (.t 31)) none, (some (28, true))⟩, .L),
     (⟨(some 33), .call k_sha_Twice [(.t 32)], (some (28, true))⟩, .B []),
     (⟨(some 34), .mov (.t 0), (some (28, true))⟩, .L),
     (⟨(some 35), .call k_purserref04_Twice [(.t 34)], (some (28, true))⟩, .B []),
     (⟨(some 36), .bin .eql (.flat [.i, .i, .i, .i, .i, .i, .i, .i, .i, .i, .i, .i, .i, .i, .i, .i, .i, .i, .i, .i, .i, .i, .i, .i, .i, .i, .i, .i, .i, .i, .i, .i]) (.t 33) (.t 35), (some (28, true))⟩, .L),
     (⟨(some 37), .pick (.t 28) (.t 36) (.c (.bool false)), none⟩, .L),
     (⟨(some 38), .mov (.t 37), none⟩, .L),
     (⟨(some 39), .mov (.t 4), (some (38, true))⟩, .L),
     (⟨(some 40), .b2s (.t 39), (some (38, true))⟩, .R [] [(0, [])]),
     (⟨(some 41), .mov (.t 0), (some (38, true))⟩, .L),
     (⟨(some 42), .call k_purserref04_Short [(.t 41)], (some (38, true))⟩, .B []),
     (⟨(some 43), .b2s (.t 42), (some (38, true))⟩, .R [] []),
     (⟨(some 44), .bin .eql .no (.t 40) (.t 43), (some (38, true))⟩, .L),
     (⟨(some 45), .pick (.t 38) (.t 44) (.c (.bool false)), none⟩, .L),
     (⟨(some 5), .mov (.t 45), none⟩, .L)])
  (.seq (.seq (.ops [⟨(some 46), .mov (.t 4), none⟩,
      ⟨(some 47), .len false (.t 46), none⟩,
      ⟨(some 48), .mov (.c (.int .i64 0)), none⟩])
   (.block 0 (.loop (L_purserlaw04_ShaSums_0))))
  (R_purserlaw04_ShaSums_0))))))⟩
/-- purser/purserref04.Twice -/
def f_purserref04_Twice : Fn := ⟨8, [.cell 2 (some 32)],
  .seq (.ops [⟨(some 2), .alloc [(.int .u8 0), (.int .u8 0), (.int .u8 0), (.int .u8 0), (.int .u8 0), (.int .u8 0), (.int .u8 0), (.int .u8 0), (.int .u8 0), (.int .u8 0), (.int .u8 0), (.int .u8 0), (.int .u8 0), (.int .u8 0), (.int .u8 0), (.int .u8 0), (.int .u8 0), (.int .u8 0), (.int .u8 0), (.int .u8 0), (.int .u8 0), (.int .u8 0), (.int .u8 0), (.int .u8 0), (.int .u8 0), (.int .u8 0), (.int .u8 0), (.int .u8 0), (.int .u8 0), (.int .u8 0), (.int .u8 0), (.int .u8 0)], none⟩])
  (.seq (.ops [⟨(some 4), .mov (.t 0), none⟩,
     ⟨(some 5), .call k_purserref04_Of [(.t 4)], none⟩,
     ⟨(some 3), .alloc [(.int .u8 0), (.int .u8 0), (.int .u8 0), (.int .u8 0), (.int .u8 0), (.int .u8 0), (.int .u8 0), (.int .u8 0), (.int .u8 0), (.int .u8 0), (.int .u8 0), (.int .u8 0), (.int .u8 0), (.int .u8 0), (.int .u8 0), (.int .u8 0), (.int .u8 0), (.int .u8 0), (.int .u8 0), (.int .u8 0), (.int .u8 0), (.int .u8 0), (.int .u8 0), (.int .u8 0), (.int .u8 0), (.int .u8 0), (.int .u8 0), (.int .u8 0), (.int .u8 0), (.int .u8 0), (.int .u8 0), (.int .u8 0)], none⟩,
     ⟨none, .store 32 (.t 3) (.t 5), none⟩])
  (.seq (.ops [⟨(some 6), .slcA 32 1 (.t 3) none none none, none⟩,
     ⟨(some 7), .call k_purserref04_Of [(.t 6)], none⟩,
     ⟨none, .store 32 (.t 2) (.t 7), none⟩])
  (.ret)))⟩
/-- purser/purserref04.Short -/
def f_purserref04_Short : Fn := ⟨10, [.tmp 2],
  .seq (.ops [⟨(some 2), .mov (.c (.slice none 0 (some 0) 0)), none⟩])
  (.seq (.ops [⟨(some 5), .mov (.t 0), none⟩,
     ⟨(some 6), .call k_purserref04_Twice [(.t 5)], none⟩,
     ⟨(some 3), .alloc [(.int .u8 0), (.int .u8 0), (.int .u8 0), (.int .u8 0), (.int .u8 0), (.int .u8 0), (.int .u8 0), (.int .u8 0), (.int .u8 0), (.int .u8 0), (.int .u8 0), (.int .u8 0), (.int .u8 0), (.int .u8 0), (.int .u8 0), (.int .u8 0), (.int .u8 0), (.int .u8 0), (.int .u8 0), (.int .u8 0), (.int .u8 0), (.int .u8 0), (.int .u8 0), (.int .u8 0), (.int .u8 0), (.int .u8 0), (.int .u8 0), (.int .u8 0), (.int .u8 0), (.int .u8 0), (.int .u8 0), (.int .u8 0)], none⟩,
     ⟨none, .store 32 (.t 3) (.t 6), none⟩])
  (.seq (.ops [⟨(some 4), .mov (.c (.slice none 0 (some 0) 0)), none⟩])
  (.seq (.ops [⟨(some 7), .mov (.t 4), none⟩,
     ⟨(some 8), .slcA 32 1 (.t 3) none (some (.c (.int .i64 20))) none, none⟩,
     ⟨(some 9), .append 1 1 (.t 7) (.t 8), none⟩,
     ⟨(some 2), .mov (.t 9), none⟩])
  (.ret))))⟩

end Go.Eng
