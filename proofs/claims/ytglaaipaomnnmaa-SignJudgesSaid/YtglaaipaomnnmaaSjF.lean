/- Functions of the program, as the evaluator takes them: printed by program. -/
import Derived.Test.YtglaaipaomnnmaaRfF
namespace Go.Eng
open Go
/-- purser/purserlaw09.SignJudges -/
abbrev k_purserlaw09_SignJudges : Nat := 11
/-- purser/purserref09.Is -/
abbrev k_purserref09_Is : Nat := 40
/-- purser/purserlaw09.SignJudges -/
def f_purserlaw09_SignJudges : Fn := ⟨67, [.tmp 6],
  .seq (.ops [⟨(some 5), .box (.t 2), none⟩,
     ⟨(some 6), .mov (.c (.bool false)), none⟩])
  (.seq (.seq (.ops [⟨(some 10), .mov (.t 0), none⟩,
      ⟨(some 11), .len false (.t 10), none⟩,
      ⟨(some 12), .bin .gtr .no (.t 11) (.c (.int .i64 200)), none⟩,
      ⟨(some 13), .mov (.t 12), none⟩,
      ⟨(some 14), .mov (.t 1), (some (13, false))⟩,
      ⟨(some 15), .len false (.t 14), (some (13, false))⟩,
      ⟨(some 16), .bin .gtr .no (.t 15) (.c (.int .i64 200)), (some (13, false))⟩,
      ⟨(some 17), .pick (.t 13) (.c (.bool true)) (.t 16), none⟩])
   (.cond (.t 17)
    (.seq (.ops [⟨(some 6), .mov (.c (.bool true)), none⟩])
     (.ret))
    (.skip)))
  (.seq (.ops [⟨(some 18), .buildS [] 0 1 [], none⟩,
     ⟨(some 19), .mov (.t 0), none⟩,
     ⟨(some 20), .append 1 1 (.t 18) (.t 19), none⟩,
     ⟨(some 21), .buildS [(.int .u8 0)] 1 1 [(0, 1, (.c (.int .u8 7)))], none⟩,
     ⟨(some 22), .append 1 1 (.t 20) (.t 21), none⟩,
     ⟨(some 23), .buildS [] 0 1 [], none⟩,
     ⟨(some 24), .mov (.t 1), none⟩,
     ⟨(some 25), .append 1 1 (.t 23) (.t 24), none⟩,
     ⟨(some 26), .buildS [(.int .u8 0)] 1 1 [(0, 1, (.c (.int .u8 7)))], none⟩,
     ⟨(some 27), .append 1 1 (.t 25) (.t 26), none⟩,
     ⟨(some 7), .mov (.t 22), none⟩,
     ⟨(some 8), .mov (.t 27), none⟩])
  (.seq (.dops 0 [] [(⟨(some 28), .mov (.t 7), none⟩, .L),
     (⟨(some 29), .mov (.t 0), none⟩, .L),
     (⟨(some 30), .len false (.t 29), none⟩, .L),
     (⟨(some 31), .slcS 1 (.t 28) none (some (.t 30)) none, none⟩, .L),
     (⟨(some 32), .mov (.t 8), none⟩, .L),
     (⟨(some 33), .mov (.t 1), none⟩, .L),
     (⟨(some 34), .len false (.t 33), none⟩, .L),
     (⟨(some 35), .slcS 1 (.t 32) none (some (.t 34)) none, none⟩, .L),
     (⟨(some 36), .load (some 32) (.t 5), none⟩, .R [] []),
     (⟨(some 37), .call k_sign_Is [(.t 31), (.t 35), (.t 36)], none⟩, .B []),
     (⟨(some 9), .mov (.t 37), none⟩, .L)])
  (.seq (.dops 0 [] [(⟨(some 38), .mov (.t 9), none⟩, .L),
     (⟨(some 39), .mov (.t 0), none⟩, .L),
     (⟨(some 40), .mov (.t 1), none⟩, .L),
     (⟨(some 41), .load (some 32) (.t 5), none⟩, .R [] []),
     (⟨(some 42), .call k_purserref09_Is [(.t 39), (.t 40), (.t 41)], none⟩, .B []),
     (⟨(some 43), .bin .eql .bool (.t 38) (.t 42), none⟩, .L),
     (⟨(some 44), .mov (.t 43), none⟩, .L),
     (⟨(some 45), .mov (.t 7), (some (44, true))⟩, .L),
     (⟨(some 46), .b2s (.t 45), (some (44, true))⟩, .R [] []),
     (⟨(some 47), .mov (.t 0), (some (44, true))⟩, .L),
     (⟨(some 48), .b2s (.t 47), (some (44, true))⟩, .R [] []),
     (⟨(some 49), .bin .add .no (.t 48) (.c (.str [7])), (some (44, true))⟩, .L),
     (⟨(some 50), .bin .eql .no (.t 46) (.t 49), (some (44, true))⟩, .L),
     (⟨(some 51), .pick (.t 44) (.t 50) (.c (.bool false)), none⟩, .L),
     (⟨(some 52), .mov (.t 51), none⟩, .L),
     (⟨(some 53), .mov (.t 8), (some (52, true))⟩, .L),
     (⟨(some 54), .b2s (.t 53), (some (52, true))⟩, .R [] []),
     (⟨(some 55), .mov (.t 1), (some (52, true))⟩, .L),
     (⟨(some 56), .b2s (.t 55), (some (52, true))⟩, .R [] []),
     (⟨(some 57), .bin .add .no (.t 56) (.c (.str [7])), (some (52, true))⟩, .L),
     (⟨(some 58), .bin .eql .no (.t 54) (.t 57), (some (52, true))⟩, .L),
     (⟨(some 59), .pick (.t 52) (.t 58) (.c (.bool false)), none⟩, .L),
     (⟨(some 60), .mov (.t 59), none⟩, .L),
     (⟨(some 61), .load (some 32) (.t 5), (some (60, true))⟩, .R [] []),
     (⟨(some 62), .call k_sign_Public [(.t 61)], (some (60, true))⟩, .B []),
     (⟨(some 63), .load (some 32) (.t 5), (some (60, true))⟩, .R [] [(2, [])]),
     (⟨(some 64), .call k_purserref09_Public [(.t 63)], (some (60, true))⟩, .B []),
     (⟨(some 65), .bin .eql (.flat [.i, .i, .i, .i, .i, .i, .i, .i, .i, .i, .i, .i, .i, .i, .i, .i, .i, .i, .i, .i, .i, .i, .i, .i, .i, .i, .i, .i, .i, .i, .i, .i]) (.t 62) (.t 64), (some (60, true))⟩, .L),
     (⟨(some 66), .pick (.t 60) (.t 65) (.c (.bool false)), none⟩, .L),
     (⟨(some 6), .mov (.t 66), none⟩, .L)])
  (.ret)))))⟩
def L_purserref09_Is_0 : C := .seq (.seq (.ops [⟨(some 18), .mov (.t 8), none⟩,
         ⟨(some 19), .bin .lss .no (.t 18) (.c (.int .i64 32)), none⟩])
      (.cond (.t 19)
       (.skip)
       (.exit 0)))
     (.seq (.block 1 (.ops [⟨(some 22), .mov (.t 8), none⟩,
         ⟨(some 23), .mov (.t 1), none⟩,
         ⟨(some 24), .mov (.t 8), none⟩,
         ⟨(some 25), .idxAddrS 1 (.t 23) (.t 24), none⟩,
         ⟨(some 26), .load none (.t 25), none⟩,
         ⟨(some 27), .idxAddrA 32 1 (.t 7) (.t 22), none⟩,
         ⟨none, .store 1 (.t 27) (.t 26), none⟩]))
     (.ops [⟨(some 20), .mov (.t 8), none⟩,
       ⟨(some 21), .bin .add .no (.t 20) (.c (.int .i64 1)), none⟩,
       ⟨(some 8), .mov (.t 21), none⟩]))
def R_purserref09_Is_0 : C := .seq (.ops [⟨(some 28), .load (some 32) (.t 7), none⟩,
     ⟨(some 29), .call k_purserref09_Public [(.t 28)], none⟩,
     ⟨(some 9), .alloc [(.int .u8 0), (.int .u8 0), (.int .u8 0), (.int .u8 0), (.int .u8 0), (.int .u8 0), (.int .u8 0), (.int .u8 0), (.int .u8 0), (.int .u8 0), (.int .u8 0), (.int .u8 0), (.int .u8 0), (.int .u8 0), (.int .u8 0), (.int .u8 0), (.int .u8 0), (.int .u8 0), (.int .u8 0), (.int .u8 0), (.int .u8 0), (.int .u8 0), (.int .u8 0), (.int .u8 0), (.int .u8 0), (.int .u8 0), (.int .u8 0), (.int .u8 0), (.int .u8 0), (.int .u8 0), (.int .u8 0), (.int .u8 0)], none⟩,
     ⟨none, .store 32 (.t 9) (.t 29), none⟩])
  (.seq (.dops 0 [] [(⟨(some 30), .slcA 32 1 (.t 9) none none none, none⟩, .R [] []),
     (⟨(some 31), .b2s (.t 30), none⟩, .R [] []),
     (⟨(some 32), .mov (.t 0), none⟩, .L),
     (⟨(some 33), .b2s (.t 32), none⟩, .R [] []),
     (⟨(some 34), .bin .eql .no (.t 31) (.t 33), none⟩, .L),
     (⟨(some 35), .mov (.t 34), none⟩, .L),
     (⟨(some 36), .load (some 32) (.t 7), (some (35, true))⟩, .R [] []),
     (⟨(some 37), .load (some 32) (.t 5), (some (35, true))⟩, .R [] []),
     (⟨(some 38), .call k_purserref09_Sign [(.t 36), (.t 37)], (some (35, true))⟩, .B []),
     (⟨(some 39), .b2s (.t 38), (some (35, true))⟩, .R [] []),
     (⟨(some 40), .mov (.t 1), (some (35, true))⟩, .L),
     (⟨(some 41), .b2s (.t 40), (some (35, true))⟩, .R [] [(1, [])]),
     (⟨(some 42), .bin .eql .no (.t 39) (.t 41), (some (35, true))⟩, .L),
     (⟨(some 43), .pick (.t 35) (.t 42) (.c (.bool false)), none⟩, .L),
     (⟨(some 6), .mov (.t 43), none⟩, .L)])
  (.ret))
/-- purser/purserref09.Is -/
def f_purserref09_Is : Fn := ⟨44, [.tmp 6],
  .seq (.ops [⟨(some 5), .box (.t 2), none⟩,
     ⟨(some 6), .mov (.c (.bool false)), none⟩])
  (.seq (.seq (.ops [⟨(some 10), .mov (.t 0), none⟩,
      ⟨(some 11), .len false (.t 10), none⟩,
      ⟨(some 12), .bin .neq .no (.t 11) (.c (.int .i64 32)), none⟩,
      ⟨(some 13), .mov (.t 12), none⟩,
      ⟨(some 14), .mov (.t 1), (some (13, false))⟩,
      ⟨(some 15), .len false (.t 14), (some (13, false))⟩,
      ⟨(some 16), .bin .neq .no (.t 15) (.c (.int .i64 64)), (some (13, false))⟩,
      ⟨(some 17), .pick (.t 13) (.c (.bool true)) (.t 16), none⟩])
   (.cond (.t 17)
    (.seq (.ops [⟨(some 6), .mov (.c (.bool false)), none⟩])
     (.ret))
    (.skip)))
  (.seq (.ops [⟨(some 7), .alloc [(.int .u8 0), (.int .u8 0), (.int .u8 0), (.int .u8 0), (.int .u8 0), (.int .u8 0), (.int .u8 0), (.int .u8 0), (.int .u8 0), (.int .u8 0), (.int .u8 0), (.int .u8 0), (.int .u8 0), (.int .u8 0), (.int .u8 0), (.int .u8 0), (.int .u8 0), (.int .u8 0), (.int .u8 0), (.int .u8 0), (.int .u8 0), (.int .u8 0), (.int .u8 0), (.int .u8 0), (.int .u8 0), (.int .u8 0), (.int .u8 0), (.int .u8 0), (.int .u8 0), (.int .u8 0), (.int .u8 0), (.int .u8 0)], none⟩])
  (.seq (.seq (.ops [⟨(some 8), .mov (.c (.int .i64 0)), none⟩])
   (.block 0 (.loop (L_purserref09_Is_0))))
  (R_purserref09_Is_0))))⟩

end Go.Eng
