/- Functions of the program, as the evaluator takes them: printed by program. -/
import Derived.Test.YtglaaipaomnnmaaShF
namespace Go.Eng
open Go
/-- purser/purserlaw09.SignBinds -/
abbrev k_purserlaw09_SignBinds : Nat := 12
/-- purser/purserlaw09.SignTurned -/
abbrev k_purserlaw09_SignTurned : Nat := 13
/-- purser/purserlaw09.SignTold -/
abbrev k_purserlaw09_SignTold : Nat := 14
/-- purser/sign.Sign -/
abbrev k_sign_Sign : Nat := 35
/-- purser/sign.Public -/
abbrev k_sign_Public : Nat := 36
/-- purser/sign.Is -/
abbrev k_sign_Is : Nat := 39
/-- purser/purserlaw09.alive -/
abbrev k_purserlaw09_alive : Nat := 41
/-- purser/purserlaw09.meet -/
abbrev k_purserlaw09_meet : Nat := 42
/-- purser/purserlaw09.behind -/
abbrev k_purserlaw09_behind : Nat := 43
/-- purser/sign.seal -/
abbrev k_sign_seal : Nat := 57
/-- purser/purserlaw09.SignBinds -/
def f_purserlaw09_SignBinds : Fn := ⟨91, [.tmp 8],
  .seq (.ops [⟨(some 4), .box (.t 0), none⟩,
     ⟨(some 5), .box (.t 1), none⟩,
     ⟨(some 6), .box (.t 2), none⟩,
     ⟨(some 7), .box (.t 3), none⟩,
     ⟨(some 8), .mov (.c (.bool false)), none⟩])
  (.seq (.ops [⟨(some 14), .call k_purserlaw09_alive [], none⟩,
     ⟨(some 9), .mov (.t 14), none⟩])
  (.seq (.dops 2 [] [(⟨(some 15), .load (some 32) (.t 4), none⟩, .R [] []),
     (⟨(some 16), .call k_sign_Public [(.t 15)], none⟩, .B []),
     (⟨(some 17), .load (some 32) (.t 5), none⟩, .R [] [(4, [])]),
     (⟨(some 18), .call k_sign_Public [(.t 17)], none⟩, .B []),
     (⟨(some 10), .alloc [(.int .u8 0), (.int .u8 0), (.int .u8 0), (.int .u8 0), (.int .u8 0), (.int .u8 0), (.int .u8 0), (.int .u8 0), (.int .u8 0), (.int .u8 0), (.int .u8 0), (.int .u8 0), (.int .u8 0), (.int .u8 0), (.int .u8 0), (.int .u8 0), (.int .u8 0), (.int .u8 0), (.int .u8 0), (.int .u8 0), (.int .u8 0), (.int .u8 0), (.int .u8 0), (.int .u8 0), (.int .u8 0), (.int .u8 0), (.int .u8 0), (.int .u8 0), (.int .u8 0), (.int .u8 0), (.int .u8 0), (.int .u8 0)], none⟩, .Al 0),
     (⟨(some 11), .alloc [(.int .u8 0), (.int .u8 0), (.int .u8 0), (.int .u8 0), (.int .u8 0), (.int .u8 0), (.int .u8 0), (.int .u8 0), (.int .u8 0), (.int .u8 0), (.int .u8 0), (.int .u8 0), (.int .u8 0), (.int .u8 0), (.int .u8 0), (.int .u8 0), (.int .u8 0), (.int .u8 0), (.int .u8 0), (.int .u8 0), (.int .u8 0), (.int .u8 0), (.int .u8 0), (.int .u8 0), (.int .u8 0), (.int .u8 0), (.int .u8 0), (.int .u8 0), (.int .u8 0), (.int .u8 0), (.int .u8 0), (.int .u8 0)], none⟩, .Al 1),
     (⟨none, .store 32 (.t 10) (.t 16), none⟩, .B [0, 1]),
     (⟨none, .store 32 (.t 11) (.t 18), none⟩, .B [])])
  (.seq (.dops 0 [] [(⟨(some 19), .load (some 32) (.t 4), none⟩, .R [] []),
     (⟨(some 20), .load (some 32) (.t 6), none⟩, .R [] []),
     (⟨(some 21), .call k_sign_Sign [(.t 19), (.t 20)], none⟩, .B []),
     (⟨(some 22), .load (some 32) (.t 5), none⟩, .R [] [(2, [])]),
     (⟨(some 23), .load (some 32) (.t 6), none⟩, .R [] [(2, [])]),
     (⟨(some 24), .call k_sign_Sign [(.t 22), (.t 23)], none⟩, .B []),
     (⟨(some 12), .mov (.t 21), none⟩, .L),
     (⟨(some 13), .mov (.t 24), none⟩, .L)])
  (.seq (.seq (.dops 0 [] [(⟨(some 25), .slcA 32 1 (.t 10) none none none, none⟩, .R [] []),
      (⟨(some 26), .mov (.t 12), none⟩, .L),
      (⟨(some 27), .load (some 32) (.t 6), none⟩, .R [] []),
      (⟨(some 28), .call k_sign_Is [(.t 25), (.t 26), (.t 27)], none⟩, .B []),
      (⟨(some 29), .un .not (.t 28), none⟩, .L),
      (⟨(some 30), .mov (.t 29), none⟩, .L),
      (⟨(some 31), .slcA 32 1 (.t 11) none none none, (some (30, false))⟩, .R [] []),
      (⟨(some 32), .mov (.t 13), (some (30, false))⟩, .L),
      (⟨(some 33), .load (some 32) (.t 6), (some (30, false))⟩, .R [] []),
      (⟨(some 34), .call k_sign_Is [(.t 31), (.t 32), (.t 33)], (some (30, false))⟩, .B []),
      (⟨(some 35), .un .not (.t 34), (some (30, false))⟩, .L),
      (⟨(some 36), .pick (.t 30) (.c (.bool true)) (.t 35), none⟩, .L)])
   (.cond (.t 36)
    (.seq (.ops [⟨(some 8), .mov (.c (.bool false)), none⟩])
     (.ret))
    (.skip)))
  (.seq (.seq (.dops 1 [] [(⟨(some 37), .slcA 32 1 (.t 4) none none none, none⟩, .R [] [(3, []), (2, []), (1, [])]),
      (⟨(some 38), .slcA 32 1 (.t 5) none none none, none⟩, .R [] [(3, []), (2, []), (1, [])]),
      (⟨(some 39), .load (some 32) (.t 4), none⟩, .R [] []),
      (⟨(some 40), .load (some 32) (.t 6), none⟩, .R [] []),
      (⟨(some 41), .call k_purserlaw09_behind [(.t 39), (.t 40)], none⟩, .B []),
      (⟨(some 42), .load (some 32) (.t 4), none⟩, .R [] [(4, [])]),
      (⟨(some 43), .load (some 32) (.t 7), none⟩, .R [] [(4, [])]),
      (⟨(some 44), .call k_purserlaw09_behind [(.t 42), (.t 43)], none⟩, .B []),
      (⟨(some 45), .load (some 32) (.t 5), none⟩, .R [] [(4, []), (3, [])]),
      (⟨(some 46), .load (some 32) (.t 6), none⟩, .R [] [(4, []), (3, [])]),
      (⟨(some 47), .call k_purserlaw09_behind [(.t 45), (.t 46)], none⟩, .B []),
      (⟨(some 48), .buildS [(.slice none 0 (some 0) 0), (.slice none 0 (some 0) 0), (.slice none 0 (some 0) 0), (.slice none 0 (some 0) 0), (.slice none 0 (some 0) 0)] 5 1 [(0, 1, (.t 37)), (1, 1, (.t 38)), (2, 1, (.t 41)), (3, 1, (.t 44)), (4, 1, (.t 47))], none⟩, .Al 0),
      (⟨(some 49), .call k_purserlaw09_meet [(.t 48)], none⟩, .B [0])])
   (.cond (.t 49)
    (.seq (.ops [⟨(some 50), .mov (.t 9), none⟩,
        ⟨(some 8), .mov (.t 50), none⟩])
     (.ret))
    (.skip)))
  (.seq (.dops 0 [] [(⟨(some 51), .mov (.t 9), none⟩, .L),
     (⟨(some 52), .mov (.t 51), none⟩, .L),
     (⟨(some 53), .slcA 32 1 (.t 10) none none none, (some (52, true))⟩, .R [] []),
     (⟨(some 54), .mov (.t 12), (some (52, true))⟩, .L),
     (⟨(some 55), .load (some 32) (.t 7), (some (52, true))⟩, .R [] []),
     (⟨(some 56), .call k_sign_Is [(.t 53), (.t 54), (.t 55)], (some (52, true))⟩, .B []),
     (⟨(some 57), .load (some 32) (.t 7), (some (52, true))⟩, .R [] [(3, [])]),
     (⟨(some 58), .load (some 32) (.t 6), (some (52, true))⟩, .R [] [(3, [])]),
     (⟨(some 59), .bin .eql (.flat [.i, .i, .i, .i, .i, .i, .i, .i, .i, .i, .i, .i, .i, .i, .i, .i, .i, .i, .i, .i, .i, .i, .i, .i, .i, .i, .i, .i, .i, .i, .i, .i]) (.t 57) (.t 58), (some (52, true))⟩, .L),
     (⟨(some 60), .bin .eql .bool (.t 56) (.t 59), (some (52, true))⟩, .L),
     (⟨(some 61), .pick (.t 52) (.t 60) (.c (.bool false)), none⟩, .L),
     (⟨(some 62), .mov (.t 61), none⟩, .L),
     (⟨(some 63), .slcA 32 1 (.t 10) none none none, (some (62, true))⟩, .R [] []),
     (⟨(some 64), .mov (.t 13), (some (62, true))⟩, .L),
     (⟨(some 65), .load (some 32) (.t 6), (some (62, true))⟩, .R [] []),
     (⟨(some 66), .call k_sign_Is [(.t 63), (.t 64), (.t 65)], (some (62, true))⟩, .B []),
     (⟨(some 67), .load (some 32) (.t 5), (some (62, true))⟩, .R [] [(2, [])]),
     (⟨(some 68), .load (some 32) (.t 4), (some (62, true))⟩, .R [] [(2, [])]),
     (⟨(some 69), .bin .eql (.flat [.i, .i, .i, .i, .i, .i, .i, .i, .i, .i, .i, .i, .i, .i, .i, .i, .i, .i, .i, .i, .i, .i, .i, .i, .i, .i, .i, .i, .i, .i, .i, .i]) (.t 67) (.t 68), (some (62, true))⟩, .L),
     (⟨(some 70), .bin .eql .bool (.t 66) (.t 69), (some (62, true))⟩, .L),
     (⟨(some 71), .pick (.t 62) (.t 70) (.c (.bool false)), none⟩, .L),
     (⟨(some 72), .mov (.t 71), none⟩, .L),
     (⟨(some 73), .slcA 32 1 (.t 11) none none none, (some (72, true))⟩, .R [] []),
     (⟨(some 74), .mov (.t 12), (some (72, true))⟩, .L),
     (⟨(some 75), .load (some 32) (.t 6), (some (72, true))⟩, .R [] []),
     (⟨(some 76), .call k_sign_Is [(.t 73), (.t 74), (.t 75)], (some (72, true))⟩, .B []),
     (⟨(some 77), .load (some 32) (.t 5), (some (72, true))⟩, .R [] [(1, [])]),
     (⟨(some 78), .load (some 32) (.t 4), (some (72, true))⟩, .R [] [(1, [])]),
     (⟨(some 79), .bin .eql (.flat [.i, .i, .i, .i, .i, .i, .i, .i, .i, .i, .i, .i, .i, .i, .i, .i, .i, .i, .i, .i, .i, .i, .i, .i, .i, .i, .i, .i, .i, .i, .i, .i]) (.t 77) (.t 78), (some (72, true))⟩, .L),
     (⟨(some 80), .bin .eql .bool (.t 76) (.t 79), (some (72, true))⟩, .L),
     (⟨(some 81), .pick (.t 72) (.t 80) (.c (.bool false)), none⟩, .L),
     (⟨(some 82), .mov (.t 81), none⟩, .L),
     (⟨(some 83), .load (some 32) (.t 10), (some (82, true))⟩, .R [] []),
     (⟨(some 84), .load (some 32) (.t 11), (some (82, true))⟩, .R [] []),
     (⟨(some 85), .bin .eql (.flat [.i, .i, .i, .i, .i, .i, .i, .i, .i, .i, .i, .i, .i, .i, .i, .i, .i, .i, .i, .i, .i, .i, .i, .i, .i, .i, .i, .i, .i, .i, .i, .i]) (.t 83) (.t 84), (some (82, true))⟩, .L),
     (⟨(some 86), .load (some 32) (.t 4), (some (82, true))⟩, .R [] []),
     (⟨(some 87), .load (some 32) (.t 5), (some (82, true))⟩, .R [] []),
     (⟨(some 88), .bin .eql (.flat [.i, .i, .i, .i, .i, .i, .i, .i, .i, .i, .i, .i, .i, .i, .i, .i, .i, .i, .i, .i, .i, .i, .i, .i, .i, .i, .i, .i, .i, .i, .i, .i]) (.t 86) (.t 87), (some (82, true))⟩, .L),
     (⟨(some 89), .bin .eql .bool (.t 85) (.t 88), (some (82, true))⟩, .L),
     (⟨(some 90), .pick (.t 82) (.t 89) (.c (.bool false)), none⟩, .L),
     (⟨(some 8), .mov (.t 90), none⟩, .L)])
  (.ret)))))))⟩
/-- purser/purserlaw09.SignTurned -/
def f_purserlaw09_SignTurned : Fn := ⟨69, [.tmp 8],
  .seq (.ops [⟨(some 4), .box (.t 0), none⟩,
     ⟨(some 5), .box (.t 1), none⟩,
     ⟨(some 8), .mov (.c (.bool false)), none⟩])
  (.seq (.ops [⟨(some 13), .call k_purserlaw09_alive [], none⟩,
     ⟨(some 9), .mov (.t 13), none⟩])
  (.seq (.dops 1 [] [(⟨(some 14), .load (some 32) (.t 4), none⟩, .R [] []),
     (⟨(some 15), .call k_sign_Public [(.t 14)], none⟩, .B []),
     (⟨(some 16), .load (some 32) (.t 4), none⟩, .R [] [(3, [])]),
     (⟨(some 17), .load (some 32) (.t 5), none⟩, .R [] [(3, [])]),
     (⟨(some 18), .call k_sign_Sign [(.t 16), (.t 17)], none⟩, .B []),
     (⟨(some 10), .alloc [(.int .u8 0), (.int .u8 0), (.int .u8 0), (.int .u8 0), (.int .u8 0), (.int .u8 0), (.int .u8 0), (.int .u8 0), (.int .u8 0), (.int .u8 0), (.int .u8 0), (.int .u8 0), (.int .u8 0), (.int .u8 0), (.int .u8 0), (.int .u8 0), (.int .u8 0), (.int .u8 0), (.int .u8 0), (.int .u8 0), (.int .u8 0), (.int .u8 0), (.int .u8 0), (.int .u8 0), (.int .u8 0), (.int .u8 0), (.int .u8 0), (.int .u8 0), (.int .u8 0), (.int .u8 0), (.int .u8 0), (.int .u8 0)], none⟩, .Al 0),
     (⟨none, .store 32 (.t 10) (.t 15), none⟩, .B [0]),
     (⟨(some 11), .mov (.t 18), none⟩, .L)])
  (.seq (.seq (.ops [⟨(some 19), .mov (.t 11), none⟩,
      ⟨(some 20), .len false (.t 19), none⟩,
      ⟨(some 21), .bin .neq .no (.t 20) (.c (.int .i64 64)), none⟩,
      ⟨(some 22), .mov (.t 21), none⟩,
      ⟨(some 23), .mov (.t 3), (some (22, false))⟩,
      ⟨(some 24), .bin .eql .no (.t 23) (.c (.int .u8 0)), (some (22, false))⟩,
      ⟨(some 25), .pick (.t 22) (.c (.bool true)) (.t 24), none⟩])
   (.cond (.t 25)
    (.seq (.ops [⟨(some 26), .mov (.t 9), none⟩,
        ⟨(some 27), .mov (.t 26), none⟩,
        ⟨(some 28), .mov (.t 11), (some (27, true))⟩,
        ⟨(some 29), .len false (.t 28), (some (27, true))⟩,
        ⟨(some 30), .bin .eql .no (.t 29) (.c (.int .i64 64)), (some (27, true))⟩,
        ⟨(some 31), .pick (.t 27) (.t 30) (.c (.bool false)), none⟩,
        ⟨(some 8), .mov (.t 31), none⟩])
     (.ret))
    (.skip)))
  (.seq (.ops [⟨(some 32), .mov (.t 2), none⟩,
     ⟨(some 33), .conv .i64 (.t 32), none⟩,
     ⟨(some 34), .bin .rem .no (.t 33) (.c (.int .i64 96)), none⟩,
     ⟨(some 12), .mov (.t 34), none⟩])
  (.seq (.seq (.ops [⟨(some 35), .mov (.t 12), none⟩,
      ⟨(some 36), .bin .lss .no (.t 35) (.c (.int .i64 64)), none⟩])
   (.cond (.t 36)
    (.seq (.ops [⟨(some 37), .mov (.t 11), none⟩,
        ⟨(some 38), .mov (.t 12), none⟩,
        ⟨(some 39), .mov (.t 11), none⟩,
        ⟨(some 40), .mov (.t 12), none⟩,
        ⟨(some 41), .idxAddrS 1 (.t 39) (.t 40), none⟩,
        ⟨(some 42), .load none (.t 41), none⟩,
        ⟨(some 43), .mov (.t 3), none⟩,
        ⟨(some 44), .bin .xor .no (.t 42) (.t 43), none⟩,
        ⟨(some 45), .idxAddrS 1 (.t 37) (.t 38), none⟩,
        ⟨none, .store 1 (.t 45) (.t 44), none⟩])
     (.seq (.dops 1 [] [(⟨(some 46), .slcA 32 1 (.t 4) none none none, none⟩, .R [] []),
        (⟨(some 47), .mov (.t 11), none⟩, .L),
        (⟨(some 48), .slcS 1 (.t 47) none (some (.c (.int .i64 32))) none, none⟩, .L),
        (⟨(some 49), .buildS [(.slice none 0 (some 0) 0), (.slice none 0 (some 0) 0)] 2 1 [(0, 1, (.t 46)), (1, 1, (.t 48))], none⟩, .Al 0),
        (⟨(some 50), .call k_purserlaw09_meet [(.t 49)], none⟩, .B [0])])
     (.cond (.t 50)
      (.seq (.ops [⟨(some 51), .mov (.t 9), none⟩,
          ⟨(some 8), .mov (.t 51), none⟩])
       (.ret))
      (.skip))))
    (.ops [⟨(some 52), .mov (.t 12), none⟩,
       ⟨(some 53), .bin .sub .no (.t 52) (.c (.int .i64 64)), none⟩,
       ⟨(some 54), .mov (.t 12), none⟩,
       ⟨(some 55), .bin .sub .no (.t 54) (.c (.int .i64 64)), none⟩,
       ⟨(some 56), .idxAddrA 32 1 (.t 10) (.t 55), none⟩,
       ⟨(some 57), .load none (.t 56), none⟩,
       ⟨(some 58), .mov (.t 3), none⟩,
       ⟨(some 59), .bin .xor .no (.t 57) (.t 58), none⟩,
       ⟨(some 60), .idxAddrA 32 1 (.t 10) (.t 53), none⟩,
       ⟨none, .store 1 (.t 60) (.t 59), none⟩])))
  (.seq (.dops 0 [] [(⟨(some 61), .mov (.t 9), none⟩, .L),
     (⟨(some 62), .mov (.t 61), none⟩, .L),
     (⟨(some 63), .slcA 32 1 (.t 10) none none none, (some (62, true))⟩, .R [] []),
     (⟨(some 64), .mov (.t 11), (some (62, true))⟩, .L),
     (⟨(some 65), .load (some 32) (.t 5), (some (62, true))⟩, .R [] []),
     (⟨(some 66), .call k_sign_Is [(.t 63), (.t 64), (.t 65)], (some (62, true))⟩, .B []),
     (⟨(some 67), .un .not (.t 66), (some (62, true))⟩, .L),
     (⟨(some 68), .pick (.t 62) (.t 67) (.c (.bool false)), none⟩, .L),
     (⟨(some 8), .mov (.t 68), none⟩, .L)])
  (.ret)))))))⟩
/-- purser/purserlaw09.SignTold -/
def f_purserlaw09_SignTold : Fn := ⟨33, [.tmp 6],
  .seq (.ops [⟨(some 3), .box (.t 0), none⟩,
     ⟨(some 4), .box (.t 1), none⟩,
     ⟨(some 5), .box (.t 2), none⟩,
     ⟨(some 6), .mov (.c (.bool false)), none⟩])
  (.seq (.ops [⟨(some 11), .call k_purserlaw09_alive [], none⟩,
     ⟨(some 7), .mov (.t 11), none⟩])
  (.seq (.dops 1 [] [(⟨(some 12), .load (some 32) (.t 3), none⟩, .R [] []),
     (⟨(some 13), .call k_sign_Public [(.t 12)], none⟩, .B []),
     (⟨(some 14), .load (some 32) (.t 3), none⟩, .R [] [(3, [])]),
     (⟨(some 15), .load (some 32) (.t 4), none⟩, .R [] [(3, [])]),
     (⟨(some 16), .call k_sign_Sign [(.t 14), (.t 15)], none⟩, .B []),
     (⟨(some 8), .alloc [(.int .u8 0), (.int .u8 0), (.int .u8 0), (.int .u8 0), (.int .u8 0), (.int .u8 0), (.int .u8 0), (.int .u8 0), (.int .u8 0), (.int .u8 0), (.int .u8 0), (.int .u8 0), (.int .u8 0), (.int .u8 0), (.int .u8 0), (.int .u8 0), (.int .u8 0), (.int .u8 0), (.int .u8 0), (.int .u8 0), (.int .u8 0), (.int .u8 0), (.int .u8 0), (.int .u8 0), (.int .u8 0), (.int .u8 0), (.int .u8 0), (.int .u8 0), (.int .u8 0), (.int .u8 0), (.int .u8 0), (.int .u8 0)], none⟩, .Al 0),
     (⟨none, .store 32 (.t 8) (.t 13), none⟩, .B [0]),
     (⟨(some 9), .mov (.t 16), none⟩, .L)])
  (.seq (.seq (.ops [⟨(some 17), .mov (.t 9), none⟩,
      ⟨(some 18), .len false (.t 17), none⟩,
      ⟨(some 19), .bin .neq .no (.t 18) (.c (.int .i64 64)), none⟩])
   (.cond (.t 19)
    (.seq (.ops [⟨(some 6), .mov (.c (.bool false)), none⟩])
     (.ret))
    (.skip)))
  (.seq (.dops 0 [] [(⟨(some 20), .mov (.t 9), none⟩, .L),
     (⟨(some 21), .slcS 1 (.t 20) none (some (.c (.int .i64 32))) none, none⟩, .L),
     (⟨(some 22), .s2a 32 (.t 21), none⟩, .L),
     (⟨(some 23), .load (some 32) (.t 22), none⟩, .R [] []),
     (⟨(some 24), .load (some 32) (.t 5), none⟩, .R [] []),
     (⟨(some 25), .call k_sign_Sign [(.t 23), (.t 24)], none⟩, .B []),
     (⟨(some 10), .mov (.t 25), none⟩, .L)])
  (.seq (.dops 0 [] [(⟨(some 26), .mov (.t 7), none⟩, .L),
     (⟨(some 27), .mov (.t 26), none⟩, .L),
     (⟨(some 28), .slcA 32 1 (.t 8) none none none, (some (27, true))⟩, .R [] []),
     (⟨(some 29), .mov (.t 10), (some (27, true))⟩, .L),
     (⟨(some 30), .load (some 32) (.t 5), (some (27, true))⟩, .R [] []),
     (⟨(some 31), .call k_sign_Is [(.t 28), (.t 29), (.t 30)], (some (27, true))⟩, .B []),
     (⟨(some 32), .pick (.t 27) (.t 31) (.c (.bool false)), none⟩, .L),
     (⟨(some 6), .mov (.t 32), none⟩, .L)])
  (.ret))))))⟩
/-- purser/sign.Sign -/
def f_sign_Sign : Fn := ⟨19, [.tmp 4],
  .seq (.ops [⟨(some 2), .box (.t 0), none⟩,
     ⟨(some 3), .box (.t 1), none⟩,
     ⟨(some 4), .mov (.c (.slice none 0 (some 0) 0)), none⟩])
  (.seq (.ops [⟨(some 7), .mkslice [(.int .u8 0)] 1 (.c (.int .i64 64)) (.c (.int .i64 64)), none⟩,
     ⟨(some 5), .mov (.t 7), none⟩])
  (.seq (.ops [⟨(some 8), .mov (.t 5), none⟩,
     ⟨(some 9), .slcA 32 1 (.t 2) none none none, none⟩,
     ⟨(some 10), .copy 1 (.t 8) (.t 9), none⟩])
  (.seq (.dops 1 [] [(⟨(some 11), .slcA 32 1 (.t 2) none none none, none⟩, .R [] []),
     (⟨(some 12), .load (some 32) (.t 3), none⟩, .R [] []),
     (⟨(some 13), .call k_sign_seal [(.t 11), (.t 12)], none⟩, .B []),
     (⟨(some 6), .alloc [(.int .u8 0), (.int .u8 0), (.int .u8 0), (.int .u8 0), (.int .u8 0), (.int .u8 0), (.int .u8 0), (.int .u8 0), (.int .u8 0), (.int .u8 0), (.int .u8 0), (.int .u8 0), (.int .u8 0), (.int .u8 0), (.int .u8 0), (.int .u8 0), (.int .u8 0), (.int .u8 0), (.int .u8 0), (.int .u8 0), (.int .u8 0), (.int .u8 0), (.int .u8 0), (.int .u8 0), (.int .u8 0), (.int .u8 0), (.int .u8 0), (.int .u8 0), (.int .u8 0), (.int .u8 0), (.int .u8 0), (.int .u8 0)], none⟩, .Al 0),
     (⟨none, .store 32 (.t 6) (.t 13), none⟩, .B [0])])
  (.seq (.dops 0 [] [(⟨(some 14), .mov (.t 5), none⟩, .L),
     (⟨(some 15), .slcS 1 (.t 14) (some (.c (.int .i64 32))) none none, none⟩, .L),
     (⟨(some 16), .slcA 32 1 (.t 6) none none none, none⟩, .R [] []),
     (⟨(some 17), .copy 1 (.t 15) (.t 16), none⟩, .B [])])
  (.seq (.ops [⟨(some 18), .mov (.t 5), none⟩,
     ⟨(some 4), .mov (.t 18), none⟩])
  (.ret))))))⟩
/-- purser/sign.Public -/
def f_sign_Public : Fn := ⟨5, [.cell 2 (some 32)],
  .seq (.ops [⟨(some 1), .box (.t 0), none⟩,
     ⟨(some 2), .alloc [(.int .u8 0), (.int .u8 0), (.int .u8 0), (.int .u8 0), (.int .u8 0), (.int .u8 0), (.int .u8 0), (.int .u8 0), (.int .u8 0), (.int .u8 0), (.int .u8 0), (.int .u8 0), (.int .u8 0), (.int .u8 0), (.int .u8 0), (.int .u8 0), (.int .u8 0), (.int .u8 0), (.int .u8 0), (.int .u8 0), (.int .u8 0), (.int .u8 0), (.int .u8 0), (.int .u8 0), (.int .u8 0), (.int .u8 0), (.int .u8 0), (.int .u8 0), (.int .u8 0), (.int .u8 0), (.int .u8 0), (.int .u8 0)], none⟩])
  (.seq (.ops [⟨(some 3), .slcA 32 1 (.t 1) none none none, none⟩,
     ⟨(some 4), .call k_sha_Of [(.t 3)], none⟩,
     ⟨none, .store 32 (.t 2) (.t 4), none⟩])
  (.ret))⟩
/-- purser/sign.Is -/
def f_sign_Is : Fn := ⟨36, [.tmp 6],
  .seq (.ops [⟨(some 5), .box (.t 2), none⟩,
     ⟨(some 6), .mov (.c (.bool false)), none⟩])
  (.seq (.seq (.ops [⟨(some 9), .mov (.t 0), none⟩,
      ⟨(some 10), .len false (.t 9), none⟩,
      ⟨(some 11), .bin .neq .no (.t 10) (.c (.int .i64 32)), none⟩,
      ⟨(some 12), .mov (.t 11), none⟩,
      ⟨(some 13), .mov (.t 1), (some (12, false))⟩,
      ⟨(some 14), .len false (.t 13), (some (12, false))⟩,
      ⟨(some 15), .bin .neq .no (.t 14) (.c (.int .i64 64)), (some (12, false))⟩,
      ⟨(some 16), .pick (.t 12) (.c (.bool true)) (.t 15), none⟩])
   (.cond (.t 16)
    (.seq (.ops [⟨(some 6), .mov (.c (.bool false)), none⟩])
     (.ret))
    (.skip)))
  (.seq (.dops 0 [] [(⟨(some 17), .mov (.t 1), none⟩, .L),
     (⟨(some 18), .slcS 1 (.t 17) none (some (.c (.int .i64 32))) (some (.c (.int .i64 32))), none⟩, .L),
     (⟨(some 19), .mov (.t 1), none⟩, .L),
     (⟨(some 20), .slcS 1 (.t 19) (some (.c (.int .i64 32))) none none, none⟩, .L),
     (⟨(some 7), .mov (.t 18), none⟩, .L),
     (⟨(some 8), .mov (.t 20), none⟩, .L)])
  (.seq (.dops 0 [] [(⟨(some 21), .mov (.t 7), none⟩, .L),
     (⟨(some 22), .call k_sha_Of [(.t 21)], none⟩, .B []),
     (⟨(some 23), .mov (.t 0), none⟩, .L),
     (⟨(some 24), .s2a 32 (.t 23), none⟩, .L),
     (⟨(some 25), .load (some 32) (.t 24), none⟩, .R [] [(2, [])]),
     (⟨(some 26), .bin .eql (.flat [.i, .i, .i, .i, .i, .i, .i, .i, .i, .i, .i, .i, .i, .i, .i, .i, .i, .i, .i, .i, .i, .i, .i, .i, .i, .i, .i, .i, .i, .i, .i, .i]) (.t 22) (.t 25), none⟩, .L),
     (⟨(some 27), .mov (.t 26), none⟩, .L),
     (⟨(some 28), .mov (.t 7), (some (27, true))⟩, .L),
     (⟨(some 29), .load (some 32) (.t 5), (some (27, true))⟩, .R [] []),
     (⟨(some 30), .call k_sign_seal [(.t 28), (.t 29)], (some (27, true))⟩, .B []),
     (⟨(some 31), .mov (.t 8), (some (27, true))⟩, .L),
     (⟨(some 32), .s2a 32 (.t 31), (some (27, true))⟩, .L),
     (⟨(some 33), .load (some 32) (.t 32), (some (27, true))⟩, .R [] [(1, [])]),
     (⟨(some 34), .bin .eql (.flat [.i, .i, .i, .i, .i, .i, .i, .i, .i, .i, .i, .i, .i, .i, .i, .i, .i, .i, .i, .i, .i, .i, .i, .i, .i, .i, .i, .i, .i, .i, .i, .i]) (.t 30) (.t 33), (some (27, true))⟩, .L),
     (⟨(some 35), .pick (.t 27) (.t 34) (.c (.bool false)), none⟩, .L),
     (⟨(some 6), .mov (.t 35), none⟩, .L)])
  (.ret))))⟩
/-- purser/purserlaw09.alive -/
def f_purserlaw09_alive : Fn := ⟨19, [.tmp 0],
  .seq (.ops [⟨(some 0), .mov (.c (.bool false)), none⟩])
  (.seq (.ops [⟨(some 2), .build [(.int .u8 0), (.int .u8 0), (.int .u8 0), (.int .u8 0), (.int .u8 0), (.int .u8 0), (.int .u8 0), (.int .u8 0), (.int .u8 0), (.int .u8 0), (.int .u8 0), (.int .u8 0), (.int .u8 0), (.int .u8 0), (.int .u8 0), (.int .u8 0), (.int .u8 0), (.int .u8 0), (.int .u8 0), (.int .u8 0), (.int .u8 0), (.int .u8 0), (.int .u8 0), (.int .u8 0), (.int .u8 0), (.int .u8 0), (.int .u8 0), (.int .u8 0), (.int .u8 0), (.int .u8 0), (.int .u8 0), (.int .u8 0)] [(0, 1, (.c (.int .u8 1)))], none⟩,
     ⟨(some 3), .call k_sign_Public [(.t 2)], none⟩,
     ⟨(some 1), .alloc [(.int .u8 0), (.int .u8 0), (.int .u8 0), (.int .u8 0), (.int .u8 0), (.int .u8 0), (.int .u8 0), (.int .u8 0), (.int .u8 0), (.int .u8 0), (.int .u8 0), (.int .u8 0), (.int .u8 0), (.int .u8 0), (.int .u8 0), (.int .u8 0), (.int .u8 0), (.int .u8 0), (.int .u8 0), (.int .u8 0), (.int .u8 0), (.int .u8 0), (.int .u8 0), (.int .u8 0), (.int .u8 0), (.int .u8 0), (.int .u8 0), (.int .u8 0), (.int .u8 0), (.int .u8 0), (.int .u8 0), (.int .u8 0)], none⟩,
     ⟨none, .store 32 (.t 1) (.t 3), none⟩])
  (.seq (.dops 0 [] [(⟨(some 4), .slcA 32 1 (.t 1) none none none, none⟩, .R [] [(3, [])]),
     (⟨(some 5), .build [(.int .u8 0), (.int .u8 0), (.int .u8 0), (.int .u8 0), (.int .u8 0), (.int .u8 0), (.int .u8 0), (.int .u8 0), (.int .u8 0), (.int .u8 0), (.int .u8 0), (.int .u8 0), (.int .u8 0), (.int .u8 0), (.int .u8 0), (.int .u8 0), (.int .u8 0), (.int .u8 0), (.int .u8 0), (.int .u8 0), (.int .u8 0), (.int .u8 0), (.int .u8 0), (.int .u8 0), (.int .u8 0), (.int .u8 0), (.int .u8 0), (.int .u8 0), (.int .u8 0), (.int .u8 0), (.int .u8 0), (.int .u8 0)] [(0, 1, (.c (.int .u8 1)))], none⟩, .L),
     (⟨(some 6), .build [(.int .u8 0), (.int .u8 0), (.int .u8 0), (.int .u8 0), (.int .u8 0), (.int .u8 0), (.int .u8 0), (.int .u8 0), (.int .u8 0), (.int .u8 0), (.int .u8 0), (.int .u8 0), (.int .u8 0), (.int .u8 0), (.int .u8 0), (.int .u8 0), (.int .u8 0), (.int .u8 0), (.int .u8 0), (.int .u8 0), (.int .u8 0), (.int .u8 0), (.int .u8 0), (.int .u8 0), (.int .u8 0), (.int .u8 0), (.int .u8 0), (.int .u8 0), (.int .u8 0), (.int .u8 0), (.int .u8 0), (.int .u8 0)] [(0, 1, (.c (.int .u8 2)))], none⟩, .L),
     (⟨(some 7), .call k_sign_Sign [(.t 5), (.t 6)], none⟩, .B []),
     (⟨(some 8), .build [(.int .u8 0), (.int .u8 0), (.int .u8 0), (.int .u8 0), (.int .u8 0), (.int .u8 0), (.int .u8 0), (.int .u8 0), (.int .u8 0), (.int .u8 0), (.int .u8 0), (.int .u8 0), (.int .u8 0), (.int .u8 0), (.int .u8 0), (.int .u8 0), (.int .u8 0), (.int .u8 0), (.int .u8 0), (.int .u8 0), (.int .u8 0), (.int .u8 0), (.int .u8 0), (.int .u8 0), (.int .u8 0), (.int .u8 0), (.int .u8 0), (.int .u8 0), (.int .u8 0), (.int .u8 0), (.int .u8 0), (.int .u8 0)] [(0, 1, (.c (.int .u8 2)))], none⟩, .L),
     (⟨(some 9), .call k_sign_Is [(.t 4), (.t 7), (.t 8)], none⟩, .B []),
     (⟨(some 10), .mov (.t 9), none⟩, .L),
     (⟨(some 11), .slcA 32 1 (.t 1) none none none, (some (10, true))⟩, .R [] [(1, [])]),
     (⟨(some 12), .build [(.int .u8 0), (.int .u8 0), (.int .u8 0), (.int .u8 0), (.int .u8 0), (.int .u8 0), (.int .u8 0), (.int .u8 0), (.int .u8 0), (.int .u8 0), (.int .u8 0), (.int .u8 0), (.int .u8 0), (.int .u8 0), (.int .u8 0), (.int .u8 0), (.int .u8 0), (.int .u8 0), (.int .u8 0), (.int .u8 0), (.int .u8 0), (.int .u8 0), (.int .u8 0), (.int .u8 0), (.int .u8 0), (.int .u8 0), (.int .u8 0), (.int .u8 0), (.int .u8 0), (.int .u8 0), (.int .u8 0), (.int .u8 0)] [(0, 1, (.c (.int .u8 1)))], (some (10, true))⟩, .L),
     (⟨(some 13), .build [(.int .u8 0), (.int .u8 0), (.int .u8 0), (.int .u8 0), (.int .u8 0), (.int .u8 0), (.int .u8 0), (.int .u8 0), (.int .u8 0), (.int .u8 0), (.int .u8 0), (.int .u8 0), (.int .u8 0), (.int .u8 0), (.int .u8 0), (.int .u8 0), (.int .u8 0), (.int .u8 0), (.int .u8 0), (.int .u8 0), (.int .u8 0), (.int .u8 0), (.int .u8 0), (.int .u8 0), (.int .u8 0), (.int .u8 0), (.int .u8 0), (.int .u8 0), (.int .u8 0), (.int .u8 0), (.int .u8 0), (.int .u8 0)] [(0, 1, (.c (.int .u8 2)))], (some (10, true))⟩, .L),
     (⟨(some 14), .call k_sign_Sign [(.t 12), (.t 13)], (some (10, true))⟩, .B []),
     (⟨(some 15), .build [(.int .u8 0), (.int .u8 0), (.int .u8 0), (.int .u8 0), (.int .u8 0), (.int .u8 0), (.int .u8 0), (.int .u8 0), (.int .u8 0), (.int .u8 0), (.int .u8 0), (.int .u8 0), (.int .u8 0), (.int .u8 0), (.int .u8 0), (.int .u8 0), (.int .u8 0), (.int .u8 0), (.int .u8 0), (.int .u8 0), (.int .u8 0), (.int .u8 0), (.int .u8 0), (.int .u8 0), (.int .u8 0), (.int .u8 0), (.int .u8 0), (.int .u8 0), (.int .u8 0), (.int .u8 0), (.int .u8 0), (.int .u8 0)] [(0, 1, (.c (.int .u8 3)))], (some (10, true))⟩, .L),
     (⟨(some 16), .call k_sign_Is [(.t 11), (.t 14), (.t 15)], (some (10, true))⟩, .B []),
     (⟨(some 17), .un .not (.t 16), (some (10, true))⟩, .L),
     (⟨(some 18), .pick (.t 10) (.t 17) (.c (.bool false)), none⟩, .L),
     (⟨(some 0), .mov (.t 18), none⟩, .L)])
  (.ret)))⟩
def L_purserlaw09_meet_0 : C := .seq (.seq (.ops [⟨(some 10), .mov (.t 4), none⟩,
             ⟨(some 11), .mov (.t 3), none⟩,
             ⟨(some 12), .bin .lss .no (.t 10) (.t 11), none⟩])
          (.cond (.t 12)
           (.skip)
           (.exit 2)))
         (.seq (.block 3 (.seq (.dops 0 [] [(⟨(some 15), .mov (.t 0), none⟩, .L),
              (⟨(some 16), .mov (.t 3), none⟩, .L),
              (⟨(some 17), .idxAddrS 1 (.t 15) (.t 16), none⟩, .L),
              (⟨(some 18), .load none (.t 17), none⟩, .R [] []),
              (⟨(some 19), .b2s (.t 18), none⟩, .R [] []),
              (⟨(some 20), .mov (.t 0), none⟩, .L),
              (⟨(some 21), .mov (.t 4), none⟩, .L),
              (⟨(some 22), .idxAddrS 1 (.t 20) (.t 21), none⟩, .L),
              (⟨(some 23), .load none (.t 22), none⟩, .R [] []),
              (⟨(some 24), .b2s (.t 23), none⟩, .R [] []),
              (⟨(some 25), .bin .neq .no (.t 19) (.t 24), none⟩, .L),
              (⟨(some 26), .mov (.t 25), none⟩, .L),
              (⟨(some 27), .mov (.t 0), (some (26, true))⟩, .L),
              (⟨(some 28), .mov (.t 3), (some (26, true))⟩, .L),
              (⟨(some 29), .idxAddrS 1 (.t 27) (.t 28), (some (26, true))⟩, .L),
              (⟨(some 30), .load none (.t 29), (some (26, true))⟩, .R [] []),
              (⟨(some 31), .call k_sha_Of [(.t 30)], (some (26, true))⟩, .B []),
              (⟨(some 32), .mov (.t 0), (some (26, true))⟩, .L),
              (⟨(some 33), .mov (.t 4), (some (26, true))⟩, .L),
              (⟨(some 34), .idxAddrS 1 (.t 32) (.t 33), (some (26, true))⟩, .L),
              (⟨(some 35), .load none (.t 34), (some (26, true))⟩, .R [] [(2, [])]),
              (⟨(some 36), .call k_sha_Of [(.t 35)], (some (26, true))⟩, .B []),
              (⟨(some 37), .bin .eql (.flat [.i, .i, .i, .i, .i, .i, .i, .i, .i, .i, .i, .i, .i, .i, .i, .i, .i, .i, .i, .i, .i, .i, .i, .i, .i, .i, .i, .i, .i, .i, .i, .i]) (.t 31) (.t 36), (some (26, true))⟩, .L),
              (⟨(some 38), .pick (.t 26) (.t 37) (.c (.bool false)), none⟩, .L)])
           (.cond (.t 38)
            (.seq (.ops [⟨(some 2), .mov (.c (.bool true)), none⟩])
             (.ret))
            (.skip))))
         (.ops [⟨(some 13), .mov (.t 4), none⟩,
           ⟨(some 14), .bin .add .no (.t 13) (.c (.int .i64 1)), none⟩,
           ⟨(some 4), .mov (.t 14), none⟩]))
def R_purserlaw09_meet_0 : C := .ops [⟨(some 39), .bin .add .no (.t 7) (.c (.int .i64 1)), none⟩,
       ⟨(some 7), .mov (.t 39), none⟩]
def L_purserlaw09_meet_1 : C := .seq (.ops [⟨(some 8), .bin .lss .no (.t 7) (.t 6), none⟩])
     (.seq (.cond (.t 8)
       (.skip)
       (.exit 0))
     (.seq (.block 1 (.seq (.ops [⟨(some 9), .mov (.t 7), none⟩,
          ⟨(some 3), .mov (.t 9), none⟩])
       (.seq (.ops [⟨(some 4), .mov (.c (.int .i64 0)), none⟩])
       (.block 2 (.loop (L_purserlaw09_meet_0))))))
     (R_purserlaw09_meet_0)))
def R_purserlaw09_meet_1 : C := .seq (.ops [⟨(some 2), .mov (.c (.bool false)), none⟩])
  (.ret)
/-- purser/purserlaw09.meet -/
def f_purserlaw09_meet : Fn := ⟨40, [.tmp 2],
  .seq (.ops [⟨(some 2), .mov (.c (.bool false)), none⟩])
  (.seq (.seq (.ops [⟨(some 5), .mov (.t 0), none⟩,
      ⟨(some 6), .len false (.t 5), none⟩,
      ⟨(some 7), .mov (.c (.int .i64 0)), none⟩])
   (.block 0 (.loop (L_purserlaw09_meet_1))))
  (R_purserlaw09_meet_1))⟩
/-- purser/purserlaw09.behind -/
def f_purserlaw09_behind : Fn := ⟨10, [.tmp 4],
  .seq (.ops [⟨(some 2), .box (.t 0), none⟩,
     ⟨(some 3), .box (.t 1), none⟩,
     ⟨(some 4), .mov (.c (.slice none 0 (some 0) 0)), none⟩])
  (.seq (.dops 1 [] [(⟨(some 5), .buildS [] 0 1 [], none⟩, .Al 0),
     (⟨(some 6), .slcA 32 1 (.t 2) none none none, none⟩, .R [] []),
     (⟨(some 7), .append 1 1 (.t 5) (.t 6), none⟩, .B [0]),
     (⟨(some 8), .slcA 32 1 (.t 3) none none none, none⟩, .R [] [(2, [])]),
     (⟨(some 9), .append 1 1 (.t 7) (.t 8), none⟩, .B []),
     (⟨(some 4), .mov (.t 9), none⟩, .L)])
  (.ret))⟩
/-- purser/sign.seal -/
def f_sign_seal : Fn := ⟨9, [.cell 4 (some 32)],
  .seq (.ops [⟨(some 3), .box (.t 1), none⟩,
     ⟨(some 4), .alloc [(.int .u8 0), (.int .u8 0), (.int .u8 0), (.int .u8 0), (.int .u8 0), (.int .u8 0), (.int .u8 0), (.int .u8 0), (.int .u8 0), (.int .u8 0), (.int .u8 0), (.int .u8 0), (.int .u8 0), (.int .u8 0), (.int .u8 0), (.int .u8 0), (.int .u8 0), (.int .u8 0), (.int .u8 0), (.int .u8 0), (.int .u8 0), (.int .u8 0), (.int .u8 0), (.int .u8 0), (.int .u8 0), (.int .u8 0), (.int .u8 0), (.int .u8 0), (.int .u8 0), (.int .u8 0), (.int .u8 0), (.int .u8 0)], none⟩])
  (.seq (.ops [⟨(some 5), .mov (.t 0), none⟩,
     ⟨(some 6), .slcA 32 1 (.t 3) none none none, none⟩,
     ⟨(some 7), .append 1 1 (.t 5) (.t 6), none⟩,
     ⟨(some 8), .call k_sha_Of [(.t 7)], none⟩,
     ⟨none, .store 32 (.t 4) (.t 8), none⟩])
  (.ret))⟩

end Go.Eng
