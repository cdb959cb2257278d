/- Functions of the program, as the evaluator takes them: printed by program. -/
import Derived.Test.YtniiddgjepkmeaaEngA
namespace Go.Eng
open Go
/-- purser/purserlaw03.WideUndone -/
abbrev k_purserlaw03_WideUndone : Nat := 4
/-- purser/wide.Add -/
abbrev k_wide_Add : Nat := 15
/-- purser/wide.Sub -/
abbrev k_wide_Sub : Nat := 17
/-- purser/wide.Not -/
abbrev k_wide_Not : Nat := 25
/-- purser/purserlaw03.alive -/
abbrev k_purserlaw03_alive : Nat := 27
/-- purser/wide.Of -/
abbrev k_wide_Of : Nat := 28
/-- purser/wide.Compare -/
abbrev k_wide_Compare : Nat := 29
/-- purser/wide.Mul -/
abbrev k_wide_Mul : Nat := 19
/-- purser/purserlaw03.most -/
abbrev k_purserlaw03_most : Nat := 59
/-- purser/wide.mulAdd -/
abbrev k_wide_mulAdd : Nat := 58
/-- math/bits.Mul64 -/
abbrev k_math_bits_Mul64 : Nat := 81
/-- purser/purserlaw03.WideUndone -/
def f_purserlaw03_WideUndone : Fn := ⟨129, [.tmp 6],
  .seq (.ops [⟨(some 3), .box (.t 0), none⟩,
     ⟨(some 4), .box (.t 1), none⟩,
     ⟨(some 5), .box (.t 2), none⟩,
     ⟨(some 6), .mov (.c (.bool false)), none⟩])
  (.seq (.ops [⟨(some 26), .call k_purserlaw03_alive [], none⟩,
     ⟨(some 7), .mov (.t 26), none⟩])
  (.seq (.ops [⟨(some 28), .load (some 4) (.t 3), none⟩,
     ⟨(some 29), .load (some 4) (.t 4), none⟩,
     ⟨(some 30), .call k_wide_Add [(.t 28), (.t 29)], none⟩,
     ⟨(some 27), .mov (.t 30), none⟩,
     ⟨(some 31), .ext (.t 27) 0, none⟩,
     ⟨(some 32), .ext (.t 27) 1, none⟩,
     ⟨(some 8), .alloc [(.int .u64 0), (.int .u64 0), (.int .u64 0), (.int .u64 0)], none⟩,
     ⟨none, .store 4 (.t 8) (.t 31), none⟩,
     ⟨(some 9), .mov (.t 32), none⟩])
  (.seq (.ops [⟨(some 34), .load (some 4) (.t 4), none⟩,
     ⟨(some 35), .load (some 4) (.t 3), none⟩,
     ⟨(some 36), .call k_wide_Add [(.t 34), (.t 35)], none⟩,
     ⟨(some 33), .mov (.t 36), none⟩,
     ⟨(some 37), .ext (.t 33) 0, none⟩,
     ⟨(some 38), .ext (.t 33) 1, none⟩,
     ⟨(some 10), .alloc [(.int .u64 0), (.int .u64 0), (.int .u64 0), (.int .u64 0)], none⟩,
     ⟨none, .store 4 (.t 10) (.t 37), none⟩,
     ⟨(some 11), .mov (.t 38), none⟩])
  (.seq (.ops [⟨(some 40), .load (some 4) (.t 8), none⟩,
     ⟨(some 41), .load (some 4) (.t 4), none⟩,
     ⟨(some 42), .call k_wide_Sub [(.t 40), (.t 41)], none⟩,
     ⟨(some 39), .mov (.t 42), none⟩,
     ⟨(some 43), .ext (.t 39) 0, none⟩,
     ⟨(some 44), .ext (.t 39) 1, none⟩,
     ⟨(some 12), .alloc [(.int .u64 0), (.int .u64 0), (.int .u64 0), (.int .u64 0)], none⟩,
     ⟨none, .store 4 (.t 12) (.t 43), none⟩,
     ⟨(some 13), .mov (.t 44), none⟩])
  (.seq (.ops [⟨(some 46), .load (some 4) (.t 8), none⟩,
     ⟨(some 47), .load (some 4) (.t 5), none⟩,
     ⟨(some 48), .call k_wide_Add [(.t 46), (.t 47)], none⟩,
     ⟨(some 45), .mov (.t 48), none⟩,
     ⟨(some 49), .ext (.t 45) 0, none⟩,
     ⟨(some 50), .ext (.t 45) 1, none⟩,
     ⟨(some 14), .alloc [(.int .u64 0), (.int .u64 0), (.int .u64 0), (.int .u64 0)], none⟩,
     ⟨none, .store 4 (.t 14) (.t 49), none⟩,
     ⟨(some 15), .mov (.t 50), none⟩])
  (.seq (.ops [⟨(some 52), .load (some 4) (.t 4), none⟩,
     ⟨(some 53), .load (some 4) (.t 5), none⟩,
     ⟨(some 54), .call k_wide_Add [(.t 52), (.t 53)], none⟩,
     ⟨(some 51), .mov (.t 54), none⟩,
     ⟨(some 55), .ext (.t 51) 0, none⟩,
     ⟨(some 56), .ext (.t 51) 1, none⟩,
     ⟨(some 16), .alloc [(.int .u64 0), (.int .u64 0), (.int .u64 0), (.int .u64 0)], none⟩,
     ⟨none, .store 4 (.t 16) (.t 55), none⟩,
     ⟨(some 17), .mov (.t 56), none⟩])
  (.seq (.ops [⟨(some 58), .load (some 4) (.t 3), none⟩,
     ⟨(some 59), .load (some 4) (.t 16), none⟩,
     ⟨(some 60), .call k_wide_Add [(.t 58), (.t 59)], none⟩,
     ⟨(some 57), .mov (.t 60), none⟩,
     ⟨(some 61), .ext (.t 57) 0, none⟩,
     ⟨(some 62), .ext (.t 57) 1, none⟩,
     ⟨(some 18), .alloc [(.int .u64 0), (.int .u64 0), (.int .u64 0), (.int .u64 0)], none⟩,
     ⟨none, .store 4 (.t 18) (.t 61), none⟩,
     ⟨(some 19), .mov (.t 62), none⟩])
  (.seq (.ops [⟨(some 64), .load (some 4) (.t 3), none⟩,
     ⟨(some 65), .load (some 4) (.t 4), none⟩,
     ⟨(some 66), .call k_wide_Sub [(.t 64), (.t 65)], none⟩,
     ⟨(some 63), .mov (.t 66), none⟩,
     ⟨(some 67), .ext (.t 63) 0, none⟩,
     ⟨(some 68), .ext (.t 63) 1, none⟩,
     ⟨(some 20), .alloc [(.int .u64 0), (.int .u64 0), (.int .u64 0), (.int .u64 0)], none⟩,
     ⟨none, .store 4 (.t 20) (.t 67), none⟩,
     ⟨(some 21), .mov (.t 68), none⟩])
  (.seq (.dops 1 [] [(⟨(some 70), .load (some 4) (.t 3), none⟩, .R [] [(2, [])]),
     (⟨(some 71), .load (some 4) (.t 4), none⟩, .R [] []),
     (⟨(some 72), .call k_wide_Not [(.t 71)], none⟩, .B []),
     (⟨(some 73), .call k_wide_Add [(.t 70), (.t 72)], none⟩, .B []),
     (⟨(some 69), .mov (.t 73), none⟩, .L),
     (⟨(some 74), .ext (.t 69) 0, none⟩, .L),
     (⟨(some 75), .ext (.t 69) 1, none⟩, .L),
     (⟨(some 22), .alloc [(.int .u64 0), (.int .u64 0), (.int .u64 0), (.int .u64 0)], none⟩, .Al 0),
     (⟨none, .store 4 (.t 22) (.t 74), none⟩, .B [0]),
     (⟨(some 23), .mov (.t 75), none⟩, .L)])
  (.seq (.dops 1 [] [(⟨(some 77), .load (some 4) (.t 22), none⟩, .R [] [(2, [])]),
     (⟨(some 78), .call k_wide_Of [(.c (.int .u64 1))], none⟩, .B []),
     (⟨(some 79), .call k_wide_Add [(.t 77), (.t 78)], none⟩, .B []),
     (⟨(some 76), .mov (.t 79), none⟩, .L),
     (⟨(some 80), .ext (.t 76) 0, none⟩, .L),
     (⟨(some 81), .ext (.t 76) 1, none⟩, .L),
     (⟨(some 24), .alloc [(.int .u64 0), (.int .u64 0), (.int .u64 0), (.int .u64 0)], none⟩, .Al 0),
     (⟨none, .store 4 (.t 24) (.t 80), none⟩, .B [0]),
     (⟨(some 25), .mov (.t 81), none⟩, .L)])
  (.seq (.ops [⟨(some 82), .mov (.t 7), none⟩,
     ⟨(some 83), .mov (.t 82), none⟩,
     ⟨(some 84), .load (some 4) (.t 8), (some (83, true))⟩,
     ⟨(some 85), .load (some 4) (.t 10), (some (83, true))⟩,
     ⟨(some 86), .bin .eql (.flat [.i, .i, .i, .i]) (.t 84) (.t 85), (some (83, true))⟩,
     ⟨(some 87), .pick (.t 83) (.t 86) (.c (.bool false)), none⟩,
     ⟨(some 88), .mov (.t 87), none⟩,
     ⟨(some 89), .mov (.t 9), (some (88, true))⟩,
     ⟨(some 90), .mov (.t 11), (some (88, true))⟩,
     ⟨(some 91), .bin .eql .bool (.t 89) (.t 90), (some (88, true))⟩,
     ⟨(some 92), .pick (.t 88) (.t 91) (.c (.bool false)), none⟩,
     ⟨(some 93), .mov (.t 92), none⟩,
     ⟨(some 94), .load (some 4) (.t 12), (some (93, true))⟩,
     ⟨(some 95), .load (some 4) (.t 3), (some (93, true))⟩,
     ⟨(some 96), .bin .eql (.flat [.i, .i, .i, .i]) (.t 94) (.t 95), (some (93, true))⟩,
     ⟨(some 97), .pick (.t 93) (.t 96) (.c (.bool false)), none⟩,
     ⟨(some 98), .mov (.t 97), none⟩,
     ⟨(some 99), .mov (.t 13), (some (98, true))⟩,
     ⟨(some 100), .mov (.t 9), (some (98, true))⟩,
     ⟨(some 101), .bin .eql .bool (.t 99) (.t 100), (some (98, true))⟩,
     ⟨(some 102), .pick (.t 98) (.t 101) (.c (.bool false)), none⟩,
     ⟨(some 103), .mov (.t 102), none⟩,
     ⟨(some 104), .mov (.t 9), (some (103, true))⟩,
     ⟨(some 105), .load (some 4) (.t 8), (some (103, true))⟩,
     ⟨(some 106), .load (some 4) (.t 3), (some (103, true))⟩,
     ⟨(some 107), .call k_wide_Compare [(.t 105), (.t 106)], (some (103, true))⟩,
     ⟨(some 108), .bin .lss .no (.t 107) (.c (.int .i64 0)), (some (103, true))⟩,
     ⟨(some 109), .bin .eql .bool (.t 104) (.t 108), (some (103, true))⟩,
     ⟨(some 110), .pick (.t 103) (.t 109) (.c (.bool false)), none⟩,
     ⟨(some 111), .mov (.t 110), none⟩,
     ⟨(some 112), .load (some 4) (.t 14), (some (111, true))⟩,
     ⟨(some 113), .load (some 4) (.t 18), (some (111, true))⟩,
     ⟨(some 114), .bin .eql (.flat [.i, .i, .i, .i]) (.t 112) (.t 113), (some (111, true))⟩,
     ⟨(some 115), .pick (.t 111) (.t 114) (.c (.bool false)), none⟩,
     ⟨(some 116), .mov (.t 115), none⟩,
     ⟨(some 117), .load (some 4) (.t 20), (some (116, true))⟩,
     ⟨(some 118), .load (some 4) (.t 24), (some (116, true))⟩,
     ⟨(some 119), .bin .eql (.flat [.i, .i, .i, .i]) (.t 117) (.t 118), (some (116, true))⟩,
     ⟨(some 120), .pick (.t 116) (.t 119) (.c (.bool false)), none⟩,
     ⟨(some 121), .mov (.t 120), none⟩,
     ⟨(some 122), .mov (.t 21), (some (121, true))⟩,
     ⟨(some 123), .load (some 4) (.t 3), (some (121, true))⟩,
     ⟨(some 124), .load (some 4) (.t 4), (some (121, true))⟩,
     ⟨(some 125), .call k_wide_Compare [(.t 123), (.t 124)], (some (121, true))⟩,
     ⟨(some 126), .bin .lss .no (.t 125) (.c (.int .i64 0)), (some (121, true))⟩,
     ⟨(some 127), .bin .eql .bool (.t 122) (.t 126), (some (121, true))⟩,
     ⟨(some 128), .pick (.t 121) (.t 127) (.c (.bool false)), none⟩,
     ⟨(some 6), .mov (.t 128), none⟩])
  (.ret))))))))))))⟩
/-- purser/wide.Add -/
def f_wide_Add : Fn := ⟨28, [.cell 4 (some 4), .tmp 5],
  .seq (.ops [⟨(some 2), .box (.t 0), none⟩,
     ⟨(some 3), .box (.t 1), none⟩,
     ⟨(some 4), .alloc [(.int .u64 0), (.int .u64 0), (.int .u64 0), (.int .u64 0)], none⟩,
     ⟨(some 5), .mov (.c (.bool false)), none⟩])
  (.seq (.ops [⟨(some 6), .mov (.c (.int .u64 0)), none⟩])
  (.seq (.seq (.ops [⟨(some 8), .mov (.c (.int .i64 0)), none⟩])
   (.block 0 (.loop (.seq (.ops [⟨(some 9), .bin .lss .no (.t 8) (.c (.int .i64 4)), none⟩])
     (.seq (.cond (.t 9)
       (.skip)
       (.exit 0))
     (.seq (.block 1 (.seq (.ops [⟨(some 10), .mov (.t 8), none⟩,
          ⟨(some 7), .mov (.t 10), none⟩])
       (.dops 0 [] [(⟨(some 12), .mov (.t 7), none⟩, .L),
         (⟨(some 13), .mov (.t 7), none⟩, .L),
         (⟨(some 14), .idxAddrA 4 1 (.t 2) (.t 13), none⟩, .L),
         (⟨(some 15), .load none (.t 14), none⟩, .R [] []),
         (⟨(some 16), .mov (.t 7), none⟩, .L),
         (⟨(some 17), .idxAddrA 4 1 (.t 3) (.t 16), none⟩, .L),
         (⟨(some 18), .load none (.t 17), none⟩, .R [] []),
         (⟨(some 19), .mov (.t 6), none⟩, .L),
         (⟨(some 20), .bits false (.t 15) (.t 18) (.t 19), none⟩, .L),
         (⟨(some 11), .mov (.t 20), none⟩, .L),
         (⟨(some 21), .ext (.t 11) 0, none⟩, .L),
         (⟨(some 22), .ext (.t 11) 1, none⟩, .L),
         (⟨(some 23), .idxAddrA 4 1 (.t 4) (.t 12), none⟩, .L),
         (⟨none, .store 1 (.t 23) (.t 21), none⟩, .B []),
         (⟨(some 6), .mov (.t 22), none⟩, .L)])))
     (.ops [⟨(some 24), .bin .add .no (.t 8) (.c (.int .i64 1)), none⟩,
       ⟨(some 8), .mov (.t 24), none⟩])))))))
  (.seq (.ops [⟨(some 25), .load (some 4) (.t 4), none⟩,
     ⟨(some 26), .mov (.t 6), none⟩,
     ⟨(some 27), .bin .neq .no (.t 26) (.c (.int .u64 0)), none⟩,
     ⟨none, .store 4 (.t 4) (.t 25), none⟩,
     ⟨(some 5), .mov (.t 27), none⟩])
  (.ret))))⟩
/-- purser/wide.Sub -/
def f_wide_Sub : Fn := ⟨28, [.cell 4 (some 4), .tmp 5],
  .seq (.ops [⟨(some 2), .box (.t 0), none⟩,
     ⟨(some 3), .box (.t 1), none⟩,
     ⟨(some 4), .alloc [(.int .u64 0), (.int .u64 0), (.int .u64 0), (.int .u64 0)], none⟩,
     ⟨(some 5), .mov (.c (.bool false)), none⟩])
  (.seq (.ops [⟨(some 6), .mov (.c (.int .u64 0)), none⟩])
  (.seq (.seq (.ops [⟨(some 8), .mov (.c (.int .i64 0)), none⟩])
   (.block 0 (.loop (.seq (.ops [⟨(some 9), .bin .lss .no (.t 8) (.c (.int .i64 4)), none⟩])
     (.seq (.cond (.t 9)
       (.skip)
       (.exit 0))
     (.seq (.block 1 (.seq (.ops [⟨(some 10), .mov (.t 8), none⟩,
          ⟨(some 7), .mov (.t 10), none⟩])
       (.dops 0 [] [(⟨(some 12), .mov (.t 7), none⟩, .L),
         (⟨(some 13), .mov (.t 7), none⟩, .L),
         (⟨(some 14), .idxAddrA 4 1 (.t 2) (.t 13), none⟩, .L),
         (⟨(some 15), .load none (.t 14), none⟩, .R [] []),
         (⟨(some 16), .mov (.t 7), none⟩, .L),
         (⟨(some 17), .idxAddrA 4 1 (.t 3) (.t 16), none⟩, .L),
         (⟨(some 18), .load none (.t 17), none⟩, .R [] []),
         (⟨(some 19), .mov (.t 6), none⟩, .L),
         (⟨(some 20), .bits true (.t 15) (.t 18) (.t 19), none⟩, .L),
         (⟨(some 11), .mov (.t 20), none⟩, .L),
         (⟨(some 21), .ext (.t 11) 0, none⟩, .L),
         (⟨(some 22), .ext (.t 11) 1, none⟩, .L),
         (⟨(some 23), .idxAddrA 4 1 (.t 4) (.t 12), none⟩, .L),
         (⟨none, .store 1 (.t 23) (.t 21), none⟩, .B []),
         (⟨(some 6), .mov (.t 22), none⟩, .L)])))
     (.ops [⟨(some 24), .bin .add .no (.t 8) (.c (.int .i64 1)), none⟩,
       ⟨(some 8), .mov (.t 24), none⟩])))))))
  (.seq (.ops [⟨(some 25), .load (some 4) (.t 4), none⟩,
     ⟨(some 26), .mov (.t 6), none⟩,
     ⟨(some 27), .bin .neq .no (.t 26) (.c (.int .u64 0)), none⟩,
     ⟨none, .store 4 (.t 4) (.t 25), none⟩,
     ⟨(some 5), .mov (.t 27), none⟩])
  (.ret))))⟩
/-- purser/wide.Not -/
def f_wide_Not : Fn := ⟨15, [.cell 2 (some 4)],
  .seq (.ops [⟨(some 1), .box (.t 0), none⟩,
     ⟨(some 2), .alloc [(.int .u64 0), (.int .u64 0), (.int .u64 0), (.int .u64 0)], none⟩])
  (.seq (.seq (.ops [⟨(some 4), .mov (.c (.int .i64 0)), none⟩])
   (.block 0 (.loop (.seq (.ops [⟨(some 5), .bin .lss .no (.t 4) (.c (.int .i64 4)), none⟩])
     (.seq (.cond (.t 5)
       (.skip)
       (.exit 0))
     (.seq (.block 1 (.seq (.ops [⟨(some 6), .mov (.t 4), none⟩,
          ⟨(some 3), .mov (.t 6), none⟩])
       (.ops [⟨(some 7), .mov (.t 3), none⟩,
         ⟨(some 8), .mov (.t 3), none⟩,
         ⟨(some 9), .idxAddrA 4 1 (.t 1) (.t 8), none⟩,
         ⟨(some 10), .load none (.t 9), none⟩,
         ⟨(some 11), .un .xor (.t 10), none⟩,
         ⟨(some 12), .idxAddrA 4 1 (.t 1) (.t 7), none⟩,
         ⟨none, .store 1 (.t 12) (.t 11), none⟩])))
     (.ops [⟨(some 13), .bin .add .no (.t 4) (.c (.int .i64 1)), none⟩,
       ⟨(some 4), .mov (.t 13), none⟩])))))))
  (.seq (.ops [⟨(some 14), .load (some 4) (.t 1), none⟩,
     ⟨none, .store 4 (.t 2) (.t 14), none⟩])
  (.ret)))⟩
/-- purser/purserlaw03.alive -/
def f_purserlaw03_alive : Fn := ⟨49, [.tmp 0],
  .seq (.ops [⟨(some 0), .mov (.c (.bool false)), none⟩])
  (.seq (.ops [⟨(some 8), .call k_purserlaw03_most [], none⟩,
     ⟨(some 9), .call k_wide_Of [(.c (.int .u64 1))], none⟩,
     ⟨(some 10), .call k_wide_Add [(.t 8), (.t 9)], none⟩,
     ⟨(some 7), .mov (.t 10), none⟩,
     ⟨(some 11), .ext (.t 7) 0, none⟩,
     ⟨(some 12), .ext (.t 7) 1, none⟩,
     ⟨(some 1), .alloc [(.int .u64 0), (.int .u64 0), (.int .u64 0), (.int .u64 0)], none⟩,
     ⟨none, .store 4 (.t 1) (.t 11), none⟩,
     ⟨(some 2), .mov (.t 12), none⟩])
  (.seq (.ops [⟨(some 14), .call k_wide_Of [(.c (.int .u64 0))], none⟩,
     ⟨(some 15), .call k_wide_Of [(.c (.int .u64 1))], none⟩,
     ⟨(some 16), .call k_wide_Sub [(.t 14), (.t 15)], none⟩,
     ⟨(some 13), .mov (.t 16), none⟩,
     ⟨(some 17), .ext (.t 13) 0, none⟩,
     ⟨(some 18), .ext (.t 13) 1, none⟩,
     ⟨(some 3), .alloc [(.int .u64 0), (.int .u64 0), (.int .u64 0), (.int .u64 0)], none⟩,
     ⟨none, .store 4 (.t 3) (.t 17), none⟩,
     ⟨(some 4), .mov (.t 18), none⟩])
  (.seq (.ops [⟨(some 20), .build [(.int .u64 0), (.int .u64 0), (.int .u64 0), (.int .u64 0)] [(0, 1, (.c (.int .u64 0))), (1, 1, (.c (.int .u64 0))), (2, 1, (.c (.int .u64 1)))], none⟩,
     ⟨(some 21), .build [(.int .u64 0), (.int .u64 0), (.int .u64 0), (.int .u64 0)] [(0, 1, (.c (.int .u64 0))), (1, 1, (.c (.int .u64 0))), (2, 1, (.c (.int .u64 1)))], none⟩,
     ⟨(some 22), .call k_wide_Mul [(.t 20), (.t 21)], none⟩,
     ⟨(some 19), .mov (.t 22), none⟩,
     ⟨(some 23), .ext (.t 19) 0, none⟩,
     ⟨(some 24), .ext (.t 19) 1, none⟩,
     ⟨(some 5), .alloc [(.int .u64 0), (.int .u64 0), (.int .u64 0), (.int .u64 0)], none⟩,
     ⟨(some 6), .alloc [(.int .u64 0), (.int .u64 0), (.int .u64 0), (.int .u64 0)], none⟩,
     ⟨none, .store 4 (.t 5) (.t 23), none⟩,
     ⟨none, .store 4 (.t 6) (.t 24), none⟩])
  (.seq (.dops 0 [] [(⟨(some 25), .load (some 4) (.t 1), none⟩, .R [] []),
     (⟨(some 26), .build [(.int .u64 0), (.int .u64 0), (.int .u64 0), (.int .u64 0)] [], none⟩, .L),
     (⟨(some 27), .bin .eql (.flat [.i, .i, .i, .i]) (.t 25) (.t 26), none⟩, .L),
     (⟨(some 28), .mov (.t 27), none⟩, .L),
     (⟨(some 29), .mov (.t 2), (some (28, true))⟩, .L),
     (⟨(some 30), .pick (.t 28) (.t 29) (.c (.bool false)), none⟩, .L),
     (⟨(some 31), .mov (.t 30), none⟩, .L),
     (⟨(some 32), .load (some 4) (.t 3), (some (31, true))⟩, .R [] [(1, [])]),
     (⟨(some 33), .call k_purserlaw03_most [], (some (31, true))⟩, .B []),
     (⟨(some 34), .bin .eql (.flat [.i, .i, .i, .i]) (.t 32) (.t 33), (some (31, true))⟩, .L),
     (⟨(some 35), .pick (.t 31) (.t 34) (.c (.bool false)), none⟩, .L),
     (⟨(some 36), .mov (.t 35), none⟩, .L),
     (⟨(some 37), .mov (.t 4), (some (36, true))⟩, .L),
     (⟨(some 38), .pick (.t 36) (.t 37) (.c (.bool false)), none⟩, .L),
     (⟨(some 39), .mov (.t 38), none⟩, .L),
     (⟨(some 40), .load (some 4) (.t 5), (some (39, true))⟩, .R [] []),
     (⟨(some 41), .build [(.int .u64 0), (.int .u64 0), (.int .u64 0), (.int .u64 0)] [], (some (39, true))⟩, .L),
     (⟨(some 42), .bin .eql (.flat [.i, .i, .i, .i]) (.t 40) (.t 41), (some (39, true))⟩, .L),
     (⟨(some 43), .pick (.t 39) (.t 42) (.c (.bool false)), none⟩, .L),
     (⟨(some 44), .mov (.t 43), none⟩, .L),
     (⟨(some 45), .load (some 4) (.t 6), (some (44, true))⟩, .R [] [(0, [])]),
     (⟨(some 46), .call k_wide_Of [(.c (.int .u64 1))], (some (44, true))⟩, .B []),
     (⟨(some 47), .bin .eql (.flat [.i, .i, .i, .i]) (.t 45) (.t 46), (some (44, true))⟩, .L),
     (⟨(some 48), .pick (.t 44) (.t 47) (.c (.bool false)), none⟩, .L),
     (⟨(some 0), .mov (.t 48), none⟩, .L)])
  (.ret)))))⟩
/-- purser/wide.Of -/
def f_wide_Of : Fn := ⟨5, [.cell 2 (some 4)],
  .seq (.ops [⟨(some 2), .alloc [(.int .u64 0), (.int .u64 0), (.int .u64 0), (.int .u64 0)], none⟩])
  (.seq (.ops [⟨(some 3), .mov (.t 0), none⟩,
     ⟨(some 4), .build [(.int .u64 0), (.int .u64 0), (.int .u64 0), (.int .u64 0)] [(0, 1, (.t 3))], none⟩,
     ⟨none, .store 4 (.t 2) (.t 4), none⟩])
  (.ret))⟩
/-- purser/wide.Compare -/
def f_wide_Compare : Fn := ⟨17, [.tmp 4],
  .seq (.ops [⟨(some 2), .box (.t 0), none⟩,
     ⟨(some 3), .box (.t 1), none⟩,
     ⟨(some 4), .mov (.c (.int .i64 0)), none⟩])
  (.seq (.seq (.ops [⟨(some 7), .load (some 4) (.t 2), none⟩,
      ⟨(some 8), .load (some 4) (.t 3), none⟩,
      ⟨(some 9), .bin .eql (.flat [.i, .i, .i, .i]) (.t 7) (.t 8), none⟩])
   (.cond (.t 9)
    (.seq (.ops [⟨(some 4), .mov (.c (.int .i64 0)), none⟩])
     (.ret))
    (.skip)))
  (.seq (.seq (.ops [⟨(some 11), .load (some 4) (.t 2), none⟩,
      ⟨(some 12), .load (some 4) (.t 3), none⟩,
      ⟨(some 13), .call k_wide_Sub [(.t 11), (.t 12)], none⟩,
      ⟨(some 10), .mov (.t 13), none⟩,
      ⟨(some 14), .ext (.t 10) 0, none⟩,
      ⟨(some 15), .ext (.t 10) 1, none⟩,
      ⟨(some 5), .alloc [(.int .u64 0), (.int .u64 0), (.int .u64 0), (.int .u64 0)], none⟩,
      ⟨none, .store 4 (.t 5) (.t 14), none⟩,
      ⟨(some 6), .mov (.t 15), none⟩])
   (.seq (.ops [⟨(some 16), .mov (.t 6), none⟩])
   (.cond (.t 16)
    (.seq (.ops [⟨(some 4), .mov (.c (.int .i64 (-1))), none⟩])
     (.ret))
    (.skip))))
  (.seq (.ops [⟨(some 4), .mov (.c (.int .i64 1)), none⟩])
  (.ret))))⟩
/-- purser/wide.Mul -/
def f_wide_Mul : Fn := ⟨60, [.cell 4 (some 4), .cell 5 (some 4)],
  .seq (.ops [⟨(some 2), .box (.t 0), none⟩,
     ⟨(some 3), .box (.t 1), none⟩,
     ⟨(some 4), .alloc [(.int .u64 0), (.int .u64 0), (.int .u64 0), (.int .u64 0)], none⟩,
     ⟨(some 5), .alloc [(.int .u64 0), (.int .u64 0), (.int .u64 0), (.int .u64 0)], none⟩])
  (.seq (.ops [⟨(some 6), .alloc [(.int .u64 0), (.int .u64 0), (.int .u64 0), (.int .u64 0), (.int .u64 0), (.int .u64 0), (.int .u64 0), (.int .u64 0)], none⟩])
  (.seq (.seq (.ops [⟨(some 11), .mov (.c (.int .i64 0)), none⟩])
   (.block 0 (.loop (.seq (.ops [⟨(some 12), .bin .lss .no (.t 11) (.c (.int .i64 4)), none⟩])
     (.seq (.cond (.t 12)
       (.skip)
       (.exit 0))
     (.seq (.block 1 (.seq (.ops [⟨(some 13), .mov (.t 11), none⟩,
          ⟨(some 7), .mov (.t 13), none⟩])
       (.seq (.ops [⟨(some 8), .mov (.c (.int .u64 0)), none⟩])
       (.seq (.seq (.ops [⟨(some 14), .mov (.c (.int .i64 0)), none⟩])
        (.block 2 (.loop (.seq (.ops [⟨(some 15), .bin .lss .no (.t 14) (.c (.int .i64 4)), none⟩])
          (.seq (.cond (.t 15)
            (.skip)
            (.exit 2))
          (.seq (.block 3 (.seq (.ops [⟨(some 16), .mov (.t 14), none⟩,
               ⟨(some 9), .mov (.t 16), none⟩])
            (.dops 0 [] [(⟨(some 18), .mov (.t 7), none⟩, .L),
              (⟨(some 19), .mov (.t 9), none⟩, .L),
              (⟨(some 20), .bin .add .no (.t 18) (.t 19), none⟩, .L),
              (⟨(some 21), .mov (.t 7), none⟩, .L),
              (⟨(some 22), .idxAddrA 4 1 (.t 2) (.t 21), none⟩, .L),
              (⟨(some 23), .load none (.t 22), none⟩, .R [] []),
              (⟨(some 24), .mov (.t 9), none⟩, .L),
              (⟨(some 25), .idxAddrA 4 1 (.t 3) (.t 24), none⟩, .L),
              (⟨(some 26), .load none (.t 25), none⟩, .R [] []),
              (⟨(some 27), .mov (.t 7), none⟩, .L),
              (⟨(some 28), .mov (.t 9), none⟩, .L),
              (⟨(some 29), .bin .add .no (.t 27) (.t 28), none⟩, .L),
              (⟨(some 30), .idxAddrA 8 1 (.t 6) (.t 29), none⟩, .L),
              (⟨(some 31), .load none (.t 30), none⟩, .R [] []),
              (⟨(some 32), .mov (.t 8), none⟩, .L),
              (⟨(some 33), .call k_wide_mulAdd [(.t 23), (.t 26), (.t 31), (.t 32)], none⟩, .B []),
              (⟨(some 17), .mov (.t 33), none⟩, .L),
              (⟨(some 34), .ext (.t 17) 0, none⟩, .L),
              (⟨(some 35), .ext (.t 17) 1, none⟩, .L),
              (⟨(some 36), .idxAddrA 8 1 (.t 6) (.t 20), none⟩, .L),
              (⟨none, .store 1 (.t 36) (.t 34), none⟩, .B []),
              (⟨(some 8), .mov (.t 35), none⟩, .L)])))
          (.ops [⟨(some 37), .bin .add .no (.t 14) (.c (.int .i64 1)), none⟩,
            ⟨(some 14), .mov (.t 37), none⟩])))))))
       (.ops [⟨(some 38), .mov (.t 7), none⟩,
         ⟨(some 39), .bin .add .no (.t 38) (.c (.int .i64 4)), none⟩,
         ⟨(some 40), .mov (.t 8), none⟩,
         ⟨(some 41), .idxAddrA 8 1 (.t 6) (.t 39), none⟩,
         ⟨none, .store 1 (.t 41) (.t 40), none⟩])))))
     (.ops [⟨(some 42), .bin .add .no (.t 11) (.c (.int .i64 1)), none⟩,
       ⟨(some 11), .mov (.t 42), none⟩])))))))
  (.seq (.seq (.ops [⟨(some 43), .mov (.c (.int .i64 0)), none⟩])
   (.block 4 (.loop (.seq (.ops [⟨(some 44), .bin .lss .no (.t 43) (.c (.int .i64 4)), none⟩])
     (.seq (.cond (.t 44)
       (.skip)
       (.exit 4))
     (.seq (.block 5 (.seq (.ops [⟨(some 45), .mov (.t 43), none⟩,
          ⟨(some 10), .mov (.t 45), none⟩])
       (.dops 0 [] [(⟨(some 46), .mov (.t 10), none⟩, .L),
         (⟨(some 47), .mov (.t 10), none⟩, .L),
         (⟨(some 48), .mov (.t 10), none⟩, .L),
         (⟨(some 49), .idxAddrA 8 1 (.t 6) (.t 48), none⟩, .L),
         (⟨(some 50), .load none (.t 49), none⟩, .R [] []),
         (⟨(some 51), .mov (.t 10), none⟩, .L),
         (⟨(some 52), .bin .add .no (.t 51) (.c (.int .i64 4)), none⟩, .L),
         (⟨(some 53), .idxAddrA 8 1 (.t 6) (.t 52), none⟩, .L),
         (⟨(some 54), .load none (.t 53), none⟩, .R [] [(1, [])]),
         (⟨(some 55), .idxAddrA 4 1 (.t 4) (.t 46), none⟩, .L),
         (⟨none, .store 1 (.t 55) (.t 50), none⟩, .B []),
         (⟨(some 56), .idxAddrA 4 1 (.t 5) (.t 47), none⟩, .L),
         (⟨none, .store 1 (.t 56) (.t 54), none⟩, .B [])])))
     (.ops [⟨(some 57), .bin .add .no (.t 43) (.c (.int .i64 1)), none⟩,
       ⟨(some 43), .mov (.t 57), none⟩])))))))
  (.seq (.dops 0 [] [(⟨(some 58), .load (some 4) (.t 4), none⟩, .R [] []),
     (⟨(some 59), .load (some 4) (.t 5), none⟩, .R [] [(1, [])]),
     (⟨none, .store 4 (.t 4) (.t 58), none⟩, .B []),
     (⟨none, .store 4 (.t 5) (.t 59), none⟩, .B [])])
  (.ret)))))⟩
/-- purser/purserlaw03.most -/
def f_purserlaw03_most : Fn := ⟨2, [.cell 0 (some 4)],
  .seq (.ops [⟨(some 0), .alloc [(.int .u64 0), (.int .u64 0), (.int .u64 0), (.int .u64 0)], none⟩])
  (.seq (.ops [⟨(some 1), .build [(.int .u64 0), (.int .u64 0), (.int .u64 0), (.int .u64 0)] [(0, 1, (.c (.int .u64 18446744073709551615))), (1, 1, (.c (.int .u64 18446744073709551615))), (2, 1, (.c (.int .u64 18446744073709551615))), (3, 1, (.c (.int .u64 18446744073709551615)))], none⟩,
     ⟨none, .store 4 (.t 0) (.t 1), none⟩])
  (.ret))⟩
/-- purser/wide.mulAdd -/
def f_wide_mulAdd : Fn := ⟨36, [.tmp 8, .tmp 9],
  .seq (.ops [⟨(some 8), .mov (.c (.int .u64 0)), none⟩,
     ⟨(some 9), .mov (.c (.int .u64 0)), none⟩])
  (.seq (.ops [⟨(some 12), .mov (.t 0), none⟩,
     ⟨(some 13), .mov (.t 1), none⟩,
     ⟨(some 14), .call k_math_bits_Mul64 [(.t 12), (.t 13)], none⟩,
     ⟨(some 11), .mov (.t 14), none⟩,
     ⟨(some 15), .ext (.t 11) 0, none⟩,
     ⟨(some 16), .ext (.t 11) 1, none⟩,
     ⟨(some 9), .mov (.t 15), none⟩,
     ⟨(some 8), .mov (.t 16), none⟩])
  (.seq (.ops [⟨(some 18), .mov (.t 8), none⟩,
     ⟨(some 19), .mov (.t 2), none⟩,
     ⟨(some 20), .bits false (.t 18) (.t 19) (.c (.int .u64 0)), none⟩,
     ⟨(some 17), .mov (.t 20), none⟩,
     ⟨(some 21), .ext (.t 17) 0, none⟩,
     ⟨(some 22), .ext (.t 17) 1, none⟩,
     ⟨(some 8), .mov (.t 21), none⟩,
     ⟨(some 10), .mov (.t 22), none⟩])
  (.seq (.ops [⟨(some 23), .mov (.t 9), none⟩,
     ⟨(some 24), .mov (.t 10), none⟩,
     ⟨(some 25), .bin .add .no (.t 23) (.t 24), none⟩,
     ⟨(some 9), .mov (.t 25), none⟩])
  (.seq (.ops [⟨(some 27), .mov (.t 8), none⟩,
     ⟨(some 28), .mov (.t 3), none⟩,
     ⟨(some 29), .bits false (.t 27) (.t 28) (.c (.int .u64 0)), none⟩,
     ⟨(some 26), .mov (.t 29), none⟩,
     ⟨(some 30), .ext (.t 26) 0, none⟩,
     ⟨(some 31), .ext (.t 26) 1, none⟩,
     ⟨(some 8), .mov (.t 30), none⟩,
     ⟨(some 10), .mov (.t 31), none⟩])
  (.seq (.ops [⟨(some 32), .mov (.t 8), none⟩,
     ⟨(some 33), .mov (.t 9), none⟩,
     ⟨(some 34), .mov (.t 10), none⟩,
     ⟨(some 35), .bin .add .no (.t 33) (.t 34), none⟩,
     ⟨(some 8), .mov (.t 32), none⟩,
     ⟨(some 9), .mov (.t 35), none⟩])
  (.ret))))))⟩
/-- math/bits.Mul64 -/
def f_math_bits_Mul64 : Fn := ⟨51, [.tmp 4, .tmp 5],
  .seq (.ops [⟨(some 4), .mov (.c (.int .u64 0)), none⟩,
     ⟨(some 5), .mov (.c (.int .u64 0)), none⟩])
  (.seq (.ops [⟨(some 14), .mov (.t 0), none⟩,
     ⟨(some 15), .bin .and .no (.t 14) (.c (.int .u64 4294967295)), none⟩,
     ⟨(some 6), .mov (.t 15), none⟩])
  (.seq (.ops [⟨(some 16), .mov (.t 0), none⟩,
     ⟨(some 17), .bin .shr .no (.t 16) (.c (.int .u64 32)), none⟩,
     ⟨(some 7), .mov (.t 17), none⟩])
  (.seq (.ops [⟨(some 18), .mov (.t 1), none⟩,
     ⟨(some 19), .bin .and .no (.t 18) (.c (.int .u64 4294967295)), none⟩,
     ⟨(some 8), .mov (.t 19), none⟩])
  (.seq (.ops [⟨(some 20), .mov (.t 1), none⟩,
     ⟨(some 21), .bin .shr .no (.t 20) (.c (.int .u64 32)), none⟩,
     ⟨(some 9), .mov (.t 21), none⟩])
  (.seq (.ops [⟨(some 22), .mov (.t 6), none⟩,
     ⟨(some 23), .mov (.t 8), none⟩,
     ⟨(some 24), .bin .mul .no (.t 22) (.t 23), none⟩,
     ⟨(some 10), .mov (.t 24), none⟩])
  (.seq (.ops [⟨(some 25), .mov (.t 7), none⟩,
     ⟨(some 26), .mov (.t 8), none⟩,
     ⟨(some 27), .bin .mul .no (.t 25) (.t 26), none⟩,
     ⟨(some 28), .mov (.t 10), none⟩,
     ⟨(some 29), .bin .shr .no (.t 28) (.c (.int .u64 32)), none⟩,
     ⟨(some 30), .bin .add .no (.t 27) (.t 29), none⟩,
     ⟨(some 11), .mov (.t 30), none⟩])
  (.seq (.ops [⟨(some 31), .mov (.t 11), none⟩,
     ⟨(some 32), .bin .and .no (.t 31) (.c (.int .u64 4294967295)), none⟩,
     ⟨(some 12), .mov (.t 32), none⟩])
  (.seq (.ops [⟨(some 33), .mov (.t 11), none⟩,
     ⟨(some 34), .bin .shr .no (.t 33) (.c (.int .u64 32)), none⟩,
     ⟨(some 13), .mov (.t 34), none⟩])
  (.seq (.ops [⟨(some 35), .mov (.t 12), none⟩,
     ⟨(some 36), .mov (.t 6), none⟩,
     ⟨(some 37), .mov (.t 9), none⟩,
     ⟨(some 38), .bin .mul .no (.t 36) (.t 37), none⟩,
     ⟨(some 39), .bin .add .no (.t 35) (.t 38), none⟩,
     ⟨(some 12), .mov (.t 39), none⟩])
  (.seq (.ops [⟨(some 40), .mov (.t 7), none⟩,
     ⟨(some 41), .mov (.t 9), none⟩,
     ⟨(some 42), .bin .mul .no (.t 40) (.t 41), none⟩,
     ⟨(some 43), .mov (.t 13), none⟩,
     ⟨(some 44), .bin .add .no (.t 42) (.t 43), none⟩,
     ⟨(some 45), .mov (.t 12), none⟩,
     ⟨(some 46), .bin .shr .no (.t 45) (.c (.int .u64 32)), none⟩,
     ⟨(some 47), .bin .add .no (.t 44) (.t 46), none⟩,
     ⟨(some 4), .mov (.t 47), none⟩])
  (.seq (.ops [⟨(some 48), .mov (.t 0), none⟩,
     ⟨(some 49), .mov (.t 1), none⟩,
     ⟨(some 50), .bin .mul .no (.t 48) (.t 49), none⟩,
     ⟨(some 5), .mov (.t 50), none⟩])
  (.ret))))))))))))⟩


end Go.Eng
