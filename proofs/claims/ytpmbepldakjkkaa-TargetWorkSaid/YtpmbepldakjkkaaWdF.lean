/- Functions of the program, as the evaluator takes them: printed by program. -/
import Derived.Test.YtpmbepldakjkkaaEngA
namespace Go.Eng
open Go
/-- purser/wide.Compare -/
abbrev k_wide_Compare : Nat := 9
/-- purser/wide.Sub -/
abbrev k_wide_Sub : Nat := 10
/-- purser/wide.Of -/
abbrev k_wide_Of : Nat := 11
/-- purser/wide.Left -/
abbrev k_wide_Left : Nat := 12
/-- purser/wide.Add -/
abbrev k_wide_Add : Nat := 14
/-- purser/wide.Mul -/
abbrev k_wide_Mul : Nat := 15
/-- purser/wide.Right -/
abbrev k_wide_Right : Nat := 20
/-- purser/wide.Div -/
abbrev k_wide_Div : Nat := 22
/-- purser/wide.Not -/
abbrev k_wide_Not : Nat := 23
/-- purser/wide.Len -/
abbrev k_wide_Len : Nat := 35
/-- purser/wide.mulAdd -/
abbrev k_wide_mulAdd : Nat := 25
/-- purser/wide.quotientBits -/
abbrev k_wide_quotientBits : Nat := 29
/-- math/bits.Len64 -/
abbrev k_math_bits_Len64 : Nat := 37
/-- math/bits.Mul64 -/
abbrev k_math_bits_Mul64 : Nat := 30
/-- purser/wide.quotientBits$1 -/
abbrev k_wide_quotientBits_1 : Nat := 34
/-- purser/wide.Compare -/
def f_wide_Compare : Fn := ⟨17, [.tmp 4],
  .seq (.ops [⟨(some 2), .box (.t 0), none⟩,
     ⟨(some 3), .box (.t 1), none⟩,
     ⟨(some 4), .mov (.c (.int .i64 0)), none⟩])
  (.seq (.seq (.ops [⟨(some 7), .load (some 4) (.t 2), none⟩,
      ⟨(some 8), .load (some 4) (.t 3), none⟩,
      ⟨(some 9), .bin .eql (.flat [.i, .i, .i, .i]) (.t 7) (.t 8), none⟩])
   (.cond (.t 9)
    (.seq (.ops [⟨(some 4), .mov (.c (.int .i64 0)), none⟩])
     (.ret))
    (.skip)))
  (.seq (.seq (.ops [⟨(some 11), .load (some 4) (.t 2), none⟩,
      ⟨(some 12), .load (some 4) (.t 3), none⟩,
      ⟨(some 13), .call k_wide_Sub [(.t 11), (.t 12)], none⟩,
      ⟨(some 10), .mov (.t 13), none⟩,
      ⟨(some 14), .ext (.t 10) 0, none⟩,
      ⟨(some 15), .ext (.t 10) 1, none⟩,
      ⟨(some 5), .alloc [(.int .u64 0), (.int .u64 0), (.int .u64 0), (.int .u64 0)], none⟩,
      ⟨none, .store 4 (.t 5) (.t 14), none⟩,
      ⟨(some 6), .mov (.t 15), none⟩])
   (.seq (.ops [⟨(some 16), .mov (.t 6), none⟩])
   (.cond (.t 16)
    (.seq (.ops [⟨(some 4), .mov (.c (.int .i64 (-1))), none⟩])
     (.ret))
    (.skip))))
  (.seq (.ops [⟨(some 4), .mov (.c (.int .i64 1)), none⟩])
  (.ret))))⟩
/-- purser/wide.Sub -/
def f_wide_Sub : Fn := ⟨28, [.cell 4 (some 4), .tmp 5],
  .seq (.ops [⟨(some 2), .box (.t 0), none⟩,
     ⟨(some 3), .box (.t 1), none⟩,
     ⟨(some 4), .alloc [(.int .u64 0), (.int .u64 0), (.int .u64 0), (.int .u64 0)], none⟩,
     ⟨(some 5), .mov (.c (.bool false)), none⟩])
  (.seq (.ops [⟨(some 6), .mov (.c (.int .u64 0)), none⟩])
  (.seq (.seq (.ops [⟨(some 8), .mov (.c (.int .i64 0)), none⟩])
   (.block 0 (.loop (.seq (.ops [⟨(some 9), .bin .lss .no (.t 8) (.c (.int .i64 4)), none⟩])
     (.seq (.cond (.t 9)
       (.skip)
       (.exit 0))
     (.seq (.block 1 (.seq (.ops [⟨(some 10), .mov (.t 8), none⟩,
          ⟨(some 7), .mov (.t 10), none⟩])
       (.dops 0 [] [(⟨(some 12), .mov (.t 7), none⟩, .L),
         (⟨(some 13), .mov (.t 7), none⟩, .L),
         (⟨(some 14), .idxAddrA 4 1 (.t 2) (.t 13), none⟩, .L),
         (⟨(some 15), .load none (.t 14), none⟩, .R [] []),
         (⟨(some 16), .mov (.t 7), none⟩, .L),
         (⟨(some 17), .idxAddrA 4 1 (.t 3) (.t 16), none⟩, .L),
         (⟨(some 18), .load none (.t 17), none⟩, .R [] []),
         (⟨(some 19), .mov (.t 6), none⟩, .L),
         (⟨(some 20), .bits true (.t 15) (.t 18) (.t 19), none⟩, .L),
         (⟨(some 11), .mov (.t 20), none⟩, .L),
         (⟨(some 21), .ext (.t 11) 0, none⟩, .L),
         (⟨(some 22), .ext (.t 11) 1, none⟩, .L),
         (⟨(some 23), .idxAddrA 4 1 (.t 4) (.t 12), none⟩, .L),
         (⟨none, .store 1 (.t 23) (.t 21), none⟩, .B []),
         (⟨(some 6), .mov (.t 22), none⟩, .L)])))
     (.ops [⟨(some 24), .bin .add .no (.t 8) (.c (.int .i64 1)), none⟩,
       ⟨(some 8), .mov (.t 24), none⟩])))))))
  (.seq (.ops [⟨(some 25), .load (some 4) (.t 4), none⟩,
     ⟨(some 26), .mov (.t 6), none⟩,
     ⟨(some 27), .bin .neq .no (.t 26) (.c (.int .u64 0)), none⟩,
     ⟨none, .store 4 (.t 4) (.t 25), none⟩,
     ⟨(some 5), .mov (.t 27), none⟩])
  (.ret))))⟩
/-- purser/wide.Of -/
def f_wide_Of : Fn := ⟨5, [.cell 2 (some 4)],
  .seq (.ops [⟨(some 2), .alloc [(.int .u64 0), (.int .u64 0), (.int .u64 0), (.int .u64 0)], none⟩])
  (.seq (.ops [⟨(some 3), .mov (.t 0), none⟩,
     ⟨(some 4), .build [(.int .u64 0), (.int .u64 0), (.int .u64 0), (.int .u64 0)] [(0, 1, (.t 3))], none⟩,
     ⟨none, .store 4 (.t 2) (.t 4), none⟩])
  (.ret))⟩
/-- purser/wide.Left -/
def f_wide_Left : Fn := ⟨54, [.cell 4 (some 4)],
  .seq (.ops [⟨(some 2), .box (.t 0), none⟩,
     ⟨(some 4), .alloc [(.int .u64 0), (.int .u64 0), (.int .u64 0), (.int .u64 0)], none⟩])
  (.seq (.seq (.ops [⟨(some 9), .mov (.t 1), none⟩,
      ⟨(some 10), .bin .leq .no (.t 9) (.c (.int .i64 0)), none⟩])
   (.cond (.t 10)
    (.seq (.ops [⟨(some 11), .load (some 4) (.t 2), none⟩,
        ⟨none, .store 4 (.t 4) (.t 11), none⟩])
     (.ret))
    (.skip)))
  (.seq (.seq (.ops [⟨(some 12), .mov (.t 1), none⟩,
      ⟨(some 13), .bin .geq .no (.t 12) (.c (.int .i64 256)), none⟩])
   (.cond (.t 13)
    (.seq (.ops [⟨(some 14), .build [(.int .u64 0), (.int .u64 0), (.int .u64 0), (.int .u64 0)] [], none⟩,
        ⟨none, .store 4 (.t 4) (.t 14), none⟩])
     (.ret))
    (.skip)))
  (.seq (.ops [⟨(some 5), .alloc [(.int .u64 0), (.int .u64 0), (.int .u64 0), (.int .u64 0)], none⟩])
  (.seq (.ops [⟨(some 15), .mov (.t 1), none⟩,
     ⟨(some 16), .bin .quo .no (.t 15) (.c (.int .i64 64)), none⟩,
     ⟨(some 17), .mov (.t 1), none⟩,
     ⟨(some 18), .bin .rem .no (.t 17) (.c (.int .i64 64)), none⟩,
     ⟨(some 6), .mov (.t 16), none⟩,
     ⟨(some 7), .mov (.t 18), none⟩])
  (.seq (.seq (.ops [⟨(some 19), .mov (.t 6), none⟩,
      ⟨(some 20), .bin .sub .no (.c (.int .i64 4)) (.t 19), none⟩,
      ⟨(some 21), .mov (.c (.int .i64 0)), none⟩])
   (.block 0 (.loop (.seq (.ops [⟨(some 22), .bin .lss .no (.t 21) (.t 20), none⟩])
     (.seq (.cond (.t 22)
       (.skip)
       (.exit 0))
     (.seq (.block 1 (.seq (.ops [⟨(some 23), .mov (.t 21), none⟩,
          ⟨(some 8), .mov (.t 23), none⟩])
       (.seq (.dops 0 [] [(⟨(some 24), .mov (.t 8), none⟩, .L),
          (⟨(some 25), .mov (.t 6), none⟩, .L),
          (⟨(some 26), .bin .add .no (.t 24) (.t 25), none⟩, .L),
          (⟨(some 27), .idxAddrA 4 1 (.t 5) (.t 26), none⟩, .L),
          (⟨(some 28), .load none (.t 27), none⟩, .R [] []),
          (⟨(some 29), .mov (.t 8), none⟩, .L),
          (⟨(some 30), .idxAddrA 4 1 (.t 2) (.t 29), none⟩, .L),
          (⟨(some 31), .load none (.t 30), none⟩, .R [] []),
          (⟨(some 32), .mov (.t 7), none⟩, .L),
          (⟨(some 33), .bin .shl .no (.t 31) (.t 32), none⟩, .L),
          (⟨(some 34), .bin .or .no (.t 28) (.t 33), none⟩, .L),
          (⟨(some 35), .idxAddrA 4 1 (.t 5) (.t 26), none⟩, .L),
          (⟨none, .store 1 (.t 35) (.t 34), none⟩, .B [])])
       (.seq (.ops [⟨(some 36), .mov (.t 8), none⟩,
          ⟨(some 37), .mov (.t 6), none⟩,
          ⟨(some 38), .bin .add .no (.t 36) (.t 37), none⟩,
          ⟨(some 39), .bin .add .no (.t 38) (.c (.int .i64 1)), none⟩,
          ⟨(some 40), .bin .lss .no (.t 39) (.c (.int .i64 4)), none⟩])
       (.cond (.t 40)
        (.ops [⟨(some 41), .mov (.t 8), none⟩,
           ⟨(some 42), .mov (.t 6), none⟩,
           ⟨(some 43), .bin .add .no (.t 41) (.t 42), none⟩,
           ⟨(some 44), .bin .add .no (.t 43) (.c (.int .i64 1)), none⟩,
           ⟨(some 45), .mov (.t 8), none⟩,
           ⟨(some 46), .idxAddrA 4 1 (.t 2) (.t 45), none⟩,
           ⟨(some 47), .load none (.t 46), none⟩,
           ⟨(some 48), .mov (.t 7), none⟩,
           ⟨(some 49), .bin .sub .no (.c (.int .i64 64)) (.t 48), none⟩,
           ⟨(some 50), .bin .shr .no (.t 47) (.t 49), none⟩,
           ⟨(some 51), .idxAddrA 4 1 (.t 5) (.t 44), none⟩,
           ⟨none, .store 1 (.t 51) (.t 50), none⟩])
        (.skip))))))
     (.ops [⟨(some 52), .bin .add .no (.t 21) (.c (.int .i64 1)), none⟩,
       ⟨(some 21), .mov (.t 52), none⟩])))))))
  (.seq (.ops [⟨(some 53), .load (some 4) (.t 5), none⟩,
     ⟨none, .store 4 (.t 4) (.t 53), none⟩])
  (.ret)))))))⟩
/-- purser/wide.Add -/
def f_wide_Add : Fn := ⟨28, [.cell 4 (some 4), .tmp 5],
  .seq (.ops [⟨(some 2), .box (.t 0), none⟩,
     ⟨(some 3), .box (.t 1), none⟩,
     ⟨(some 4), .alloc [(.int .u64 0), (.int .u64 0), (.int .u64 0), (.int .u64 0)], none⟩,
     ⟨(some 5), .mov (.c (.bool false)), none⟩])
  (.seq (.ops [⟨(some 6), .mov (.c (.int .u64 0)), none⟩])
  (.seq (.seq (.ops [⟨(some 8), .mov (.c (.int .i64 0)), none⟩])
   (.block 0 (.loop (.seq (.ops [⟨(some 9), .bin .lss .no (.t 8) (.c (.int .i64 4)), none⟩])
     (.seq (.cond (.t 9)
       (.skip)
       (.exit 0))
     (.seq (.block 1 (.seq (.ops [⟨(some 10), .mov (.t 8), none⟩,
          ⟨(some 7), .mov (.t 10), none⟩])
       (.dops 0 [] [(⟨(some 12), .mov (.t 7), none⟩, .L),
         (⟨(some 13), .mov (.t 7), none⟩, .L),
         (⟨(some 14), .idxAddrA 4 1 (.t 2) (.t 13), none⟩, .L),
         (⟨(some 15), .load none (.t 14), none⟩, .R [] []),
         (⟨(some 16), .mov (.t 7), none⟩, .L),
         (⟨(some 17), .idxAddrA 4 1 (.t 3) (.t 16), none⟩, .L),
         (⟨(some 18), .load none (.t 17), none⟩, .R [] []),
         (⟨(some 19), .mov (.t 6), none⟩, .L),
         (⟨(some 20), .bits false (.t 15) (.t 18) (.t 19), none⟩, .L),
         (⟨(some 11), .mov (.t 20), none⟩, .L),
         (⟨(some 21), .ext (.t 11) 0, none⟩, .L),
         (⟨(some 22), .ext (.t 11) 1, none⟩, .L),
         (⟨(some 23), .idxAddrA 4 1 (.t 4) (.t 12), none⟩, .L),
         (⟨none, .store 1 (.t 23) (.t 21), none⟩, .B []),
         (⟨(some 6), .mov (.t 22), none⟩, .L)])))
     (.ops [⟨(some 24), .bin .add .no (.t 8) (.c (.int .i64 1)), none⟩,
       ⟨(some 8), .mov (.t 24), none⟩])))))))
  (.seq (.ops [⟨(some 25), .load (some 4) (.t 4), none⟩,
     ⟨(some 26), .mov (.t 6), none⟩,
     ⟨(some 27), .bin .neq .no (.t 26) (.c (.int .u64 0)), none⟩,
     ⟨none, .store 4 (.t 4) (.t 25), none⟩,
     ⟨(some 5), .mov (.t 27), none⟩])
  (.ret))))⟩
/-- purser/wide.Mul -/
def f_wide_Mul : Fn := ⟨60, [.cell 4 (some 4), .cell 5 (some 4)],
  .seq (.ops [⟨(some 2), .box (.t 0), none⟩,
     ⟨(some 3), .box (.t 1), none⟩,
     ⟨(some 4), .alloc [(.int .u64 0), (.int .u64 0), (.int .u64 0), (.int .u64 0)], none⟩,
     ⟨(some 5), .alloc [(.int .u64 0), (.int .u64 0), (.int .u64 0), (.int .u64 0)], none⟩])
  (.seq (.ops [⟨(some 6), .alloc [(.int .u64 0), (.int .u64 0), (.int .u64 0), (.int .u64 0), (.int .u64 0), (.int .u64 0), (.int .u64 0), (.int .u64 0)], none⟩])
  (.seq (.seq (.ops [⟨(some 11), .mov (.c (.int .i64 0)), none⟩])
   (.block 0 (.loop (.seq (.ops [⟨(some 12), .bin .lss .no (.t 11) (.c (.int .i64 4)), none⟩])
     (.seq (.cond (.t 12)
       (.skip)
       (.exit 0))
     (.seq (.block 1 (.seq (.ops [⟨(some 13), .mov (.t 11), none⟩,
          ⟨(some 7), .mov (.t 13), none⟩])
       (.seq (.ops [⟨(some 8), .mov (.c (.int .u64 0)), none⟩])
       (.seq (.seq (.ops [⟨(some 14), .mov (.c (.int .i64 0)), none⟩])
        (.block 2 (.loop (.seq (.ops [⟨(some 15), .bin .lss .no (.t 14) (.c (.int .i64 4)), none⟩])
          (.seq (.cond (.t 15)
            (.skip)
            (.exit 2))
          (.seq (.block 3 (.seq (.ops [⟨(some 16), .mov (.t 14), none⟩,
               ⟨(some 9), .mov (.t 16), none⟩])
            (.dops 0 [] [(⟨(some 18), .mov (.t 7), none⟩, .L),
              (⟨(some 19), .mov (.t 9), none⟩, .L),
              (⟨(some 20), .bin .add .no (.t 18) (.t 19), none⟩, .L),
              (⟨(some 21), .mov (.t 7), none⟩, .L),
              (⟨(some 22), .idxAddrA 4 1 (.t 2) (.t 21), none⟩, .L),
              (⟨(some 23), .load none (.t 22), none⟩, .R [] []),
              (⟨(some 24), .mov (.t 9), none⟩, .L),
              (⟨(some 25), .idxAddrA 4 1 (.t 3) (.t 24), none⟩, .L),
              (⟨(some 26), .load none (.t 25), none⟩, .R [] []),
              (⟨(some 27), .mov (.t 7), none⟩, .L),
              (⟨(some 28), .mov (.t 9), none⟩, .L),
              (⟨(some 29), .bin .add .no (.t 27) (.t 28), none⟩, .L),
              (⟨(some 30), .idxAddrA 8 1 (.t 6) (.t 29), none⟩, .L),
              (⟨(some 31), .load none (.t 30), none⟩, .R [] []),
              (⟨(some 32), .mov (.t 8), none⟩, .L),
              (⟨(some 33), .call k_wide_mulAdd [(.t 23), (.t 26), (.t 31), (.t 32)], none⟩, .B []),
              (⟨(some 17), .mov (.t 33), none⟩, .L),
              (⟨(some 34), .ext (.t 17) 0, none⟩, .L),
              (⟨(some 35), .ext (.t 17) 1, none⟩, .L),
              (⟨(some 36), .idxAddrA 8 1 (.t 6) (.t 20), none⟩, .L),
              (⟨none, .store 1 (.t 36) (.t 34), none⟩, .B []),
              (⟨(some 8), .mov (.t 35), none⟩, .L)])))
          (.ops [⟨(some 37), .bin .add .no (.t 14) (.c (.int .i64 1)), none⟩,
            ⟨(some 14), .mov (.t 37), none⟩])))))))
       (.ops [⟨(some 38), .mov (.t 7), none⟩,
         ⟨(some 39), .bin .add .no (.t 38) (.c (.int .i64 4)), none⟩,
         ⟨(some 40), .mov (.t 8), none⟩,
         ⟨(some 41), .idxAddrA 8 1 (.t 6) (.t 39), none⟩,
         ⟨none, .store 1 (.t 41) (.t 40), none⟩])))))
     (.ops [⟨(some 42), .bin .add .no (.t 11) (.c (.int .i64 1)), none⟩,
       ⟨(some 11), .mov (.t 42), none⟩])))))))
  (.seq (.seq (.ops [⟨(some 43), .mov (.c (.int .i64 0)), none⟩])
   (.block 4 (.loop (.seq (.ops [⟨(some 44), .bin .lss .no (.t 43) (.c (.int .i64 4)), none⟩])
     (.seq (.cond (.t 44)
       (.skip)
       (.exit 4))
     (.seq (.block 5 (.seq (.ops [⟨(some 45), .mov (.t 43), none⟩,
          ⟨(some 10), .mov (.t 45), none⟩])
       (.dops 0 [] [(⟨(some 46), .mov (.t 10), none⟩, .L),
         (⟨(some 47), .mov (.t 10), none⟩, .L),
         (⟨(some 48), .mov (.t 10), none⟩, .L),
         (⟨(some 49), .idxAddrA 8 1 (.t 6) (.t 48), none⟩, .L),
         (⟨(some 50), .load none (.t 49), none⟩, .R [] []),
         (⟨(some 51), .mov (.t 10), none⟩, .L),
         (⟨(some 52), .bin .add .no (.t 51) (.c (.int .i64 4)), none⟩, .L),
         (⟨(some 53), .idxAddrA 8 1 (.t 6) (.t 52), none⟩, .L),
         (⟨(some 54), .load none (.t 53), none⟩, .R [] [(1, [])]),
         (⟨(some 55), .idxAddrA 4 1 (.t 4) (.t 46), none⟩, .L),
         (⟨none, .store 1 (.t 55) (.t 50), none⟩, .B []),
         (⟨(some 56), .idxAddrA 4 1 (.t 5) (.t 47), none⟩, .L),
         (⟨none, .store 1 (.t 56) (.t 54), none⟩, .B [])])))
     (.ops [⟨(some 57), .bin .add .no (.t 43) (.c (.int .i64 1)), none⟩,
       ⟨(some 43), .mov (.t 57), none⟩])))))))
  (.seq (.dops 0 [] [(⟨(some 58), .load (some 4) (.t 4), none⟩, .R [] []),
     (⟨(some 59), .load (some 4) (.t 5), none⟩, .R [] [(1, [])]),
     (⟨none, .store 4 (.t 4) (.t 58), none⟩, .B []),
     (⟨none, .store 4 (.t 5) (.t 59), none⟩, .B [])])
  (.ret)))))⟩
/-- purser/wide.Right -/
def f_wide_Right : Fn := ⟨54, [.cell 4 (some 4)],
  .seq (.ops [⟨(some 2), .box (.t 0), none⟩,
     ⟨(some 4), .alloc [(.int .u64 0), (.int .u64 0), (.int .u64 0), (.int .u64 0)], none⟩])
  (.seq (.seq (.ops [⟨(some 9), .mov (.t 1), none⟩,
      ⟨(some 10), .bin .leq .no (.t 9) (.c (.int .i64 0)), none⟩])
   (.cond (.t 10)
    (.seq (.ops [⟨(some 11), .load (some 4) (.t 2), none⟩,
        ⟨none, .store 4 (.t 4) (.t 11), none⟩])
     (.ret))
    (.skip)))
  (.seq (.seq (.ops [⟨(some 12), .mov (.t 1), none⟩,
      ⟨(some 13), .bin .geq .no (.t 12) (.c (.int .i64 256)), none⟩])
   (.cond (.t 13)
    (.seq (.ops [⟨(some 14), .build [(.int .u64 0), (.int .u64 0), (.int .u64 0), (.int .u64 0)] [], none⟩,
        ⟨none, .store 4 (.t 4) (.t 14), none⟩])
     (.ret))
    (.skip)))
  (.seq (.ops [⟨(some 5), .alloc [(.int .u64 0), (.int .u64 0), (.int .u64 0), (.int .u64 0)], none⟩])
  (.seq (.ops [⟨(some 15), .mov (.t 1), none⟩,
     ⟨(some 16), .bin .quo .no (.t 15) (.c (.int .i64 64)), none⟩,
     ⟨(some 17), .mov (.t 1), none⟩,
     ⟨(some 18), .bin .rem .no (.t 17) (.c (.int .i64 64)), none⟩,
     ⟨(some 6), .mov (.t 16), none⟩,
     ⟨(some 7), .mov (.t 18), none⟩])
  (.seq (.seq (.ops [⟨(some 19), .mov (.t 6), none⟩,
      ⟨(some 20), .bin .sub .no (.c (.int .i64 4)) (.t 19), none⟩,
      ⟨(some 21), .mov (.c (.int .i64 0)), none⟩])
   (.block 0 (.loop (.seq (.ops [⟨(some 22), .bin .lss .no (.t 21) (.t 20), none⟩])
     (.seq (.cond (.t 22)
       (.skip)
       (.exit 0))
     (.seq (.block 1 (.seq (.ops [⟨(some 23), .mov (.t 21), none⟩,
          ⟨(some 8), .mov (.t 23), none⟩])
       (.seq (.dops 0 [] [(⟨(some 24), .mov (.t 8), none⟩, .L),
          (⟨(some 25), .idxAddrA 4 1 (.t 5) (.t 24), none⟩, .L),
          (⟨(some 26), .load none (.t 25), none⟩, .R [] []),
          (⟨(some 27), .mov (.t 8), none⟩, .L),
          (⟨(some 28), .mov (.t 6), none⟩, .L),
          (⟨(some 29), .bin .add .no (.t 27) (.t 28), none⟩, .L),
          (⟨(some 30), .idxAddrA 4 1 (.t 2) (.t 29), none⟩, .L),
          (⟨(some 31), .load none (.t 30), none⟩, .R [] []),
          (⟨(some 32), .mov (.t 7), none⟩, .L),
          (⟨(some 33), .bin .shr .no (.t 31) (.t 32), none⟩, .L),
          (⟨(some 34), .bin .or .no (.t 26) (.t 33), none⟩, .L),
          (⟨(some 35), .idxAddrA 4 1 (.t 5) (.t 24), none⟩, .L),
          (⟨none, .store 1 (.t 35) (.t 34), none⟩, .B [])])
       (.seq (.ops [⟨(some 36), .mov (.t 8), none⟩,
          ⟨(some 37), .bin .gtr .no (.t 36) (.c (.int .i64 0)), none⟩])
       (.cond (.t 37)
        (.dops 0 [] [(⟨(some 38), .mov (.t 8), none⟩, .L),
           (⟨(some 39), .bin .sub .no (.t 38) (.c (.int .i64 1)), none⟩, .L),
           (⟨(some 40), .idxAddrA 4 1 (.t 5) (.t 39), none⟩, .L),
           (⟨(some 41), .load none (.t 40), none⟩, .R [] []),
           (⟨(some 42), .mov (.t 8), none⟩, .L),
           (⟨(some 43), .mov (.t 6), none⟩, .L),
           (⟨(some 44), .bin .add .no (.t 42) (.t 43), none⟩, .L),
           (⟨(some 45), .idxAddrA 4 1 (.t 2) (.t 44), none⟩, .L),
           (⟨(some 46), .load none (.t 45), none⟩, .R [] []),
           (⟨(some 47), .mov (.t 7), none⟩, .L),
           (⟨(some 48), .bin .sub .no (.c (.int .i64 64)) (.t 47), none⟩, .L),
           (⟨(some 49), .bin .shl .no (.t 46) (.t 48), none⟩, .L),
           (⟨(some 50), .bin .or .no (.t 41) (.t 49), none⟩, .L),
           (⟨(some 51), .idxAddrA 4 1 (.t 5) (.t 39), none⟩, .L),
           (⟨none, .store 1 (.t 51) (.t 50), none⟩, .B [])])
        (.skip))))))
     (.ops [⟨(some 52), .bin .add .no (.t 21) (.c (.int .i64 1)), none⟩,
       ⟨(some 21), .mov (.t 52), none⟩])))))))
  (.seq (.ops [⟨(some 53), .load (some 4) (.t 5), none⟩,
     ⟨none, .store 4 (.t 4) (.t 53), none⟩])
  (.ret)))))))⟩
/-- purser/wide.Div -/
def f_wide_Div : Fn := ⟨32, [.cell 4 (some 4), .cell 5 (some 4), .tmp 6],
  .seq (.ops [⟨(some 2), .box (.t 0), none⟩,
     ⟨(some 3), .box (.t 1), none⟩,
     ⟨(some 4), .alloc [(.int .u64 0), (.int .u64 0), (.int .u64 0), (.int .u64 0)], none⟩,
     ⟨(some 5), .alloc [(.int .u64 0), (.int .u64 0), (.int .u64 0), (.int .u64 0)], none⟩,
     ⟨(some 6), .mov (.c (.int .i64 0)), none⟩])
  (.scope (.seq (.seq (.ops [⟨(some 9), .load (some 4) (.t 3), none⟩,
       ⟨(some 10), .build [(.int .u64 0), (.int .u64 0), (.int .u64 0), (.int .u64 0)] [], none⟩,
       ⟨(some 11), .bin .eql (.flat [.i, .i, .i, .i]) (.t 9) (.t 10), none⟩])
    (.cond (.t 11)
     (.seq (.ops [⟨(some 12), .build [(.int .u64 0), (.int .u64 0), (.int .u64 0), (.int .u64 0)] [], none⟩,
         ⟨(some 13), .build [(.int .u64 0), (.int .u64 0), (.int .u64 0), (.int .u64 0)] [], none⟩,
         ⟨none, .store 4 (.t 4) (.t 12), none⟩,
         ⟨none, .store 4 (.t 5) (.t 13), none⟩,
         ⟨(some 6), .mov (.c (.int .i64 30)), none⟩])
      (.ret))
     (.skip)))
   (.seq (.skip)
   (.seq (.seq (.ops [⟨(some 14), .load (some 4) (.t 2), none⟩,
       ⟨(some 15), .load (some 4) (.t 3), none⟩,
       ⟨(some 16), .call k_wide_quotientBits [(.t 14), (.t 15), (.t 5)], none⟩])
    (.block 0 (.rangeF (.t 16) [17, 18] (.seq (.ops [⟨(some 7), .mov (.t 17), none⟩])
      (.ops [⟨(some 8), .mov (.t 18), none⟩]))
     (.block 1 (.seq (.seq (.ops [⟨(some 19), .mov (.t 8), none⟩,
           ⟨(some 20), .un .not (.t 19), none⟩])
        (.cond (.t 20)
         (.exit 1)
         (.skip)))
       (.dops 0 [] [(⟨(some 21), .mov (.t 7), none⟩, .L),
         (⟨(some 22), .bin .quo .no (.t 21) (.c (.int .i64 64)), none⟩, .L),
         (⟨(some 23), .idxAddrA 4 1 (.t 4) (.t 22), none⟩, .L),
         (⟨(some 24), .load none (.t 23), none⟩, .R [] []),
         (⟨(some 25), .mov (.t 7), none⟩, .L),
         (⟨(some 26), .bin .rem .no (.t 25) (.c (.int .i64 64)), none⟩, .L),
         (⟨(some 27), .bin .shl .no (.c (.int .u64 1)) (.t 26), none⟩, .L),
         (⟨(some 28), .bin .or .no (.t 24) (.t 27), none⟩, .L),
         (⟨(some 29), .idxAddrA 4 1 (.t 4) (.t 22), none⟩, .L),
         (⟨none, .store 1 (.t 29) (.t 28), none⟩, .B [])]))))))
   (.seq (.dops 0 [] [(⟨(some 30), .load (some 4) (.t 4), none⟩, .R [] []),
      (⟨(some 31), .load (some 4) (.t 5), none⟩, .R [] [(1, [])]),
      (⟨none, .store 4 (.t 4) (.t 30), none⟩, .B []),
      (⟨none, .store 4 (.t 5) (.t 31), none⟩, .B []),
      (⟨(some 6), .mov (.c (.int .i64 0)), none⟩, .L)])
   (.ret))))))⟩
/-- purser/wide.Not -/
def f_wide_Not : Fn := ⟨15, [.cell 2 (some 4)],
  .seq (.ops [⟨(some 1), .box (.t 0), none⟩,
     ⟨(some 2), .alloc [(.int .u64 0), (.int .u64 0), (.int .u64 0), (.int .u64 0)], none⟩])
  (.seq (.seq (.ops [⟨(some 4), .mov (.c (.int .i64 0)), none⟩])
   (.block 0 (.loop (.seq (.ops [⟨(some 5), .bin .lss .no (.t 4) (.c (.int .i64 4)), none⟩])
     (.seq (.cond (.t 5)
       (.skip)
       (.exit 0))
     (.seq (.block 1 (.seq (.ops [⟨(some 6), .mov (.t 4), none⟩,
          ⟨(some 3), .mov (.t 6), none⟩])
       (.ops [⟨(some 7), .mov (.t 3), none⟩,
         ⟨(some 8), .mov (.t 3), none⟩,
         ⟨(some 9), .idxAddrA 4 1 (.t 1) (.t 8), none⟩,
         ⟨(some 10), .load none (.t 9), none⟩,
         ⟨(some 11), .un .xor (.t 10), none⟩,
         ⟨(some 12), .idxAddrA 4 1 (.t 1) (.t 7), none⟩,
         ⟨none, .store 1 (.t 12) (.t 11), none⟩])))
     (.ops [⟨(some 13), .bin .add .no (.t 4) (.c (.int .i64 1)), none⟩,
       ⟨(some 4), .mov (.t 13), none⟩])))))))
  (.seq (.ops [⟨(some 14), .load (some 4) (.t 1), none⟩,
     ⟨none, .store 4 (.t 2) (.t 14), none⟩])
  (.ret)))⟩
/-- purser/wide.Len -/
def f_wide_Len : Fn := ⟨21, [.tmp 2],
  .seq (.ops [⟨(some 1), .box (.t 0), none⟩,
     ⟨(some 2), .mov (.c (.int .i64 0)), none⟩])
  (.seq (.ops [⟨(some 3), .mov (.c (.int .i64 0)), none⟩])
  (.seq (.seq (.ops [⟨(some 5), .mov (.c (.int .i64 0)), none⟩])
   (.block 0 (.loop (.seq (.ops [⟨(some 6), .bin .lss .no (.t 5) (.c (.int .i64 4)), none⟩])
     (.seq (.cond (.t 6)
       (.skip)
       (.exit 0))
     (.seq (.block 1 (.seq (.ops [⟨(some 7), .mov (.t 5), none⟩,
          ⟨(some 4), .mov (.t 7), none⟩])
       (.seq (.ops [⟨(some 8), .mov (.t 4), none⟩,
          ⟨(some 9), .idxAddrA 4 1 (.t 1) (.t 8), none⟩,
          ⟨(some 10), .load none (.t 9), none⟩,
          ⟨(some 11), .bin .neq .no (.t 10) (.c (.int .u64 0)), none⟩])
       (.cond (.t 11)
        (.ops [⟨(some 12), .mov (.t 4), none⟩,
           ⟨(some 13), .bin .mul .no (.t 12) (.c (.int .i64 64)), none⟩,
           ⟨(some 14), .mov (.t 4), none⟩,
           ⟨(some 15), .idxAddrA 4 1 (.t 1) (.t 14), none⟩,
           ⟨(some 16), .load none (.t 15), none⟩,
           ⟨(some 17), .call k_math_bits_Len64 [(.t 16)], none⟩,
           ⟨(some 18), .bin .add .no (.t 13) (.t 17), none⟩,
           ⟨(some 3), .mov (.t 18), none⟩])
        (.skip)))))
     (.ops [⟨(some 19), .bin .add .no (.t 5) (.c (.int .i64 1)), none⟩,
       ⟨(some 5), .mov (.t 19), none⟩])))))))
  (.seq (.ops [⟨(some 20), .mov (.t 3), none⟩,
     ⟨(some 2), .mov (.t 20), none⟩])
  (.ret))))⟩
/-- purser/wide.mulAdd -/
def f_wide_mulAdd : Fn := ⟨36, [.tmp 8, .tmp 9],
  .seq (.ops [⟨(some 8), .mov (.c (.int .u64 0)), none⟩,
     ⟨(some 9), .mov (.c (.int .u64 0)), none⟩])
  (.seq (.ops [⟨(some 12), .mov (.t 0), none⟩,
     ⟨(some 13), .mov (.t 1), none⟩,
     ⟨(some 14), .call k_math_bits_Mul64 [(.t 12), (.t 13)], none⟩,
     ⟨(some 11), .mov (.t 14), none⟩,
     ⟨(some 15), .ext (.t 11) 0, none⟩,
     ⟨(some 16), .ext (.t 11) 1, none⟩,
     ⟨(some 9), .mov (.t 15), none⟩,
     ⟨(some 8), .mov (.t 16), none⟩])
  (.seq (.ops [⟨(some 18), .mov (.t 8), none⟩,
     ⟨(some 19), .mov (.t 2), none⟩,
     ⟨(some 20), .bits false (.t 18) (.t 19) (.c (.int .u64 0)), none⟩,
     ⟨(some 17), .mov (.t 20), none⟩,
     ⟨(some 21), .ext (.t 17) 0, none⟩,
     ⟨(some 22), .ext (.t 17) 1, none⟩,
     ⟨(some 8), .mov (.t 21), none⟩,
     ⟨(some 10), .mov (.t 22), none⟩])
  (.seq (.ops [⟨(some 23), .mov (.t 9), none⟩,
     ⟨(some 24), .mov (.t 10), none⟩,
     ⟨(some 25), .bin .add .no (.t 23) (.t 24), none⟩,
     ⟨(some 9), .mov (.t 25), none⟩])
  (.seq (.ops [⟨(some 27), .mov (.t 8), none⟩,
     ⟨(some 28), .mov (.t 3), none⟩,
     ⟨(some 29), .bits false (.t 27) (.t 28) (.c (.int .u64 0)), none⟩,
     ⟨(some 26), .mov (.t 29), none⟩,
     ⟨(some 30), .ext (.t 26) 0, none⟩,
     ⟨(some 31), .ext (.t 26) 1, none⟩,
     ⟨(some 8), .mov (.t 30), none⟩,
     ⟨(some 10), .mov (.t 31), none⟩])
  (.seq (.ops [⟨(some 32), .mov (.t 8), none⟩,
     ⟨(some 33), .mov (.t 9), none⟩,
     ⟨(some 34), .mov (.t 10), none⟩,
     ⟨(some 35), .bin .add .no (.t 33) (.t 34), none⟩,
     ⟨(some 8), .mov (.t 32), none⟩,
     ⟨(some 9), .mov (.t 35), none⟩])
  (.ret))))))⟩
/-- purser/wide.quotientBits -/
def f_wide_quotientBits : Fn := ⟨8, [.tmp 6],
  .seq (.ops [⟨(some 3), .box (.t 0), none⟩,
     ⟨(some 4), .box (.t 1), none⟩,
     ⟨(some 5), .box (.t 2), none⟩,
     ⟨(some 6), .mov (.c .nilFn), none⟩])
  (.seq (.ops [⟨(some 7), .mkfn k_wide_quotientBits_1 [] [(.t 3), (.t 5), (.t 4)], none⟩,
     ⟨(some 6), .mov (.t 7), none⟩])
  (.ret))⟩
/-- math/bits.Len64 -/
def f_math_bits_Len64 : Fn := ⟨25, [.tmp 2],
  .seq (.ops [⟨(some 2), .mov (.c (.int .i64 0)), none⟩])
  (.seq (.seq (.ops [⟨(some 3), .mov (.t 0), none⟩,
      ⟨(some 4), .bin .geq .no (.t 3) (.c (.int .u64 4294967296)), none⟩])
   (.cond (.t 4)
    (.seq (.ops [⟨(some 5), .mov (.t 0), none⟩,
        ⟨(some 6), .bin .shr .no (.t 5) (.c (.int .u64 32)), none⟩,
        ⟨(some 0), .mov (.t 6), none⟩])
     (.ops [⟨(some 2), .mov (.c (.int .i64 32)), none⟩]))
    (.skip)))
  (.seq (.seq (.ops [⟨(some 7), .mov (.t 0), none⟩,
      ⟨(some 8), .bin .geq .no (.t 7) (.c (.int .u64 65536)), none⟩])
   (.cond (.t 8)
    (.seq (.ops [⟨(some 9), .mov (.t 0), none⟩,
        ⟨(some 10), .bin .shr .no (.t 9) (.c (.int .u64 16)), none⟩,
        ⟨(some 0), .mov (.t 10), none⟩])
     (.ops [⟨(some 11), .mov (.t 2), none⟩,
       ⟨(some 12), .bin .add .no (.t 11) (.c (.int .i64 16)), none⟩,
       ⟨(some 2), .mov (.t 12), none⟩]))
    (.skip)))
  (.seq (.seq (.ops [⟨(some 13), .mov (.t 0), none⟩,
      ⟨(some 14), .bin .geq .no (.t 13) (.c (.int .u64 256)), none⟩])
   (.cond (.t 14)
    (.seq (.ops [⟨(some 15), .mov (.t 0), none⟩,
        ⟨(some 16), .bin .shr .no (.t 15) (.c (.int .u64 8)), none⟩,
        ⟨(some 0), .mov (.t 16), none⟩])
     (.ops [⟨(some 17), .mov (.t 2), none⟩,
       ⟨(some 18), .bin .add .no (.t 17) (.c (.int .i64 8)), none⟩,
       ⟨(some 2), .mov (.t 18), none⟩]))
    (.skip)))
  (.seq (.ops [⟨(some 19), .mov (.t 2), none⟩,
     ⟨(some 20), .mov (.t 0), none⟩,
     ⟨(some 21), .conv .u8 (.t 20), none⟩,
     ⟨(some 22), .idxStr (.c (.str [0, 1, 2, 2, 3, 3, 3, 3, 4, 4, 4, 4, 4, 4, 4, 4, 5, 5, 5, 5, 5, 5, 5, 5, 5, 5, 5, 5, 5, 5, 5, 5, 6, 6, 6, 6, 6, 6, 6, 6, 6, 6, 6, 6, 6, 6, 6, 6, 6, 6, 6, 6, 6, 6, 6, 6, 6, 6, 6, 6, 6, 6, 6, 6, 7, 7, 7, 7, 7, 7, 7, 7, 7, 7, 7, 7, 7, 7, 7, 7, 7, 7, 7, 7, 7, 7, 7, 7, 7, 7, 7, 7, 7, 7, 7, 7, 7, 7, 7, 7, 7, 7, 7, 7, 7, 7, 7, 7, 7, 7, 7, 7, 7, 7, 7, 7, 7, 7, 7, 7, 7, 7, 7, 7, 7, 7, 7, 7, 8, 8, 8, 8, 8, 8, 8, 8, 8, 8, 8, 8, 8, 8, 8, 8, 8, 8, 8, 8, 8, 8, 8, 8, 8, 8, 8, 8, 8, 8, 8, 8, 8, 8, 8, 8, 8, 8, 8, 8, 8, 8, 8, 8, 8, 8, 8, 8, 8, 8, 8, 8, 8, 8, 8, 8, 8, 8, 8, 8, 8, 8, 8, 8, 8, 8, 8, 8, 8, 8, 8, 8, 8, 8, 8, 8, 8, 8, 8, 8, 8, 8, 8, 8, 8, 8, 8, 8, 8, 8, 8, 8, 8, 8, 8, 8, 8, 8, 8, 8, 8, 8, 8, 8, 8, 8, 8, 8, 8, 8, 8, 8, 8, 8, 8, 8, 8, 8, 8, 8, 8, 8, 8, 8, 8, 8, 8, 8])) (.t 21), none⟩,
     ⟨(some 23), .conv .i64 (.t 22), none⟩,
     ⟨(some 24), .bin .add .no (.t 19) (.t 23), none⟩,
     ⟨(some 2), .mov (.t 24), none⟩])
  (.ret)))))⟩
/-- math/bits.Mul64 -/
def f_math_bits_Mul64 : Fn := ⟨51, [.tmp 4, .tmp 5],
  .seq (.ops [⟨(some 4), .mov (.c (.int .u64 0)), none⟩,
     ⟨(some 5), .mov (.c (.int .u64 0)), none⟩])
  (.seq (.ops [⟨(some 14), .mov (.t 0), none⟩,
     ⟨(some 15), .bin .and .no (.t 14) (.c (.int .u64 4294967295)), none⟩,
     ⟨(some 6), .mov (.t 15), none⟩])
  (.seq (.ops [⟨(some 16), .mov (.t 0), none⟩,
     ⟨(some 17), .bin .shr .no (.t 16) (.c (.int .u64 32)), none⟩,
     ⟨(some 7), .mov (.t 17), none⟩])
  (.seq (.ops [⟨(some 18), .mov (.t 1), none⟩,
     ⟨(some 19), .bin .and .no (.t 18) (.c (.int .u64 4294967295)), none⟩,
     ⟨(some 8), .mov (.t 19), none⟩])
  (.seq (.ops [⟨(some 20), .mov (.t 1), none⟩,
     ⟨(some 21), .bin .shr .no (.t 20) (.c (.int .u64 32)), none⟩,
     ⟨(some 9), .mov (.t 21), none⟩])
  (.seq (.ops [⟨(some 22), .mov (.t 6), none⟩,
     ⟨(some 23), .mov (.t 8), none⟩,
     ⟨(some 24), .bin .mul .no (.t 22) (.t 23), none⟩,
     ⟨(some 10), .mov (.t 24), none⟩])
  (.seq (.ops [⟨(some 25), .mov (.t 7), none⟩,
     ⟨(some 26), .mov (.t 8), none⟩,
     ⟨(some 27), .bin .mul .no (.t 25) (.t 26), none⟩,
     ⟨(some 28), .mov (.t 10), none⟩,
     ⟨(some 29), .bin .shr .no (.t 28) (.c (.int .u64 32)), none⟩,
     ⟨(some 30), .bin .add .no (.t 27) (.t 29), none⟩,
     ⟨(some 11), .mov (.t 30), none⟩])
  (.seq (.ops [⟨(some 31), .mov (.t 11), none⟩,
     ⟨(some 32), .bin .and .no (.t 31) (.c (.int .u64 4294967295)), none⟩,
     ⟨(some 12), .mov (.t 32), none⟩])
  (.seq (.ops [⟨(some 33), .mov (.t 11), none⟩,
     ⟨(some 34), .bin .shr .no (.t 33) (.c (.int .u64 32)), none⟩,
     ⟨(some 13), .mov (.t 34), none⟩])
  (.seq (.ops [⟨(some 35), .mov (.t 12), none⟩,
     ⟨(some 36), .mov (.t 6), none⟩,
     ⟨(some 37), .mov (.t 9), none⟩,
     ⟨(some 38), .bin .mul .no (.t 36) (.t 37), none⟩,
     ⟨(some 39), .bin .add .no (.t 35) (.t 38), none⟩,
     ⟨(some 12), .mov (.t 39), none⟩])
  (.seq (.ops [⟨(some 40), .mov (.t 7), none⟩,
     ⟨(some 41), .mov (.t 9), none⟩,
     ⟨(some 42), .bin .mul .no (.t 40) (.t 41), none⟩,
     ⟨(some 43), .mov (.t 13), none⟩,
     ⟨(some 44), .bin .add .no (.t 42) (.t 43), none⟩,
     ⟨(some 45), .mov (.t 12), none⟩,
     ⟨(some 46), .bin .shr .no (.t 45) (.c (.int .u64 32)), none⟩,
     ⟨(some 47), .bin .add .no (.t 44) (.t 46), none⟩,
     ⟨(some 4), .mov (.t 47), none⟩])
  (.seq (.ops [⟨(some 48), .mov (.t 0), none⟩,
     ⟨(some 49), .mov (.t 1), none⟩,
     ⟨(some 50), .bin .mul .no (.t 48) (.t 49), none⟩,
     ⟨(some 5), .mov (.t 50), none⟩])
  (.ret))))))))))))⟩
/-- purser/wide.quotientBits$1 -/
def f_wide_quotientBits_1 : Fn := ⟨55, [],
  .seq (.ops [⟨(some 8), .load (some 4) (.t 1), none⟩,
     ⟨(some 9), .call k_wide_Len [(.t 8)], none⟩,
     ⟨(some 10), .bin .sub .no (.t 9) (.c (.int .i64 1)), none⟩,
     ⟨(some 5), .mov (.t 10), none⟩])
  (.block 0 (.loop (.seq (.seq (.ops [⟨(some 11), .mov (.t 5), none⟩,
        ⟨(some 12), .bin .geq .no (.t 11) (.c (.int .i64 0)), none⟩])
     (.cond (.t 12)
      (.skip)
      (.exit 0)))
    (.seq (.block 1 (.seq (.dops 0 [] [(⟨(some 15), .load none (.t 2), none⟩, .R [] [(1, [])]),
         (⟨(some 16), .load none (.t 2), none⟩, .R [] []),
         (⟨(some 17), .nilchk (.t 16), none⟩, .L),
         (⟨(some 18), .load (some 4) (.t 17), none⟩, .R [] []),
         (⟨(some 19), .call k_wide_Left [(.t 18), (.c (.int .i64 1))], none⟩, .B []),
         (⟨(some 20), .nilchk (.t 15), none⟩, .L),
         (⟨none, .store 4 (.t 20) (.t 19), none⟩, .B [])])
      (.seq (.dops 0 [] [(⟨(some 21), .load none (.t 2), none⟩, .R [] []),
         (⟨(some 22), .nilchk (.t 21), none⟩, .L),
         (⟨(some 23), .idxAddrA 4 1 (.t 22) (.c (.int .i64 0)), none⟩, .L),
         (⟨(some 24), .load none (.t 23), none⟩, .R [] []),
         (⟨(some 25), .mov (.t 5), none⟩, .L),
         (⟨(some 26), .bin .quo .no (.t 25) (.c (.int .i64 64)), none⟩, .L),
         (⟨(some 27), .idxAddrA 4 1 (.t 1) (.t 26), none⟩, .L),
         (⟨(some 28), .load none (.t 27), none⟩, .R [] []),
         (⟨(some 29), .mov (.t 5), none⟩, .L),
         (⟨(some 30), .bin .rem .no (.t 29) (.c (.int .i64 64)), none⟩, .L),
         (⟨(some 31), .bin .shr .no (.t 28) (.t 30), none⟩, .L),
         (⟨(some 32), .bin .and .no (.t 31) (.c (.int .u64 1)), none⟩, .L),
         (⟨(some 33), .bin .or .no (.t 24) (.t 32), none⟩, .L),
         (⟨(some 34), .nilchk (.t 21), none⟩, .L),
         (⟨(some 35), .idxAddrA 4 1 (.t 34) (.c (.int .i64 0)), none⟩, .L),
         (⟨none, .store 1 (.t 35) (.t 33), none⟩, .B [])])
      (.seq (.dops 1 [] [(⟨(some 37), .load none (.t 2), none⟩, .R [] []),
         (⟨(some 38), .nilchk (.t 37), none⟩, .L),
         (⟨(some 39), .load (some 4) (.t 38), none⟩, .R [] []),
         (⟨(some 40), .load (some 4) (.t 3), none⟩, .R [] []),
         (⟨(some 41), .call k_wide_Sub [(.t 39), (.t 40)], none⟩, .B []),
         (⟨(some 36), .mov (.t 41), none⟩, .L),
         (⟨(some 42), .ext (.t 36) 0, none⟩, .L),
         (⟨(some 43), .ext (.t 36) 1, none⟩, .L),
         (⟨(some 6), .alloc [(.int .u64 0), (.int .u64 0), (.int .u64 0), (.int .u64 0)], none⟩, .Al 0),
         (⟨none, .store 4 (.t 6) (.t 42), none⟩, .B [0]),
         (⟨(some 7), .mov (.t 43), none⟩, .L)])
      (.seq (.seq (.ops [⟨(some 44), .mov (.t 7), none⟩,
          ⟨(some 45), .un .not (.t 44), none⟩])
       (.cond (.t 45)
        (.ops [⟨(some 46), .load none (.t 2), none⟩,
           ⟨(some 47), .load (some 4) (.t 6), none⟩,
           ⟨(some 48), .nilchk (.t 46), none⟩,
           ⟨none, .store 4 (.t 48) (.t 47), none⟩])
        (.skip)))
      (.seq (.ops [⟨(some 49), .mov (.t 0), none⟩,
         ⟨(some 50), .mov (.t 5), none⟩,
         ⟨(some 51), .mov (.t 7), none⟩,
         ⟨(some 52), .un .not (.t 51), none⟩,
         ⟨(some 53), .callv (.t 49) [(.t 50), (.t 52)], none⟩,
         ⟨(some 54), .un .not (.t 53), none⟩])
      (.cond (.t 54)
       (.ret)
       (.skip))))))))
    (.ops [⟨(some 13), .mov (.t 5), none⟩,
      ⟨(some 14), .bin .sub .no (.t 13) (.c (.int .i64 1)), none⟩,
      ⟨(some 5), .mov (.t 14), none⟩])))))⟩


def dAsg : C := (.seq (.ops [⟨(some 7), .mov (.t 17), none⟩])
      (.ops [⟨(some 8), .mov (.t 18), none⟩]))
def dBody : C := (.block 1 (.seq (.seq (.ops [⟨(some 19), .mov (.t 8), none⟩,
           ⟨(some 20), .un .not (.t 19), none⟩])
        (.cond (.t 20)
         (.exit 1)
         (.skip)))
       (.dops 0 [] [(⟨(some 21), .mov (.t 7), none⟩, .L),
         (⟨(some 22), .bin .quo .no (.t 21) (.c (.int .i64 64)), none⟩, .L),
         (⟨(some 23), .idxAddrA 4 1 (.t 4) (.t 22), none⟩, .L),
         (⟨(some 24), .load none (.t 23), none⟩, .R [] []),
         (⟨(some 25), .mov (.t 7), none⟩, .L),
         (⟨(some 26), .bin .rem .no (.t 25) (.c (.int .i64 64)), none⟩, .L),
         (⟨(some 27), .bin .shl .no (.c (.int .u64 1)) (.t 26), none⟩, .L),
         (⟨(some 28), .bin .or .no (.t 24) (.t 27), none⟩, .L),
         (⟨(some 29), .idxAddrA 4 1 (.t 4) (.t 22), none⟩, .L),
         (⟨none, .store 1 (.t 29) (.t 28), none⟩, .B [])])))
def qLoop : C := (.seq (.seq (.ops [⟨(some 11), .mov (.t 5), none⟩,
        ⟨(some 12), .bin .geq .no (.t 11) (.c (.int .i64 0)), none⟩])
     (.cond (.t 12)
      (.skip)
      (.exit 0)))
    (.seq (.block 1 (.seq (.dops 0 [] [(⟨(some 15), .load none (.t 2), none⟩, .R [] [(1, [])]),
         (⟨(some 16), .load none (.t 2), none⟩, .R [] []),
         (⟨(some 17), .nilchk (.t 16), none⟩, .L),
         (⟨(some 18), .load (some 4) (.t 17), none⟩, .R [] []),
         (⟨(some 19), .call k_wide_Left [(.t 18), (.c (.int .i64 1))], none⟩, .B []),
         (⟨(some 20), .nilchk (.t 15), none⟩, .L),
         (⟨none, .store 4 (.t 20) (.t 19), none⟩, .B [])])
      (.seq (.dops 0 [] [(⟨(some 21), .load none (.t 2), none⟩, .R [] []),
         (⟨(some 22), .nilchk (.t 21), none⟩, .L),
         (⟨(some 23), .idxAddrA 4 1 (.t 22) (.c (.int .i64 0)), none⟩, .L),
         (⟨(some 24), .load none (.t 23), none⟩, .R [] []),
         (⟨(some 25), .mov (.t 5), none⟩, .L),
         (⟨(some 26), .bin .quo .no (.t 25) (.c (.int .i64 64)), none⟩, .L),
         (⟨(some 27), .idxAddrA 4 1 (.t 1) (.t 26), none⟩, .L),
         (⟨(some 28), .load none (.t 27), none⟩, .R [] []),
         (⟨(some 29), .mov (.t 5), none⟩, .L),
         (⟨(some 30), .bin .rem .no (.t 29) (.c (.int .i64 64)), none⟩, .L),
         (⟨(some 31), .bin .shr .no (.t 28) (.t 30), none⟩, .L),
         (⟨(some 32), .bin .and .no (.t 31) (.c (.int .u64 1)), none⟩, .L),
         (⟨(some 33), .bin .or .no (.t 24) (.t 32), none⟩, .L),
         (⟨(some 34), .nilchk (.t 21), none⟩, .L),
         (⟨(some 35), .idxAddrA 4 1 (.t 34) (.c (.int .i64 0)), none⟩, .L),
         (⟨none, .store 1 (.t 35) (.t 33), none⟩, .B [])])
      (.seq (.dops 1 [] [(⟨(some 37), .load none (.t 2), none⟩, .R [] []),
         (⟨(some 38), .nilchk (.t 37), none⟩, .L),
         (⟨(some 39), .load (some 4) (.t 38), none⟩, .R [] []),
         (⟨(some 40), .load (some 4) (.t 3), none⟩, .R [] []),
         (⟨(some 41), .call k_wide_Sub [(.t 39), (.t 40)], none⟩, .B []),
         (⟨(some 36), .mov (.t 41), none⟩, .L),
         (⟨(some 42), .ext (.t 36) 0, none⟩, .L),
         (⟨(some 43), .ext (.t 36) 1, none⟩, .L),
         (⟨(some 6), .alloc [(.int .u64 0), (.int .u64 0), (.int .u64 0), (.int .u64 0)], none⟩, .Al 0),
         (⟨none, .store 4 (.t 6) (.t 42), none⟩, .B [0]),
         (⟨(some 7), .mov (.t 43), none⟩, .L)])
      (.seq (.seq (.ops [⟨(some 44), .mov (.t 7), none⟩,
          ⟨(some 45), .un .not (.t 44), none⟩])
       (.cond (.t 45)
        (.ops [⟨(some 46), .load none (.t 2), none⟩,
           ⟨(some 47), .load (some 4) (.t 6), none⟩,
           ⟨(some 48), .nilchk (.t 46), none⟩,
           ⟨none, .store 4 (.t 48) (.t 47), none⟩])
        (.skip)))
      (.seq (.ops [⟨(some 49), .mov (.t 0), none⟩,
         ⟨(some 50), .mov (.t 5), none⟩,
         ⟨(some 51), .mov (.t 7), none⟩,
         ⟨(some 52), .un .not (.t 51), none⟩,
         ⟨(some 53), .callv (.t 49) [(.t 50), (.t 52)], none⟩,
         ⟨(some 54), .un .not (.t 53), none⟩])
      (.cond (.t 54)
       (.ret)
       (.skip))))))))
    (.ops [⟨(some 13), .mov (.t 5), none⟩,
      ⟨(some 14), .bin .sub .no (.t 13) (.c (.int .i64 1)), none⟩,
      ⟨(some 5), .mov (.t 14), none⟩])))
def lenLoop : C := (.seq (.ops [⟨(some 6), .bin .lss .no (.t 5) (.c (.int .i64 4)), none⟩])
     (.seq (.cond (.t 6)
       (.skip)
       (.exit 0))
     (.seq (.block 1 (.seq (.ops [⟨(some 7), .mov (.t 5), none⟩,
          ⟨(some 4), .mov (.t 7), none⟩])
       (.seq (.ops [⟨(some 8), .mov (.t 4), none⟩,
          ⟨(some 9), .idxAddrA 4 1 (.t 1) (.t 8), none⟩,
          ⟨(some 10), .load none (.t 9), none⟩,
          ⟨(some 11), .bin .neq .no (.t 10) (.c (.int .u64 0)), none⟩])
       (.cond (.t 11)
        (.ops [⟨(some 12), .mov (.t 4), none⟩,
           ⟨(some 13), .bin .mul .no (.t 12) (.c (.int .i64 64)), none⟩,
           ⟨(some 14), .mov (.t 4), none⟩,
           ⟨(some 15), .idxAddrA 4 1 (.t 1) (.t 14), none⟩,
           ⟨(some 16), .load none (.t 15), none⟩,
           ⟨(some 17), .call k_math_bits_Len64 [(.t 16)], none⟩,
           ⟨(some 18), .bin .add .no (.t 13) (.t 17), none⟩,
           ⟨(some 3), .mov (.t 18), none⟩])
        (.skip)))))
     (.ops [⟨(some 19), .bin .add .no (.t 5) (.c (.int .i64 1)), none⟩,
       ⟨(some 5), .mov (.t 19), none⟩]))))
abbrev lenTab : List Nat := [0, 1, 2, 2, 3, 3, 3, 3, 4, 4, 4, 4, 4, 4, 4, 4, 5, 5, 5, 5, 5, 5, 5, 5, 5, 5, 5, 5, 5, 5, 5, 5, 6, 6, 6, 6, 6, 6, 6, 6, 6, 6, 6, 6, 6, 6, 6, 6, 6, 6, 6, 6, 6, 6, 6, 6, 6, 6, 6, 6, 6, 6, 6, 6, 7, 7, 7, 7, 7, 7, 7, 7, 7, 7, 7, 7, 7, 7, 7, 7, 7, 7, 7, 7, 7, 7, 7, 7, 7, 7, 7, 7, 7, 7, 7, 7, 7, 7, 7, 7, 7, 7, 7, 7, 7, 7, 7, 7, 7, 7, 7, 7, 7, 7, 7, 7, 7, 7, 7, 7, 7, 7, 7, 7, 7, 7, 7, 7, 8, 8, 8, 8, 8, 8, 8, 8, 8, 8, 8, 8, 8, 8, 8, 8, 8, 8, 8, 8, 8, 8, 8, 8, 8, 8, 8, 8, 8, 8, 8, 8, 8, 8, 8, 8, 8, 8, 8, 8, 8, 8, 8, 8, 8, 8, 8, 8, 8, 8, 8, 8, 8, 8, 8, 8, 8, 8, 8, 8, 8, 8, 8, 8, 8, 8, 8, 8, 8, 8, 8, 8, 8, 8, 8, 8, 8, 8, 8, 8, 8, 8, 8, 8, 8, 8, 8, 8, 8, 8, 8, 8, 8, 8, 8, 8, 8, 8, 8, 8, 8, 8, 8, 8, 8, 8, 8, 8, 8, 8, 8, 8, 8, 8, 8, 8, 8, 8, 8, 8, 8, 8, 8, 8, 8, 8, 8, 8]

end Go.Eng
