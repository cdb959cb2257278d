/- Functions of the program, as the evaluator takes them: printed by program. -/
import Derived.Test.YtfopajklnakmpaaBiF
namespace Go.Eng
open Go
/-- purser/purserlaw07.BlockBits -/
abbrev k_purserlaw07_BlockBits : Nat := 13
/-- purser/purserlaw07.BlockBits -/
def f_purserlaw07_BlockBits : Fn := ⟨90, [.tmp 6],
  .seq (.ops [⟨(some 3), .box (.t 0), none⟩,
     ⟨(some 4), .box (.t 1), none⟩,
     ⟨(some 6), .mov (.c (.bool false)), none⟩])
  (.seq (.ops [⟨(some 13), .call k_purserlaw07_alive [], none⟩,
     ⟨(some 7), .mov (.t 13), none⟩])
  (.seq (.seq (.ops [⟨(some 14), .mov (.t 7), none⟩,
      ⟨(some 15), .un .not (.t 14), none⟩])
   (.cond (.t 15)
    (.seq (.ops [⟨(some 16), .mov (.t 7), none⟩,
        ⟨(some 6), .mov (.t 16), none⟩])
     (.ret))
    (.skip)))
  (.seq (.dops 0 [] [(⟨(some 17), .load (some 68) (.t 3), none⟩, .R [] []),
     (⟨(some 18), .call k_block_EncodeHeader [(.t 17)], none⟩, .B []),
     (⟨(some 19), .b2s (.t 18), none⟩, .R [] [(0, [])]),
     (⟨(some 20), .load (some 68) (.t 4), none⟩, .R [] [(2, [])]),
     (⟨(some 21), .call k_block_EncodeHeader [(.t 20)], none⟩, .B []),
     (⟨(some 22), .b2s (.t 21), none⟩, .R [] []),
     (⟨(some 8), .mov (.t 19), none⟩, .L),
     (⟨(some 9), .mov (.t 22), none⟩, .L)])
  (.seq (.seq (.dops 0 [] [(⟨(some 23), .mov (.t 8), none⟩, .L),
      (⟨(some 24), .mov (.t 9), none⟩, .L),
      (⟨(some 25), .bin .eql .no (.t 23) (.t 24), none⟩, .L),
      (⟨(some 26), .load (some 68) (.t 3), none⟩, .R [] []),
      (⟨(some 27), .load (some 68) (.t 4), none⟩, .R [] []),
      (⟨(some 28), .bin .eql (.flat [.i, .i, .i, .i, .i, .i, .i, .i, .i, .i, .i, .i, .i, .i, .i, .i, .i, .i, .i, .i, .i, .i, .i, .i, .i, .i, .i, .i, .i, .i, .i, .i, .i, .i, .i, .i, .i, .i, .i, .i, .i, .i, .i, .i, .i, .i, .i, .i, .i, .i, .i, .i, .i, .i, .i, .i, .i, .i, .i, .i, .i, .i, .i, .i, .i, .i, .i, .i]) (.t 26) (.t 27), none⟩, .L),
      (⟨(some 29), .bin .neq .bool (.t 25) (.t 28), none⟩, .L),
      (⟨(some 30), .mov (.t 29), none⟩, .L),
      (⟨(some 31), .load (some 68) (.t 3), (some (30, false))⟩, .R [] []),
      (⟨(some 32), .load (some 68) (.t 4), (some (30, false))⟩, .R [] []),
      (⟨(some 33), .bin .eql (.flat [.i, .i, .i, .i, .i, .i, .i, .i, .i, .i, .i, .i, .i, .i, .i, .i, .i, .i, .i, .i, .i, .i, .i, .i, .i, .i, .i, .i, .i, .i, .i, .i, .i, .i, .i, .i, .i, .i, .i, .i, .i, .i, .i, .i, .i, .i, .i, .i, .i, .i, .i, .i, .i, .i, .i, .i, .i, .i, .i, .i, .i, .i, .i, .i, .i, .i, .i, .i]) (.t 31) (.t 32), (some (30, false))⟩, .L),
      (⟨(some 34), .mov (.t 33), (some (30, false))⟩, .L),
      (⟨(some 35), .load (some 68) (.t 3), (some (34, true))⟩, .R [] []),
      (⟨(some 36), .call k_block_Hash [(.t 35)], (some (34, true))⟩, .B []),
      (⟨(some 37), .load (some 68) (.t 4), (some (34, true))⟩, .R [] [(2, [])]),
      (⟨(some 38), .call k_block_Hash [(.t 37)], (some (34, true))⟩, .B []),
      (⟨(some 39), .bin .neq (.flat [.i, .i, .i, .i, .i, .i, .i, .i, .i, .i, .i, .i, .i, .i, .i, .i, .i, .i, .i, .i, .i, .i, .i, .i, .i, .i, .i, .i, .i, .i, .i, .i]) (.t 36) (.t 38), (some (34, true))⟩, .L),
      (⟨(some 40), .pick (.t 34) (.t 39) (.c (.bool false)), (some (30, false))⟩, .L),
      (⟨(some 41), .pick (.t 30) (.c (.bool true)) (.t 40), none⟩, .L),
      (⟨(some 42), .mov (.t 41), none⟩, .L),
      (⟨(some 43), .mov (.t 8), (some (42, false))⟩, .L),
      (⟨(some 44), .len true (.t 43), (some (42, false))⟩, .L),
      (⟨(some 45), .bin .neq .no (.t 44) (.c (.int .i64 80)), (some (42, false))⟩, .L),
      (⟨(some 46), .pick (.t 42) (.c (.bool true)) (.t 45), none⟩, .L)])
   (.cond (.t 46)
    (.seq (.ops [⟨(some 6), .mov (.c (.bool false)), none⟩])
     (.ret))
    (.skip)))
  (.seq (.ops [⟨(some 47), .mov (.t 8), none⟩,
     ⟨(some 48), .s2b (.t 47), none⟩,
     ⟨(some 10), .mov (.t 48), none⟩])
  (.seq (.ops [⟨(some 49), .mov (.t 10), none⟩,
     ⟨(some 50), .mov (.t 2), none⟩,
     ⟨(some 51), .conv .i64 (.t 50), none⟩,
     ⟨(some 52), .bin .rem .no (.t 51) (.c (.int .i64 640)), none⟩,
     ⟨(some 53), .bin .quo .no (.t 52) (.c (.int .i64 8)), none⟩,
     ⟨(some 54), .mov (.t 10), none⟩,
     ⟨(some 55), .mov (.t 2), none⟩,
     ⟨(some 56), .conv .i64 (.t 55), none⟩,
     ⟨(some 57), .bin .rem .no (.t 56) (.c (.int .i64 640)), none⟩,
     ⟨(some 58), .bin .quo .no (.t 57) (.c (.int .i64 8)), none⟩,
     ⟨(some 59), .idxAddrS 1 (.t 54) (.t 58), none⟩,
     ⟨(some 60), .load none (.t 59), none⟩,
     ⟨(some 61), .mov (.t 2), none⟩,
     ⟨(some 62), .bin .rem .no (.t 61) (.c (.int .u16 8)), none⟩,
     ⟨(some 63), .conv .u64 (.t 62), none⟩,
     ⟨(some 64), .bin .shl .no (.c (.int .u8 1)) (.t 63), none⟩,
     ⟨(some 65), .bin .xor .no (.t 60) (.t 64), none⟩,
     ⟨(some 66), .idxAddrS 1 (.t 49) (.t 53), none⟩,
     ⟨none, .store 1 (.t 66) (.t 65), none⟩])
  (.seq (.ops [⟨(some 68), .mov (.t 10), none⟩,
     ⟨(some 69), .call k_block_DecodeHeader [(.t 68)], none⟩,
     ⟨(some 67), .mov (.t 69), none⟩,
     ⟨(some 70), .ext (.t 67) 0, none⟩,
     ⟨(some 71), .ext (.t 67) 1, none⟩,
     ⟨(some 11), .alloc [(.int .u32 0), (.int .u8 0), (.int .u8 0), (.int .u8 0), (.int .u8 0), (.int .u8 0), (.int .u8 0), (.int .u8 0), (.int .u8 0), (.int .u8 0), (.int .u8 0), (.int .u8 0), (.int .u8 0), (.int .u8 0), (.int .u8 0), (.int .u8 0), (.int .u8 0), (.int .u8 0), (.int .u8 0), (.int .u8 0), (.int .u8 0), (.int .u8 0), (.int .u8 0), (.int .u8 0), (.int .u8 0), (.int .u8 0), (.int .u8 0), (.int .u8 0), (.int .u8 0), (.int .u8 0), (.int .u8 0), (.int .u8 0), (.int .u8 0), (.int .u8 0), (.int .u8 0), (.int .u8 0), (.int .u8 0), (.int .u8 0), (.int .u8 0), (.int .u8 0), (.int .u8 0), (.int .u8 0), (.int .u8 0), (.int .u8 0), (.int .u8 0), (.int .u8 0), (.int .u8 0), (.int .u8 0), (.int .u8 0), (.int .u8 0), (.int .u8 0), (.int .u8 0), (.int .u8 0), (.int .u8 0), (.int .u8 0), (.int .u8 0), (.int .u8 0), (.int .u8 0), (.int .u8 0), (.int .u8 0), (.int .u8 0), (.int .u8 0), (.int .u8 0), (.int .u8 0), (.int .u8 0), (.int .u32 0), (.int .u32 0), (.int .u32 0)], none⟩,
     ⟨none, .store 68 (.t 11) (.t 70), none⟩,
     ⟨(some 12), .mov (.t 71), none⟩])
  (.seq (.dops 0 [] [(⟨(some 72), .mov (.t 7), none⟩, .L),
     (⟨(some 73), .mov (.t 72), none⟩, .L),
     (⟨(some 74), .mov (.t 12), (some (73, true))⟩, .L),
     (⟨(some 75), .bin .eql .no (.t 74) (.c (.int .i64 0)), (some (73, true))⟩, .L),
     (⟨(some 76), .pick (.t 73) (.t 75) (.c (.bool false)), none⟩, .L),
     (⟨(some 77), .mov (.t 76), none⟩, .L),
     (⟨(some 78), .load (some 68) (.t 11), (some (77, true))⟩, .R [] []),
     (⟨(some 79), .load (some 68) (.t 3), (some (77, true))⟩, .R [] []),
     (⟨(some 80), .bin .neq (.flat [.i, .i, .i, .i, .i, .i, .i, .i, .i, .i, .i, .i, .i, .i, .i, .i, .i, .i, .i, .i, .i, .i, .i, .i, .i, .i, .i, .i, .i, .i, .i, .i, .i, .i, .i, .i, .i, .i, .i, .i, .i, .i, .i, .i, .i, .i, .i, .i, .i, .i, .i, .i, .i, .i, .i, .i, .i, .i, .i, .i, .i, .i, .i, .i, .i, .i, .i, .i]) (.t 78) (.t 79), (some (77, true))⟩, .L),
     (⟨(some 81), .pick (.t 77) (.t 80) (.c (.bool false)), none⟩, .L),
     (⟨(some 82), .mov (.t 81), none⟩, .L),
     (⟨(some 83), .load (some 68) (.t 11), (some (82, true))⟩, .R [] []),
     (⟨(some 84), .call k_block_EncodeHeader [(.t 83)], (some (82, true))⟩, .B []),
     (⟨(some 85), .b2s (.t 84), (some (82, true))⟩, .R [] []),
     (⟨(some 86), .mov (.t 10), (some (82, true))⟩, .L),
     (⟨(some 87), .b2s (.t 86), (some (82, true))⟩, .R [] [(1, [])]),
     (⟨(some 88), .bin .eql .no (.t 85) (.t 87), (some (82, true))⟩, .L),
     (⟨(some 89), .pick (.t 82) (.t 88) (.c (.bool false)), none⟩, .L),
     (⟨(some 6), .mov (.t 89), none⟩, .L)])
  (.ret)))))))))⟩

end Go.Eng
