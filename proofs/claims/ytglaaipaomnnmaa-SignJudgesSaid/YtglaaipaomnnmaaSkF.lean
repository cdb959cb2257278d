/- Functions of the program, as the evaluator takes them: printed by program. -/
import Derived.Test.YtglaaipaomnnmaaShF
namespace Go.Eng
open Go
/-- purser/sign.Sign -/
abbrev k_sign_Sign : Nat := 35
/-- purser/sign.Public -/
abbrev k_sign_Public : Nat := 36
/-- purser/sign.Is -/
abbrev k_sign_Is : Nat := 39
/-- purser/sign.seal -/
abbrev k_sign_seal : Nat := 57
/-- purser/sign.Sign -/
def f_sign_Sign : Fn := ⟨19, [.tmp 4],
  .seq (.ops [⟨(some 2), .box (.t 0), none⟩,
     ⟨(some 3), .box (.t 1), none⟩,
     ⟨(some 4), .mov (.c (.slice none 0 (some 0) 0)), none⟩])
  (.seq (.ops [⟨(some 7), .mkslice [(.int .u8 0)] 1 (.c (.int .i64 64)) (.c (.int .i64 64)), none⟩,
     ⟨(some 5), .mov (.t 7), none⟩])
  (.seq (.ops [⟨(some 8), .mov (.t 5), none⟩,
     ⟨(some 9), .slcA 32 1 (.t 2) none none none, none⟩,
     ⟨(some 10), .copy 1 (.t 8) (.t 9), none⟩])
  (.seq (.dops 1 [] [(⟨(some 11), .slcA 32 1 (.t 2) none none none, none⟩, .R [] []),
     (⟨(some 12), .load (some 32) (.t 3), none⟩, .R [] []),
     (⟨(some 13), .call k_sign_seal [(.t 11), (.t 12)], none⟩, .B []),
     (⟨(some 6), .alloc [(.int .u8 0), (.int .u8 0), (.int .u8 0), (.int .u8 0), (.int .u8 0), (.int .u8 0), (.int .u8 0), (.int .u8 0), (.int .u8 0), (.int .u8 0), (.int .u8 0), (.int .u8 0), (.int .u8 0), (.int .u8 0), (.int .u8 0), (.int .u8 0), (.int .u8 0), (.int .u8 0), (.int .u8 0), (.int .u8 0), (.int .u8 0), (.int .u8 0), (.int .u8 0), (.int .u8 0), (.int .u8 0), (.int .u8 0), (.int .u8 0), (.int .u8 0), (.int .u8 0), (.int .u8 0), (.int .u8 0), (.int .u8 0)], none⟩, .Al 0),
     (⟨none, .store 32 (.t 6) (.t 13), none⟩, .B [0])])
  (.seq (.dops 0 [] [(⟨(some 14), .mov (.t 5), none⟩, .L),
     (⟨(some 15), .slcS 1 (.t 14) (some (.c (.int .i64 32))) none none, none⟩, .L),
     (⟨(some 16), .slcA 32 1 (.t 6) none none none, none⟩, .R [] []),
     (⟨(some 17), .copy 1 (.t 15) (.t 16), none⟩, .B [])])
  (.seq (.ops [⟨(some 18), .mov (.t 5), none⟩,
     ⟨(some 4), .mov (.t 18), none⟩])
  (.ret))))))⟩
/-- purser/sign.Public -/
def f_sign_Public : Fn := ⟨5, [.cell 2 (some 32)],
  .seq (.ops [⟨(some 1), .box (.t 0), none⟩,
     ⟨(some 2), .alloc [(.int .u8 0), (.int .u8 0), (.int .u8 0), (.int .u8 0), (.int .u8 0), (.int .u8 0), (.int .u8 0), (.int .u8 0), (.int .u8 0), (.int .u8 0), (.int .u8 0), (.int .u8 0), (.int .u8 0), (.int .u8 0), (.int .u8 0), (.int .u8 0), (.int .u8 0), (.int .u8 0), (.int .u8 0), (.int .u8 0), (.int .u8 0), (.int .u8 0), (.int .u8 0), (.int .u8 0), (.int .u8 0), (.int .u8 0), (.int .u8 0), (.int .u8 0), (.int .u8 0), (.int .u8 0), (.int .u8 0), (.int .u8 0)], none⟩])
  (.seq (.ops [⟨(some 3), .slcA 32 1 (.t 1) none none none, none⟩,
     ⟨(some 4), .call k_sha_Of [(.t 3)], none⟩,
     ⟨none, .store 32 (.t 2) (.t 4), none⟩])
  (.ret))⟩
/-- purser/sign.Is -/
def f_sign_Is : Fn := ⟨36, [.tmp 6],
  .seq (.ops [⟨(some 5), .box (.t 2), none⟩,
     ⟨(some 6), .mov (.c (.bool false)), none⟩])
  (.seq (.seq (.ops [⟨(some 9), .mov (.t 0), none⟩,
      ⟨(some 10), .len false (.t 9), none⟩,
      ⟨(some 11), .bin .neq .no (.t 10) (.c (.int .i64 32)), none⟩,
      ⟨(some 12), .mov (.t 11), none⟩,
      ⟨(some 13), .mov (.t 1), (some (12, false))⟩,
      ⟨(some 14), .len false (.t 13), (some (12, false))⟩,
      ⟨(some 15), .bin .neq .no (.t 14) (.c (.int .i64 64)), (some (12, false))⟩,
      ⟨(some 16), .pick (.t 12) (.c (.bool true)) (.t 15), none⟩])
   (.cond (.t 16)
    (.seq (.ops [⟨(some 6), .mov (.c (.bool false)), none⟩])
     (.ret))
    (.skip)))
  (.seq (.dops 0 [] [(⟨(some 17), .mov (.t 1), none⟩, .L),
     (⟨(some 18), .slcS 1 (.t 17) none (some (.c (.int .i64 32))) (some (.c (.int .i64 32))), none⟩, .L),
     (⟨(some 19), .mov (.t 1), none⟩, .L),
     (⟨(some 20), .slcS 1 (.t 19) (some (.c (.int .i64 32))) none none, none⟩, .L),
     (⟨(some 7), .mov (.t 18), none⟩, .L),
     (⟨(some 8), .mov (.t 20), none⟩, .L)])
  (.seq (.dops 0 [] [(⟨(some 21), .mov (.t 7), none⟩, .L),
     (⟨(some 22), .call k_sha_Of [(.t 21)], none⟩, .B []),
     (⟨(some 23), .mov (.t 0), none⟩, .L),
     (⟨(some 24), .s2a 32 (.t 23), none⟩, .L),
     (⟨(some 25), .load (some 32) (.t 24), none⟩, .R [] [(2, [])]),
     (⟨(some 26), .bin .eql (.flat [.i, .i, .i, .i, .i, .i, .i, .i, .i, .i, .i, .i, .i, .i, .i, .i, .i, .i, .i, .i, .i, .i, .i, .i, .i, .i, .i, .i, .i, .i, .i, .i]) (.t 22) (.t 25), none⟩, .L),
     (⟨(some 27), .mov (.t 26), none⟩, .L),
     (⟨(some 28), .mov (.t 7), (some (27, true))⟩, .L),
     (⟨(some 29), .load (some 32) (.t 5), (some (27, true))⟩, .R [] []),
     (⟨(some 30), .call k_sign_seal [(.t 28), (.t 29)], (some (27, true))⟩, .B []),
     (⟨(some 31), .mov (.t 8), (some (27, true))⟩, .L),
     (⟨(some 32), .s2a 32 (.t 31), (some (27, true))⟩, .L),
     (⟨(some 33), .load (some 32) (.t 32), (some (27, true))⟩, .R [] [(1, [])]),
     (⟨(some 34), .bin .eql (.flat [.i, .i, .i, .i, .i, .i, .i, .i, .i, .i, .i, .i, .i, .i, .i, .i, .i, .i, .i, .i, .i, .i, .i, .i, .i, .i, .i, .i, .i, .i, .i, .i]) (.t 30) (.t 33), (some (27, true))⟩, .L),
     (⟨(some 35), .pick (.t 27) (.t 34) (.c (.bool false)), none⟩, .L),
     (⟨(some 6), .mov (.t 35), none⟩, .L)])
  (.ret))))⟩
/-- purser/sign.seal -/
def f_sign_seal : Fn := ⟨9, [.cell 4 (some 32)],
  .seq (.ops [⟨(some 3), .box (.t 1), none⟩,
     ⟨(some 4), .alloc [(.int .u8 0), (.int .u8 0), (.int .u8 0), (.int .u8 0), (.int .u8 0), (.int .u8 0), (.int .u8 0), (.int .u8 0), (.int .u8 0), (.int .u8 0), (.int .u8 0), (.int .u8 0), (.int .u8 0), (.int .u8 0), (.int .u8 0), (.int .u8 0), (.int .u8 0), (.int .u8 0), (.int .u8 0), (.int .u8 0), (.int .u8 0), (.int .u8 0), (.int .u8 0), (.int .u8 0), (.int .u8 0), (.int .u8 0), (.int .u8 0), (.int .u8 0), (.int .u8 0), (.int .u8 0), (.int .u8 0), (.int .u8 0)], none⟩])
  (.seq (.ops [⟨(some 5), .mov (.t 0), none⟩,
     ⟨(some 6), .slcA 32 1 (.t 3) none none none, none⟩,
     ⟨(some 7), .append 1 1 (.t 5) (.t 6), none⟩,
     ⟨(some 8), .call k_sha_Of [(.t 7)], none⟩,
     ⟨none, .store 32 (.t 4) (.t 8), none⟩])
  (.ret))⟩

end Go.Eng
