/- Functions of the program, as the evaluator takes them: printed by program. -/
import Derived.Test.YtcgfhdhjanmgaaaEngI
namespace Go.Eng
open Go
/-- purser/merkle.Root -/
abbrev k_merkle_Root : Nat := 7
/-- purser/merkle.Branch -/
abbrev k_merkle_Branch : Nat := 9
/-- purser/merkle.Fold -/
abbrev k_merkle_Fold : Nat := 11
/-- purser/merkle.Depth -/
abbrev k_merkle_Depth : Nat := 16
/-- purser/merkle.Swollen -/
abbrev k_merkle_Swollen : Nat := 13
/-- purser/merkle.levels -/
abbrev k_merkle_levels : Nat := 21
/-- (purser/merkle.pair).above -/
abbrev k_merkle_pair_above : Nat := 22
/-- purser/merkle.same[purser/api.Hash] -/
abbrev k_merkle_same_api_Hash : Nat := 26
/-- purser/sha.Twice -/
abbrev k_sha_Twice : Nat := 27
/-- purser/merkle.levels$1 -/
abbrev k_merkle_levels_1 : Nat := 28
/-- slices.Concat[[]byte,byte] -/
abbrev k_slices_Concat_byte_byte : Nat := 31
/-- purser/sha.Of -/
abbrev k_sha_Of : Nat := 33
/-- purser/merkle.pairs -/
abbrev k_merkle_pairs : Nat := 29
/-- purser/merkle.above -/
abbrev k_merkle_above : Nat := 30
/-- slices.Grow[[]byte,byte] -/
abbrev k_slices_Grow_byte_byte : Nat := 35
/-- purser/sha.New -/
abbrev k_sha_New : Nat := 37
/-- (*purser/sha.Sum).Write -/
abbrev k_sha_Sum_Write : Nat := 38
/-- (*purser/sha.Sum).End -/
abbrev k_sha_Sum_End : Nat := 39
/-- slices.Chunk[[]purser/api.Hash,purser/api.Hash] -/
abbrev k_slices_Chunk_api_Hash_api_Hash : Nat := 34
/-- purser/sha.squareTable -/
abbrev k_sha_squareTable : Nat := 45
/-- (*purser/sha.Sum).sums -/
abbrev k_sha_Sum_sums : Nat := 46
/-- (*purser/sha.Sum).fill -/
abbrev k_sha_Sum_fill : Nat := 47
/-- (*purser/sha.Sum).mix -/
abbrev k_sha_Sum_mix : Nat := 48
/-- purser/sha.padding -/
abbrev k_sha_padding : Nat := 49
/-- slices.Chunk[[]purser/api.Hash,purser/api.Hash]$1 -/
abbrev k_slices_Chunk_api_Hash_api_Hash_1 : Nat := 40
/-- (*purser/sha.Sum).fill$1 -/
abbrev k_sha_Sum_fill_1 : Nat := 50
/-- purser/sha.cubeTable -/
abbrev k_sha_cubeTable : Nat := 51
/-- (*purser/sha.Sum).schedule -/
abbrev k_sha_Sum_schedule : Nat := 52
/-- purser/sha.turned -/
abbrev k_sha_turned : Nat := 53
/-- math/bits.RotateLeft32 -/
abbrev k_math_bits_RotateLeft32 : Nat := 54
def A_merkle_Root_0 : C := .ops [⟨(some 5), .mov (.t 15), none⟩]
theorem u_A_merkle_Root_0 (Q : Orc) (N n : Nat) (r : Option Nat) (st : St) : evC Q N n r A_merkle_Root_0 st = evC Q N n r (.ops [⟨(some 5), .mov (.t 15), none⟩]) st := _root_.id rfl
def B_merkle_Root_0 : C := .block 1 (.ops [⟨(some 16), .mov (.t 5), none⟩,
        ⟨(some 17), .idxAddrS 64 (.t 16) (.c (.int .i64 0)), none⟩,
        ⟨(some 18), .load (some 64) (.t 17), none⟩,
        ⟨(some 19), .call k_merkle_pair_above [(.t 18)], none⟩,
        ⟨none, .store 32 (.t 4) (.t 19), none⟩])
theorem u_B_merkle_Root_0 (Q : Orc) (N n : Nat) (r : Option Nat) (st : St) : evC Q N n r B_merkle_Root_0 st = evC Q N n r (.block 1 (.ops [⟨(some 16), .mov (.t 5), none⟩,
        ⟨(some 17), .idxAddrS 64 (.t 16) (.c (.int .i64 0)), none⟩,
        ⟨(some 18), .load (some 64) (.t 17), none⟩,
        ⟨(some 19), .call k_merkle_pair_above [(.t 18)], none⟩,
        ⟨none, .store 32 (.t 4) (.t 19), none⟩])) st := _root_.id rfl
def R_merkle_Root_0 : C := .seq (.ops [⟨(some 20), .load (some 32) (.t 4), none⟩,
     ⟨none, .store 32 (.t 2) (.t 20), none⟩,
     ⟨(some 3), .mov (.c (.int .i64 0)), none⟩])
  (.ret)
/-- purser/merkle.Root -/
def f_merkle_Root : Fn := ⟨21, [.cell 2 (some 32), .tmp 3],
  .seq (.ops [⟨(some 2), .alloc [(.int .u8 0), (.int .u8 0), (.int .u8 0), (.int .u8 0), (.int .u8 0), (.int .u8 0), (.int .u8 0), (.int .u8 0), (.int .u8 0), (.int .u8 0), (.int .u8 0), (.int .u8 0), (.int .u8 0), (.int .u8 0), (.int .u8 0), (.int .u8 0), (.int .u8 0), (.int .u8 0), (.int .u8 0), (.int .u8 0), (.int .u8 0), (.int .u8 0), (.int .u8 0), (.int .u8 0), (.int .u8 0), (.int .u8 0), (.int .u8 0), (.int .u8 0), (.int .u8 0), (.int .u8 0), (.int .u8 0), (.int .u8 0)], none⟩,
     ⟨(some 3), .mov (.c (.int .i64 0)), none⟩])
  (.seq (.seq (.ops [⟨(some 6), .mov (.t 0), none⟩,
      ⟨(some 7), .len false (.t 6), none⟩,
      ⟨(some 8), .bin .eql .no (.t 7) (.c (.int .i64 0)), none⟩])
   (.cond (.t 8)
    (.seq (.ops [⟨(some 9), .build [(.int .u8 0), (.int .u8 0), (.int .u8 0), (.int .u8 0), (.int .u8 0), (.int .u8 0), (.int .u8 0), (.int .u8 0), (.int .u8 0), (.int .u8 0), (.int .u8 0), (.int .u8 0), (.int .u8 0), (.int .u8 0), (.int .u8 0), (.int .u8 0), (.int .u8 0), (.int .u8 0), (.int .u8 0), (.int .u8 0), (.int .u8 0), (.int .u8 0), (.int .u8 0), (.int .u8 0), (.int .u8 0), (.int .u8 0), (.int .u8 0), (.int .u8 0), (.int .u8 0), (.int .u8 0), (.int .u8 0), (.int .u8 0)] [], none⟩,
        ⟨none, .store 32 (.t 2) (.t 9), none⟩,
        ⟨(some 3), .mov (.c (.int .i64 80)), none⟩])
     (.ret))
    (.skip)))
  (.seq (.ops [⟨(some 10), .mov (.t 0), none⟩,
     ⟨(some 11), .idxAddrS 32 (.t 10) (.c (.int .i64 0)), none⟩,
     ⟨(some 12), .load (some 32) (.t 11), none⟩,
     ⟨(some 4), .alloc [(.int .u8 0), (.int .u8 0), (.int .u8 0), (.int .u8 0), (.int .u8 0), (.int .u8 0), (.int .u8 0), (.int .u8 0), (.int .u8 0), (.int .u8 0), (.int .u8 0), (.int .u8 0), (.int .u8 0), (.int .u8 0), (.int .u8 0), (.int .u8 0), (.int .u8 0), (.int .u8 0), (.int .u8 0), (.int .u8 0), (.int .u8 0), (.int .u8 0), (.int .u8 0), (.int .u8 0), (.int .u8 0), (.int .u8 0), (.int .u8 0), (.int .u8 0), (.int .u8 0), (.int .u8 0), (.int .u8 0), (.int .u8 0)], none⟩,
     ⟨none, .store 32 (.t 4) (.t 12), none⟩])
  (.seq (.seq (.ops [⟨(some 13), .mov (.t 0), none⟩,
      ⟨(some 14), .call k_merkle_levels [(.t 13)], none⟩])
   (.block 0 (.rangeF (.t 14) [15] (A_merkle_Root_0)
    (B_merkle_Root_0))))
  (R_merkle_Root_0))))⟩
def A_merkle_Branch_0 : C := .ops [⟨(some 7), .mov (.t 18), none⟩]
theorem u_A_merkle_Branch_0 (Q : Orc) (N n : Nat) (r : Option Nat) (st : St) : evC Q N n r A_merkle_Branch_0 st = evC Q N n r (.ops [⟨(some 7), .mov (.t 18), none⟩]) st := _root_.id rfl
def B_merkle_Branch_0 : C := .block 1 (.seq (.dops 1 [] [(⟨(some 19), .load none (.t 6), none⟩, .R [] []),
         (⟨(some 20), .mov (.t 7), none⟩, .L),
         (⟨(some 21), .load none (.t 3), none⟩, .R [] []),
         (⟨(some 22), .bin .quo .no (.t 21) (.c (.int .i64 2)), none⟩, .L),
         (⟨(some 23), .load none (.t 3), none⟩, .R [] []),
         (⟨(some 24), .bin .rem .no (.t 23) (.c (.int .i64 2)), none⟩, .L),
         (⟨(some 25), .bin .sub .no (.c (.int .i64 1)) (.t 24), none⟩, .L),
         (⟨(some 26), .idxAddrS 64 (.t 20) (.t 22), none⟩, .L),
         (⟨(some 27), .idxAddrA 2 32 (.t 26) (.t 25), none⟩, .L),
         (⟨(some 28), .load (some 32) (.t 27), none⟩, .R [] []),
         (⟨(some 29), .buildS [(.int .u8 0), (.int .u8 0), (.int .u8 0), (.int .u8 0), (.int .u8 0), (.int .u8 0), (.int .u8 0), (.int .u8 0), (.int .u8 0), (.int .u8 0), (.int .u8 0), (.int .u8 0), (.int .u8 0), (.int .u8 0), (.int .u8 0), (.int .u8 0), (.int .u8 0), (.int .u8 0), (.int .u8 0), (.int .u8 0), (.int .u8 0), (.int .u8 0), (.int .u8 0), (.int .u8 0), (.int .u8 0), (.int .u8 0), (.int .u8 0), (.int .u8 0), (.int .u8 0), (.int .u8 0), (.int .u8 0), (.int .u8 0)] 1 32 [(0, 32, (.t 28))], none⟩, .Al 0),
         (⟨(some 30), .append 32 32 (.t 19) (.t 29), none⟩, .B [0]),
         (⟨none, .store 1 (.t 6) (.t 30), none⟩, .B [])])
      (.ops [⟨(some 31), .load none (.t 3), none⟩,
        ⟨(some 32), .bin .quo .no (.t 31) (.c (.int .i64 2)), none⟩,
        ⟨none, .store 1 (.t 3) (.t 32), none⟩]))
theorem u_B_merkle_Branch_0 (Q : Orc) (N n : Nat) (r : Option Nat) (st : St) : evC Q N n r B_merkle_Branch_0 st = evC Q N n r (.block 1 (.seq (.dops 1 [] [(⟨(some 19), .load none (.t 6), none⟩, .R [] []),
         (⟨(some 20), .mov (.t 7), none⟩, .L),
         (⟨(some 21), .load none (.t 3), none⟩, .R [] []),
         (⟨(some 22), .bin .quo .no (.t 21) (.c (.int .i64 2)), none⟩, .L),
         (⟨(some 23), .load none (.t 3), none⟩, .R [] []),
         (⟨(some 24), .bin .rem .no (.t 23) (.c (.int .i64 2)), none⟩, .L),
         (⟨(some 25), .bin .sub .no (.c (.int .i64 1)) (.t 24), none⟩, .L),
         (⟨(some 26), .idxAddrS 64 (.t 20) (.t 22), none⟩, .L),
         (⟨(some 27), .idxAddrA 2 32 (.t 26) (.t 25), none⟩, .L),
         (⟨(some 28), .load (some 32) (.t 27), none⟩, .R [] []),
         (⟨(some 29), .buildS [(.int .u8 0), (.int .u8 0), (.int .u8 0), (.int .u8 0), (.int .u8 0), (.int .u8 0), (.int .u8 0), (.int .u8 0), (.int .u8 0), (.int .u8 0), (.int .u8 0), (.int .u8 0), (.int .u8 0), (.int .u8 0), (.int .u8 0), (.int .u8 0), (.int .u8 0), (.int .u8 0), (.int .u8 0), (.int .u8 0), (.int .u8 0), (.int .u8 0), (.int .u8 0), (.int .u8 0), (.int .u8 0), (.int .u8 0), (.int .u8 0), (.int .u8 0), (.int .u8 0), (.int .u8 0), (.int .u8 0), (.int .u8 0)] 1 32 [(0, 32, (.t 28))], none⟩, .Al 0),
         (⟨(some 30), .append 32 32 (.t 19) (.t 29), none⟩, .B [0]),
         (⟨none, .store 1 (.t 6) (.t 30), none⟩, .B [])])
      (.ops [⟨(some 31), .load none (.t 3), none⟩,
        ⟨(some 32), .bin .quo .no (.t 31) (.c (.int .i64 2)), none⟩,
        ⟨none, .store 1 (.t 3) (.t 32), none⟩]))) st := _root_.id rfl
def R_merkle_Branch_0 : C := .seq (.ops [⟨(some 33), .load none (.t 6), none⟩,
     ⟨(some 4), .mov (.t 33), none⟩,
     ⟨(some 5), .mov (.c (.int .i64 0)), none⟩])
  (.ret)
/-- purser/merkle.Branch -/
def f_merkle_Branch : Fn := ⟨34, [.tmp 4, .tmp 5],
  .seq (.ops [⟨(some 3), .box (.t 1), none⟩,
     ⟨(some 4), .mov (.c (.slice none 0 (some 0) 0)), none⟩,
     ⟨(some 5), .mov (.c (.int .i64 0)), none⟩])
  (.seq (.seq (.ops [⟨(some 8), .load none (.t 3), none⟩,
      ⟨(some 9), .bin .lss .no (.t 8) (.c (.int .i64 0)), none⟩,
      ⟨(some 10), .mov (.t 9), none⟩,
      ⟨(some 11), .load none (.t 3), (some (10, false))⟩,
      ⟨(some 12), .mov (.t 0), (some (10, false))⟩,
      ⟨(some 13), .len false (.t 12), (some (10, false))⟩,
      ⟨(some 14), .bin .geq .no (.t 11) (.t 13), (some (10, false))⟩,
      ⟨(some 15), .pick (.t 10) (.c (.bool true)) (.t 14), none⟩])
   (.cond (.t 15)
    (.seq (.ops [⟨(some 4), .mov (.c (.slice none 0 (some 0) 0)), none⟩,
        ⟨(some 5), .mov (.c (.int .i64 80)), none⟩])
     (.ret))
    (.skip)))
  (.seq (.ops [⟨(some 6), .alloc [(.slice none 0 (some 0) 0)], none⟩])
  (.seq (.seq (.ops [⟨(some 16), .mov (.t 0), none⟩,
      ⟨(some 17), .call k_merkle_levels [(.t 16)], none⟩])
   (.block 0 (.rangeF (.t 17) [18] (A_merkle_Branch_0)
    (B_merkle_Branch_0))))
  (R_merkle_Branch_0))))⟩
def L_merkle_Fold_0 : C := .seq (.ops [⟨(some 29), .bin .lss .no (.t 28) (.t 27), none⟩])
     (.seq (.cond (.t 29)
       (.skip)
       (.exit 0))
     (.seq (.block 1 (.seq (.ops [⟨(some 30), .idxAddrS 32 (.t 26) (.t 28), none⟩,
          ⟨(some 31), .load (some 32) (.t 30), none⟩,
          ⟨(some 9), .alloc [(.int .u8 0), (.int .u8 0), (.int .u8 0), (.int .u8 0), (.int .u8 0), (.int .u8 0), (.int .u8 0), (.int .u8 0), (.int .u8 0), (.int .u8 0), (.int .u8 0), (.int .u8 0), (.int .u8 0), (.int .u8 0), (.int .u8 0), (.int .u8 0), (.int .u8 0), (.int .u8 0), (.int .u8 0), (.int .u8 0), (.int .u8 0), (.int .u8 0), (.int .u8 0), (.int .u8 0), (.int .u8 0), (.int .u8 0), (.int .u8 0), (.int .u8 0), (.int .u8 0), (.int .u8 0), (.int .u8 0), (.int .u8 0)], none⟩,
          ⟨none, .store 32 (.t 9) (.t 31), none⟩])
       (.seq (.ops [⟨(some 32), .load (some 32) (.t 3), none⟩,
          ⟨(some 33), .load (some 32) (.t 9), none⟩,
          ⟨(some 34), .build [(.int .u8 0), (.int .u8 0), (.int .u8 0), (.int .u8 0), (.int .u8 0), (.int .u8 0), (.int .u8 0), (.int .u8 0), (.int .u8 0), (.int .u8 0), (.int .u8 0), (.int .u8 0), (.int .u8 0), (.int .u8 0), (.int .u8 0), (.int .u8 0), (.int .u8 0), (.int .u8 0), (.int .u8 0), (.int .u8 0), (.int .u8 0), (.int .u8 0), (.int .u8 0), (.int .u8 0), (.int .u8 0), (.int .u8 0), (.int .u8 0), (.int .u8 0), (.int .u8 0), (.int .u8 0), (.int .u8 0), (.int .u8 0), (.int .u8 0), (.int .u8 0), (.int .u8 0), (.int .u8 0), (.int .u8 0), (.int .u8 0), (.int .u8 0), (.int .u8 0), (.int .u8 0), (.int .u8 0), (.int .u8 0), (.int .u8 0), (.int .u8 0), (.int .u8 0), (.int .u8 0), (.int .u8 0), (.int .u8 0), (.int .u8 0), (.int .u8 0), (.int .u8 0), (.int .u8 0), (.int .u8 0), (.int .u8 0), (.int .u8 0), (.int .u8 0), (.int .u8 0), (.int .u8 0), (.int .u8 0), (.int .u8 0), (.int .u8 0), (.int .u8 0), (.int .u8 0)] [(0, 32, (.t 32)), (32, 32, (.t 33))], none⟩,
          ⟨(some 10), .alloc [(.int .u8 0), (.int .u8 0), (.int .u8 0), (.int .u8 0), (.int .u8 0), (.int .u8 0), (.int .u8 0), (.int .u8 0), (.int .u8 0), (.int .u8 0), (.int .u8 0), (.int .u8 0), (.int .u8 0), (.int .u8 0), (.int .u8 0), (.int .u8 0), (.int .u8 0), (.int .u8 0), (.int .u8 0), (.int .u8 0), (.int .u8 0), (.int .u8 0), (.int .u8 0), (.int .u8 0), (.int .u8 0), (.int .u8 0), (.int .u8 0), (.int .u8 0), (.int .u8 0), (.int .u8 0), (.int .u8 0), (.int .u8 0), (.int .u8 0), (.int .u8 0), (.int .u8 0), (.int .u8 0), (.int .u8 0), (.int .u8 0), (.int .u8 0), (.int .u8 0), (.int .u8 0), (.int .u8 0), (.int .u8 0), (.int .u8 0), (.int .u8 0), (.int .u8 0), (.int .u8 0), (.int .u8 0), (.int .u8 0), (.int .u8 0), (.int .u8 0), (.int .u8 0), (.int .u8 0), (.int .u8 0), (.int .u8 0), (.int .u8 0), (.int .u8 0), (.int .u8 0), (.int .u8 0), (.int .u8 0), (.int .u8 0), (.int .u8 0), (.int .u8 0), (.int .u8 0)], none⟩,
          ⟨none, .store 64 (.t 10) (.t 34), none⟩])
       (.seq (.seq (.ops [⟨(some 35), .mov (.t 1), none⟩,
           ⟨(some 36), .bin .rem .no (.t 35) (.c (.int .i64 2)), none⟩,
           ⟨(some 37), .bin .eql .no (.t 36) (.c (.int .i64 1)), none⟩])
        (.cond (.t 37)
         (.ops [⟨(some 38), .load (some 32) (.t 9), none⟩,
            ⟨(some 39), .load (some 32) (.t 3), none⟩,
            ⟨(some 40), .build [(.int .u8 0), (.int .u8 0), (.int .u8 0), (.int .u8 0), (.int .u8 0), (.int .u8 0), (.int .u8 0), (.int .u8 0), (.int .u8 0), (.int .u8 0), (.int .u8 0), (.int .u8 0), (.int .u8 0), (.int .u8 0), (.int .u8 0), (.int .u8 0), (.int .u8 0), (.int .u8 0), (.int .u8 0), (.int .u8 0), (.int .u8 0), (.int .u8 0), (.int .u8 0), (.int .u8 0), (.int .u8 0), (.int .u8 0), (.int .u8 0), (.int .u8 0), (.int .u8 0), (.int .u8 0), (.int .u8 0), (.int .u8 0), (.int .u8 0), (.int .u8 0), (.int .u8 0), (.int .u8 0), (.int .u8 0), (.int .u8 0), (.int .u8 0), (.int .u8 0), (.int .u8 0), (.int .u8 0), (.int .u8 0), (.int .u8 0), (.int .u8 0), (.int .u8 0), (.int .u8 0), (.int .u8 0), (.int .u8 0), (.int .u8 0), (.int .u8 0), (.int .u8 0), (.int .u8 0), (.int .u8 0), (.int .u8 0), (.int .u8 0), (.int .u8 0), (.int .u8 0), (.int .u8 0), (.int .u8 0), (.int .u8 0), (.int .u8 0), (.int .u8 0), (.int .u8 0)] [(0, 32, (.t 38)), (32, 32, (.t 39))], none⟩,
            ⟨none, .store 64 (.t 10) (.t 40), none⟩])
         (.skip)))
       (.seq (.ops [⟨(some 41), .load (some 64) (.t 10), none⟩,
          ⟨(some 42), .call k_merkle_pair_above [(.t 41)], none⟩,
          ⟨none, .store 32 (.t 3) (.t 42), none⟩])
       (.ops [⟨(some 43), .mov (.t 1), none⟩,
         ⟨(some 44), .bin .quo .no (.t 43) (.c (.int .i64 2)), none⟩,
         ⟨(some 1), .mov (.t 44), none⟩]))))))
     (.ops [⟨(some 45), .bin .add .no (.t 28) (.c (.int .i64 1)), none⟩,
       ⟨(some 28), .mov (.t 45), none⟩])))
def R_merkle_Fold_0 : C := .seq (.ops [⟨(some 46), .load (some 32) (.t 3), none⟩,
     ⟨none, .store 32 (.t 6) (.t 46), none⟩,
     ⟨(some 7), .mov (.c (.int .i64 0)), none⟩])
  (.ret)
/-- purser/merkle.Fold -/
def f_merkle_Fold : Fn := ⟨47, [.cell 6 (some 32), .tmp 7],
  .seq (.ops [⟨(some 3), .box (.t 0), none⟩,
     ⟨(some 6), .alloc [(.int .u8 0), (.int .u8 0), (.int .u8 0), (.int .u8 0), (.int .u8 0), (.int .u8 0), (.int .u8 0), (.int .u8 0), (.int .u8 0), (.int .u8 0), (.int .u8 0), (.int .u8 0), (.int .u8 0), (.int .u8 0), (.int .u8 0), (.int .u8 0), (.int .u8 0), (.int .u8 0), (.int .u8 0), (.int .u8 0), (.int .u8 0), (.int .u8 0), (.int .u8 0), (.int .u8 0), (.int .u8 0), (.int .u8 0), (.int .u8 0), (.int .u8 0), (.int .u8 0), (.int .u8 0), (.int .u8 0), (.int .u8 0)], none⟩,
     ⟨(some 7), .mov (.c (.int .i64 0)), none⟩])
  (.seq (.seq (.ops [⟨(some 11), .mov (.t 2), none⟩,
      ⟨(some 12), .len false (.t 11), none⟩,
      ⟨(some 13), .bin .gtr .no (.t 12) (.c (.int .i64 30)), none⟩,
      ⟨(some 14), .mov (.t 13), none⟩,
      ⟨(some 15), .mov (.t 1), (some (14, false))⟩,
      ⟨(some 16), .bin .lss .no (.t 15) (.c (.int .i64 0)), (some (14, false))⟩,
      ⟨(some 17), .pick (.t 14) (.c (.bool true)) (.t 16), none⟩,
      ⟨(some 18), .mov (.t 17), none⟩,
      ⟨(some 19), .mov (.t 1), (some (18, false))⟩,
      ⟨(some 20), .mov (.t 2), (some (18, false))⟩,
      ⟨(some 21), .len false (.t 20), (some (18, false))⟩,
      ⟨(some 22), .bin .shl .no (.c (.int .i64 1)) (.t 21), (some (18, false))⟩,
      ⟨(some 23), .bin .geq .no (.t 19) (.t 22), (some (18, false))⟩,
      ⟨(some 24), .pick (.t 18) (.c (.bool true)) (.t 23), none⟩])
   (.cond (.t 24)
    (.seq (.ops [⟨(some 25), .build [(.int .u8 0), (.int .u8 0), (.int .u8 0), (.int .u8 0), (.int .u8 0), (.int .u8 0), (.int .u8 0), (.int .u8 0), (.int .u8 0), (.int .u8 0), (.int .u8 0), (.int .u8 0), (.int .u8 0), (.int .u8 0), (.int .u8 0), (.int .u8 0), (.int .u8 0), (.int .u8 0), (.int .u8 0), (.int .u8 0), (.int .u8 0), (.int .u8 0), (.int .u8 0), (.int .u8 0), (.int .u8 0), (.int .u8 0), (.int .u8 0), (.int .u8 0), (.int .u8 0), (.int .u8 0), (.int .u8 0), (.int .u8 0)] [], none⟩,
        ⟨none, .store 32 (.t 6) (.t 25), none⟩,
        ⟨(some 7), .mov (.c (.int .i64 80)), none⟩])
     (.ret))
    (.skip)))
  (.seq (.seq (.ops [⟨(some 26), .mov (.t 2), none⟩,
      ⟨(some 27), .len false (.t 26), none⟩,
      ⟨(some 28), .mov (.c (.int .i64 0)), none⟩])
   (.block 0 (.loop (L_merkle_Fold_0))))
  (R_merkle_Fold_0)))⟩
def L_merkle_Depth_0 : C := .seq (.seq (.ops [⟨(some 4), .mov (.t 0), none⟩,
         ⟨(some 5), .bin .gtr .no (.t 4) (.c (.int .i64 1)), none⟩])
      (.cond (.t 5)
       (.skip)
       (.exit 0)))
     (.block 1 (.seq (.ops [⟨(some 6), .mov (.t 0), none⟩,
         ⟨(some 7), .mov (.t 0), none⟩,
         ⟨(some 8), .bin .quo .no (.t 7) (.c (.int .i64 2)), none⟩,
         ⟨(some 9), .bin .sub .no (.t 6) (.t 8), none⟩,
         ⟨(some 0), .mov (.t 9), none⟩])
      (.ops [⟨(some 10), .mov (.t 3), none⟩,
        ⟨(some 11), .bin .add .no (.t 10) (.c (.int .i64 1)), none⟩,
        ⟨(some 3), .mov (.t 11), none⟩])))
def R_merkle_Depth_0 : C := .seq (.ops [⟨(some 12), .mov (.t 3), none⟩,
     ⟨(some 2), .mov (.t 12), none⟩])
  (.ret)
/-- purser/merkle.Depth -/
def f_merkle_Depth : Fn := ⟨13, [.tmp 2],
  .seq (.ops [⟨(some 2), .mov (.c (.int .i64 0)), none⟩])
  (.seq (.ops [⟨(some 3), .mov (.c (.int .i64 0)), none⟩])
  (.seq (.block 0 (.loop (L_merkle_Depth_0)))
  (R_merkle_Depth_0)))⟩
def A_merkle_Swollen_0 : C := .ops [⟨(some 5), .mov (.t 12), none⟩]
theorem u_A_merkle_Swollen_0 (Q : Orc) (N n : Nat) (r : Option Nat) (st : St) : evC Q N n r A_merkle_Swollen_0 st = evC Q N n r (.ops [⟨(some 5), .mov (.t 12), none⟩]) st := _root_.id rfl
def L_merkle_Swollen_0 : C := .seq (.ops [⟨(some 19), .bin .lss .no (.t 18) (.t 17), none⟩])
          (.seq (.cond (.t 19)
            (.skip)
            (.exit 2))
          (.seq (.block 3 (.seq (.ops [⟨(some 20), .idxAddrS 64 (.t 16) (.t 18), none⟩,
               ⟨(some 21), .load (some 64) (.t 20), none⟩,
               ⟨(some 7), .alloc [(.int .u8 0), (.int .u8 0), (.int .u8 0), (.int .u8 0), (.int .u8 0), (.int .u8 0), (.int .u8 0), (.int .u8 0), (.int .u8 0), (.int .u8 0), (.int .u8 0), (.int .u8 0), (.int .u8 0), (.int .u8 0), (.int .u8 0), (.int .u8 0), (.int .u8 0), (.int .u8 0), (.int .u8 0), (.int .u8 0), (.int .u8 0), (.int .u8 0), (.int .u8 0), (.int .u8 0), (.int .u8 0), (.int .u8 0), (.int .u8 0), (.int .u8 0), (.int .u8 0), (.int .u8 0), (.int .u8 0), (.int .u8 0), (.int .u8 0), (.int .u8 0), (.int .u8 0), (.int .u8 0), (.int .u8 0), (.int .u8 0), (.int .u8 0), (.int .u8 0), (.int .u8 0), (.int .u8 0), (.int .u8 0), (.int .u8 0), (.int .u8 0), (.int .u8 0), (.int .u8 0), (.int .u8 0), (.int .u8 0), (.int .u8 0), (.int .u8 0), (.int .u8 0), (.int .u8 0), (.int .u8 0), (.int .u8 0), (.int .u8 0), (.int .u8 0), (.int .u8 0), (.int .u8 0), (.int .u8 0), (.int .u8 0), (.int .u8 0), (.int .u8 0), (.int .u8 0)], none⟩,
               ⟨none, .store 64 (.t 7) (.t 21), none⟩])
            (.seq (.ops [⟨(some 22), .idxAddrA 2 32 (.t 7) (.c (.int .i64 0)), none⟩,
               ⟨(some 23), .load (some 32) (.t 22), none⟩,
               ⟨(some 24), .idxAddrA 2 32 (.t 7) (.c (.int .i64 1)), none⟩,
               ⟨(some 25), .load (some 32) (.t 24), none⟩,
               ⟨(some 26), .call k_merkle_same_api_Hash [(.t 23), (.t 25)], none⟩,
               ⟨none, .store 1 (.t 3) (.t 26), none⟩])
            (.seq (.ops [⟨(some 27), .load none (.t 3), none⟩])
            (.cond (.t 27)
             (.exit 0)
             (.skip))))))
          (.ops [⟨(some 28), .bin .add .no (.t 18) (.c (.int .i64 1)), none⟩,
            ⟨(some 18), .mov (.t 28), none⟩])))
def R_merkle_Swollen_0 : C := .ops [⟨(some 29), .mov (.t 5), none⟩,
         ⟨(some 30), .len false (.t 29), none⟩,
         ⟨none, .store 1 (.t 4) (.t 30), none⟩]
def B_merkle_Swollen_0 : C := .block 1 (.seq (.seq (.ops [⟨(some 13), .mov (.t 5), none⟩,
           ⟨(some 14), .load none (.t 4), none⟩,
           ⟨(some 15), .bin .quo .no (.t 14) (.c (.int .i64 2)), none⟩,
           ⟨(some 16), .slcS 64 (.t 13) none (some (.t 15)) none, none⟩,
           ⟨(some 17), .len false (.t 16), none⟩,
           ⟨(some 18), .mov (.c (.int .i64 0)), none⟩])
        (.block 2 (.loop (L_merkle_Swollen_0))))
       (R_merkle_Swollen_0))
theorem u_B_merkle_Swollen_0 (Q : Orc) (N n : Nat) (r : Option Nat) (st : St) : evC Q N n r B_merkle_Swollen_0 st = evC Q N n r (.block 1 (.seq (.seq (.ops [⟨(some 13), .mov (.t 5), none⟩,
           ⟨(some 14), .load none (.t 4), none⟩,
           ⟨(some 15), .bin .quo .no (.t 14) (.c (.int .i64 2)), none⟩,
           ⟨(some 16), .slcS 64 (.t 13) none (some (.t 15)) none, none⟩,
           ⟨(some 17), .len false (.t 16), none⟩,
           ⟨(some 18), .mov (.c (.int .i64 0)), none⟩])
        (.block 2 (.loop (L_merkle_Swollen_0))))
       (R_merkle_Swollen_0))) st := _root_.id rfl
def R_merkle_Swollen_1 : C := .seq (.ops [⟨(some 31), .load none (.t 3), none⟩,
      ⟨(some 2), .mov (.t 31), none⟩])
   (.ret)
/-- purser/merkle.Swollen -/
def f_merkle_Swollen : Fn := ⟨32, [.tmp 2],
  .seq (.ops [⟨(some 2), .mov (.c (.bool false)), none⟩])
  (.scope (.seq (.ops [⟨(some 8), .mov (.t 0), none⟩,
      ⟨(some 9), .len false (.t 8), none⟩,
      ⟨(some 3), .alloc [(.bool false)], none⟩,
      ⟨(some 4), .alloc [(.int .i64 0)], none⟩,
      ⟨none, .store 1 (.t 3) (.c (.bool false)), none⟩,
      ⟨none, .store 1 (.t 4) (.t 9), none⟩])
   (.seq (.skip)
   (.seq (.seq (.ops [⟨(some 10), .mov (.t 0), none⟩,
       ⟨(some 11), .call k_merkle_levels [(.t 10)], none⟩])
    (.block 0 (.rangeF (.t 11) [12] (A_merkle_Swollen_0)
     (B_merkle_Swollen_0))))
   (R_merkle_Swollen_1)))))⟩
/-- purser/merkle.levels -/
def f_merkle_levels : Fn := ⟨4, [.tmp 2],
  .seq (.ops [⟨(some 1), .box (.t 0), none⟩,
     ⟨(some 2), .mov (.c .nilFn), none⟩])
  (.seq (.ops [⟨(some 3), .mkfn k_merkle_levels_1 [] [(.t 1)], none⟩,
     ⟨(some 2), .mov (.t 3), none⟩])
  (.ret))⟩
/-- (purser/merkle.pair).above -/
def f_merkle_pair_above : Fn := ⟨10, [.cell 2 (some 32)],
  .seq (.ops [⟨(some 1), .box (.t 0), none⟩,
     ⟨(some 2), .alloc [(.int .u8 0), (.int .u8 0), (.int .u8 0), (.int .u8 0), (.int .u8 0), (.int .u8 0), (.int .u8 0), (.int .u8 0), (.int .u8 0), (.int .u8 0), (.int .u8 0), (.int .u8 0), (.int .u8 0), (.int .u8 0), (.int .u8 0), (.int .u8 0), (.int .u8 0), (.int .u8 0), (.int .u8 0), (.int .u8 0), (.int .u8 0), (.int .u8 0), (.int .u8 0), (.int .u8 0), (.int .u8 0), (.int .u8 0), (.int .u8 0), (.int .u8 0), (.int .u8 0), (.int .u8 0), (.int .u8 0), (.int .u8 0)], none⟩])
  (.seq (.dops 1 [] [(⟨(some 3), .idxAddrA 2 32 (.t 1) (.c (.int .i64 0)), none⟩, .L),
     (⟨(some 4), .slcA 32 1 (.t 3) none none none, none⟩, .R [] []),
     (⟨(some 5), .idxAddrA 2 32 (.t 1) (.c (.int .i64 1)), none⟩, .L),
     (⟨(some 6), .slcA 32 1 (.t 5) none none none, none⟩, .R [] []),
     (⟨(some 7), .buildS [(.slice none 0 (some 0) 0), (.slice none 0 (some 0) 0)] 2 1 [(0, 1, (.t 4)), (1, 1, (.t 6))], none⟩, .Al 0),
     (⟨(some 8), .call k_slices_Concat_byte_byte [(.t 7)], none⟩, .B [0]),
     (⟨(some 9), .call k_sha_Twice [(.t 8)], none⟩, .B []),
     (⟨none, .store 32 (.t 2) (.t 9), none⟩, .B [])])
  (.ret))⟩
/-- purser/merkle.same[purser/api.Hash] -/
def f_merkle_same_api_Hash : Fn := ⟨8, [.tmp 4],
  .seq (.ops [⟨(some 2), .box (.t 0), none⟩,
     ⟨(some 3), .box (.t 1), none⟩,
     ⟨(some 4), .mov (.c (.bool false)), none⟩])
  (.seq (.ops [⟨(some 5), .load (some 32) (.t 2), none⟩,
     ⟨(some 6), .load (some 32) (.t 3), none⟩,
     ⟨(some 7), .bin .eql (.flat [.i, .i, .i, .i, .i, .i, .i, .i, .i, .i, .i, .i, .i, .i, .i, .i, .i, .i, .i, .i, .i, .i, .i, .i, .i, .i, .i, .i, .i, .i, .i, .i]) (.t 5) (.t 6), none⟩,
     ⟨(some 4), .mov (.t 7), none⟩])
  (.ret))⟩
/-- purser/sha.Twice -/
def f_sha_Twice : Fn := ⟨8, [.cell 2 (some 32)],
  .seq (.ops [⟨(some 2), .alloc [(.int .u8 0), (.int .u8 0), (.int .u8 0), (.int .u8 0), (.int .u8 0), (.int .u8 0), (.int .u8 0), (.int .u8 0), (.int .u8 0), (.int .u8 0), (.int .u8 0), (.int .u8 0), (.int .u8 0), (.int .u8 0), (.int .u8 0), (.int .u8 0), (.int .u8 0), (.int .u8 0), (.int .u8 0), (.int .u8 0), (.int .u8 0), (.int .u8 0), (.int .u8 0), (.int .u8 0), (.int .u8 0), (.int .u8 0), (.int .u8 0), (.int .u8 0), (.int .u8 0), (.int .u8 0), (.int .u8 0), (.int .u8 0)], none⟩])
  (.seq (.ops [⟨(some 4), .mov (.t 0), none⟩,
     ⟨(some 5), .call k_sha_Of [(.t 4)], none⟩,
     ⟨(some 3), .alloc [(.int .u8 0), (.int .u8 0), (.int .u8 0), (.int .u8 0), (.int .u8 0), (.int .u8 0), (.int .u8 0), (.int .u8 0), (.int .u8 0), (.int .u8 0), (.int .u8 0), (.int .u8 0), (.int .u8 0), (.int .u8 0), (.int .u8 0), (.int .u8 0), (.int .u8 0), (.int .u8 0), (.int .u8 0), (.int .u8 0), (.int .u8 0), (.int .u8 0), (.int .u8 0), (.int .u8 0), (.int .u8 0), (.int .u8 0), (.int .u8 0), (.int .u8 0), (.int .u8 0), (.int .u8 0), (.int .u8 0), (.int .u8 0)], none⟩,
     ⟨none, .store 32 (.t 3) (.t 5), none⟩])
  (.seq (.ops [⟨(some 6), .slcA 32 1 (.t 3) none none none, none⟩,
     ⟨(some 7), .call k_sha_Of [(.t 6)], none⟩,
     ⟨none, .store 32 (.t 2) (.t 7), none⟩])
  (.ret)))⟩
def L_merkle_levels_1_0 : C := .seq (.seq (.ops [⟨(some 4), .load none (.t 1), none⟩,
        ⟨(some 5), .len false (.t 4), none⟩,
        ⟨(some 6), .bin .gtr .no (.t 5) (.c (.int .i64 1)), none⟩])
     (.cond (.t 6)
      (.skip)
      (.exit 0)))
    (.block 1 (.seq (.ops [⟨(some 7), .load none (.t 1), none⟩,
        ⟨(some 8), .call k_merkle_pairs [(.t 7)], none⟩,
        ⟨(some 3), .mov (.t 8), none⟩])
     (.seq (.seq (.ops [⟨(some 9), .mov (.t 0), none⟩,
         ⟨(some 10), .mov (.t 3), none⟩,
         ⟨(some 11), .callv (.t 9) [(.t 10)], none⟩,
         ⟨(some 12), .un .not (.t 11), none⟩])
      (.cond (.t 12)
       (.ret)
       (.skip)))
     (.ops [⟨(some 13), .mov (.t 3), none⟩,
       ⟨(some 14), .call k_merkle_above [(.t 13)], none⟩,
       ⟨none, .store 1 (.t 1) (.t 14), none⟩]))))
/-- purser/merkle.levels$1 -/
def f_merkle_levels_1 : Fn := ⟨15, [],
  .block 0 (.loop (L_merkle_levels_1_0))⟩
def L_slices_Concat_byte_byte_0 : C := .seq (.ops [⟨(some 12), .bin .lss .no (.t 11) (.t 10), none⟩])
     (.seq (.cond (.t 12)
       (.skip)
       (.exit 0))
     (.seq (.block 1 (.seq (.ops [⟨(some 13), .idxAddrS 1 (.t 9) (.t 11), none⟩,
          ⟨(some 14), .load none (.t 13), none⟩,
          ⟨(some 5), .mov (.t 14), none⟩])
       (.seq (.ops [⟨(some 15), .mov (.t 3), none⟩,
          ⟨(some 16), .mov (.t 5), none⟩,
          ⟨(some 17), .len false (.t 16), none⟩,
          ⟨(some 18), .bin .add .no (.t 15) (.t 17), none⟩,
          ⟨(some 3), .mov (.t 18), none⟩])
       (.seq (.ops [⟨(some 19), .mov (.t 3), none⟩,
          ⟨(some 20), .bin .lss .no (.t 19) (.c (.int .i64 0)), none⟩])
       (.cond (.t 20)
        (.ops [⟨(some 21), .bad "", none⟩,
           ⟨none, .bad "", none⟩])
        (.skip))))))
     (.ops [⟨(some 22), .bin .add .no (.t 11) (.c (.int .i64 1)), none⟩,
       ⟨(some 11), .mov (.t 22), none⟩])))
def L_slices_Concat_byte_byte_1 : C := .seq (.ops [⟨(some 28), .bin .lss .no (.t 27) (.t 26), none⟩])
     (.seq (.cond (.t 28)
       (.skip)
       (.exit 2))
     (.seq (.block 3 (.seq (.ops [⟨(some 29), .idxAddrS 1 (.t 25) (.t 27), none⟩,
          ⟨(some 30), .load none (.t 29), none⟩,
          ⟨(some 8), .mov (.t 30), none⟩])
       (.ops [⟨(some 31), .mov (.t 6), none⟩,
         ⟨(some 32), .mov (.t 8), none⟩,
         ⟨(some 33), .append 1 1 (.t 31) (.t 32), none⟩,
         ⟨(some 6), .mov (.t 33), none⟩])))
     (.ops [⟨(some 34), .bin .add .no (.t 27) (.c (.int .i64 1)), none⟩,
       ⟨(some 27), .mov (.t 34), none⟩])))
def R_slices_Concat_byte_byte_0 : C := .seq (.ops [⟨(some 35), .mov (.t 6), none⟩,
     ⟨(some 2), .mov (.t 35), none⟩])
  (.ret)
def R_slices_Concat_byte_byte_1 : C := .seq (.ops [⟨(some 23), .mov (.t 3), none⟩,
     ⟨(some 24), .call k_slices_Grow_byte_byte [(.c (.slice none 0 (some 0) 0)), (.t 23)], none⟩,
     ⟨(some 6), .mov (.t 24), none⟩])
  (.seq (.seq (.ops [⟨(some 25), .mov (.t 0), none⟩,
      ⟨(some 26), .len false (.t 25), none⟩,
      ⟨(some 27), .mov (.c (.int .i64 0)), none⟩])
   (.block 2 (.loop (L_slices_Concat_byte_byte_1))))
  (R_slices_Concat_byte_byte_0))
/-- slices.Concat[[]byte,byte] -/
def f_slices_Concat_byte_byte : Fn := ⟨36, [.tmp 2],
  .seq (.ops [⟨(some 2), .mov (.c (.slice none 0 (some 0) 0)), none⟩])
  (.seq (.ops [⟨(some 3), .mov (.c (.int .i64 0)), none⟩])
  (.seq (.seq (.ops [⟨(some 9), .mov (.t 0), none⟩,
      ⟨(some 10), .len false (.t 9), none⟩,
      ⟨(some 11), .mov (.c (.int .i64 0)), none⟩])
   (.block 0 (.loop (L_slices_Concat_byte_byte_0))))
  (R_slices_Concat_byte_byte_1)))⟩
/-- purser/sha.Of -/
def f_sha_Of : Fn := ⟨7, [.cell 2 (some 32)],
  .seq (.ops [⟨(some 2), .alloc [(.int .u8 0), (.int .u8 0), (.int .u8 0), (.int .u8 0), (.int .u8 0), (.int .u8 0), (.int .u8 0), (.int .u8 0), (.int .u8 0), (.int .u8 0), (.int .u8 0), (.int .u8 0), (.int .u8 0), (.int .u8 0), (.int .u8 0), (.int .u8 0), (.int .u8 0), (.int .u8 0), (.int .u8 0), (.int .u8 0), (.int .u8 0), (.int .u8 0), (.int .u8 0), (.int .u8 0), (.int .u8 0), (.int .u8 0), (.int .u8 0), (.int .u8 0), (.int .u8 0), (.int .u8 0), (.int .u8 0), (.int .u8 0)], none⟩])
  (.seq (.ops [⟨(some 3), .call k_sha_New [], none⟩,
     ⟨(some 4), .mov (.t 0), none⟩,
     ⟨(some 5), .call k_sha_Sum_Write [(.t 3), (.t 4)], none⟩,
     ⟨(some 6), .call k_sha_Sum_End [(.t 5)], none⟩,
     ⟨none, .store 32 (.t 2) (.t 6), none⟩])
  (.ret))⟩
def A_merkle_pairs_0 : C := .ops [⟨(some 4), .mov (.t 12), none⟩]
theorem u_A_merkle_pairs_0 (Q : Orc) (N n : Nat) (r : Option Nat) (st : St) : evC Q N n r A_merkle_pairs_0 st = evC Q N n r (.ops [⟨(some 4), .mov (.t 12), none⟩]) st := _root_.id rfl
def B_merkle_pairs_0 : C := .block 1 (.dops 1 [] [(⟨(some 13), .load none (.t 3), none⟩, .R [] []),
        (⟨(some 14), .mov (.t 4), none⟩, .L),
        (⟨(some 15), .idxAddrS 32 (.t 14) (.c (.int .i64 0)), none⟩, .L),
        (⟨(some 16), .load (some 32) (.t 15), none⟩, .R [] []),
        (⟨(some 17), .mov (.t 4), none⟩, .L),
        (⟨(some 18), .mov (.t 4), none⟩, .L),
        (⟨(some 19), .len false (.t 18), none⟩, .L),
        (⟨(some 20), .bin .sub .no (.t 19) (.c (.int .i64 1)), none⟩, .L),
        (⟨(some 21), .idxAddrS 32 (.t 17) (.t 20), none⟩, .L),
        (⟨(some 22), .load (some 32) (.t 21), none⟩, .R [] []),
        (⟨(some 23), .build [(.int .u8 0), (.int .u8 0), (.int .u8 0), (.int .u8 0), (.int .u8 0), (.int .u8 0), (.int .u8 0), (.int .u8 0), (.int .u8 0), (.int .u8 0), (.int .u8 0), (.int .u8 0), (.int .u8 0), (.int .u8 0), (.int .u8 0), (.int .u8 0), (.int .u8 0), (.int .u8 0), (.int .u8 0), (.int .u8 0), (.int .u8 0), (.int .u8 0), (.int .u8 0), (.int .u8 0), (.int .u8 0), (.int .u8 0), (.int .u8 0), (.int .u8 0), (.int .u8 0), (.int .u8 0), (.int .u8 0), (.int .u8 0), (.int .u8 0), (.int .u8 0), (.int .u8 0), (.int .u8 0), (.int .u8 0), (.int .u8 0), (.int .u8 0), (.int .u8 0), (.int .u8 0), (.int .u8 0), (.int .u8 0), (.int .u8 0), (.int .u8 0), (.int .u8 0), (.int .u8 0), (.int .u8 0), (.int .u8 0), (.int .u8 0), (.int .u8 0), (.int .u8 0), (.int .u8 0), (.int .u8 0), (.int .u8 0), (.int .u8 0), (.int .u8 0), (.int .u8 0), (.int .u8 0), (.int .u8 0), (.int .u8 0), (.int .u8 0), (.int .u8 0), (.int .u8 0)] [(0, 32, (.t 16)), (32, 32, (.t 22))], none⟩, .L),
        (⟨(some 24), .buildS [(.int .u8 0), (.int .u8 0), (.int .u8 0), (.int .u8 0), (.int .u8 0), (.int .u8 0), (.int .u8 0), (.int .u8 0), (.int .u8 0), (.int .u8 0), (.int .u8 0), (.int .u8 0), (.int .u8 0), (.int .u8 0), (.int .u8 0), (.int .u8 0), (.int .u8 0), (.int .u8 0), (.int .u8 0), (.int .u8 0), (.int .u8 0), (.int .u8 0), (.int .u8 0), (.int .u8 0), (.int .u8 0), (.int .u8 0), (.int .u8 0), (.int .u8 0), (.int .u8 0), (.int .u8 0), (.int .u8 0), (.int .u8 0), (.int .u8 0), (.int .u8 0), (.int .u8 0), (.int .u8 0), (.int .u8 0), (.int .u8 0), (.int .u8 0), (.int .u8 0), (.int .u8 0), (.int .u8 0), (.int .u8 0), (.int .u8 0), (.int .u8 0), (.int .u8 0), (.int .u8 0), (.int .u8 0), (.int .u8 0), (.int .u8 0), (.int .u8 0), (.int .u8 0), (.int .u8 0), (.int .u8 0), (.int .u8 0), (.int .u8 0), (.int .u8 0), (.int .u8 0), (.int .u8 0), (.int .u8 0), (.int .u8 0), (.int .u8 0), (.int .u8 0), (.int .u8 0)] 1 64 [(0, 64, (.t 23))], none⟩, .Al 0),
        (⟨(some 25), .append 64 64 (.t 13) (.t 24), none⟩, .B [0]),
        (⟨none, .store 1 (.t 3) (.t 25), none⟩, .B [])])
theorem u_B_merkle_pairs_0 (Q : Orc) (N n : Nat) (r : Option Nat) (st : St) : evC Q N n r B_merkle_pairs_0 st = evC Q N n r (.block 1 (.dops 1 [] [(⟨(some 13), .load none (.t 3), none⟩, .R [] []),
        (⟨(some 14), .mov (.t 4), none⟩, .L),
        (⟨(some 15), .idxAddrS 32 (.t 14) (.c (.int .i64 0)), none⟩, .L),
        (⟨(some 16), .load (some 32) (.t 15), none⟩, .R [] []),
        (⟨(some 17), .mov (.t 4), none⟩, .L),
        (⟨(some 18), .mov (.t 4), none⟩, .L),
        (⟨(some 19), .len false (.t 18), none⟩, .L),
        (⟨(some 20), .bin .sub .no (.t 19) (.c (.int .i64 1)), none⟩, .L),
        (⟨(some 21), .idxAddrS 32 (.t 17) (.t 20), none⟩, .L),
        (⟨(some 22), .load (some 32) (.t 21), none⟩, .R [] []),
        (⟨(some 23), .build [(.int .u8 0), (.int .u8 0), (.int .u8 0), (.int .u8 0), (.int .u8 0), (.int .u8 0), (.int .u8 0), (.int .u8 0), (.int .u8 0), (.int .u8 0), (.int .u8 0), (.int .u8 0), (.int .u8 0), (.int .u8 0), (.int .u8 0), (.int .u8 0), (.int .u8 0), (.int .u8 0), (.int .u8 0), (.int .u8 0), (.int .u8 0), (.int .u8 0), (.int .u8 0), (.int .u8 0), (.int .u8 0), (.int .u8 0), (.int .u8 0), (.int .u8 0), (.int .u8 0), (.int .u8 0), (.int .u8 0), (.int .u8 0), (.int .u8 0), (.int .u8 0), (.int .u8 0), (.int .u8 0), (.int .u8 0), (.int .u8 0), (.int .u8 0), (.int .u8 0), (.int .u8 0), (.int .u8 0), (.int .u8 0), (.int .u8 0), (.int .u8 0), (.int .u8 0), (.int .u8 0), (.int .u8 0), (.int .u8 0), (.int .u8 0), (.int .u8 0), (.int .u8 0), (.int .u8 0), (.int .u8 0), (.int .u8 0), (.int .u8 0), (.int .u8 0), (.int .u8 0), (.int .u8 0), (.int .u8 0), (.int .u8 0), (.int .u8 0), (.int .u8 0), (.int .u8 0)] [(0, 32, (.t 16)), (32, 32, (.t 22))], none⟩, .L),
        (⟨(some 24), .buildS [(.int .u8 0), (.int .u8 0), (.int .u8 0), (.int .u8 0), (.int .u8 0), (.int .u8 0), (.int .u8 0), (.int .u8 0), (.int .u8 0), (.int .u8 0), (.int .u8 0), (.int .u8 0), (.int .u8 0), (.int .u8 0), (.int .u8 0), (.int .u8 0), (.int .u8 0), (.int .u8 0), (.int .u8 0), (.int .u8 0), (.int .u8 0), (.int .u8 0), (.int .u8 0), (.int .u8 0), (.int .u8 0), (.int .u8 0), (.int .u8 0), (.int .u8 0), (.int .u8 0), (.int .u8 0), (.int .u8 0), (.int .u8 0), (.int .u8 0), (.int .u8 0), (.int .u8 0), (.int .u8 0), (.int .u8 0), (.int .u8 0), (.int .u8 0), (.int .u8 0), (.int .u8 0), (.int .u8 0), (.int .u8 0), (.int .u8 0), (.int .u8 0), (.int .u8 0), (.int .u8 0), (.int .u8 0), (.int .u8 0), (.int .u8 0), (.int .u8 0), (.int .u8 0), (.int .u8 0), (.int .u8 0), (.int .u8 0), (.int .u8 0), (.int .u8 0), (.int .u8 0), (.int .u8 0), (.int .u8 0), (.int .u8 0), (.int .u8 0), (.int .u8 0), (.int .u8 0)] 1 64 [(0, 64, (.t 23))], none⟩, .Al 0),
        (⟨(some 25), .append 64 64 (.t 13) (.t 24), none⟩, .B [0]),
        (⟨none, .store 1 (.t 3) (.t 25), none⟩, .B [])])) st := _root_.id rfl
def R_merkle_pairs_0 : C := .seq (.ops [⟨(some 26), .load none (.t 3), none⟩,
     ⟨(some 2), .mov (.t 26), none⟩])
  (.ret)
/-- purser/merkle.pairs -/
def f_merkle_pairs : Fn := ⟨27, [.tmp 2],
  .seq (.ops [⟨(some 2), .mov (.c (.slice none 0 (some 0) 0)), none⟩])
  (.seq (.ops [⟨(some 5), .mov (.t 0), none⟩,
     ⟨(some 6), .len false (.t 5), none⟩,
     ⟨(some 7), .bin .quo .no (.t 6) (.c (.int .i64 2)), none⟩,
     ⟨(some 8), .bin .add .no (.t 7) (.c (.int .i64 1)), none⟩,
     ⟨(some 9), .mkslice [(.int .u8 0), (.int .u8 0), (.int .u8 0), (.int .u8 0), (.int .u8 0), (.int .u8 0), (.int .u8 0), (.int .u8 0), (.int .u8 0), (.int .u8 0), (.int .u8 0), (.int .u8 0), (.int .u8 0), (.int .u8 0), (.int .u8 0), (.int .u8 0), (.int .u8 0), (.int .u8 0), (.int .u8 0), (.int .u8 0), (.int .u8 0), (.int .u8 0), (.int .u8 0), (.int .u8 0), (.int .u8 0), (.int .u8 0), (.int .u8 0), (.int .u8 0), (.int .u8 0), (.int .u8 0), (.int .u8 0), (.int .u8 0), (.int .u8 0), (.int .u8 0), (.int .u8 0), (.int .u8 0), (.int .u8 0), (.int .u8 0), (.int .u8 0), (.int .u8 0), (.int .u8 0), (.int .u8 0), (.int .u8 0), (.int .u8 0), (.int .u8 0), (.int .u8 0), (.int .u8 0), (.int .u8 0), (.int .u8 0), (.int .u8 0), (.int .u8 0), (.int .u8 0), (.int .u8 0), (.int .u8 0), (.int .u8 0), (.int .u8 0), (.int .u8 0), (.int .u8 0), (.int .u8 0), (.int .u8 0), (.int .u8 0), (.int .u8 0), (.int .u8 0), (.int .u8 0)] 64 (.c (.int .i64 0)) (.t 8), none⟩,
     ⟨(some 3), .alloc [(.slice none 0 (some 0) 0)], none⟩,
     ⟨none, .store 1 (.t 3) (.t 9), none⟩])
  (.seq (.seq (.ops [⟨(some 10), .mov (.t 0), none⟩,
      ⟨(some 11), .call k_slices_Chunk_api_Hash_api_Hash [(.t 10), (.c (.int .i64 2))], none⟩])
   (.block 0 (.rangeF (.t 11) [12] (A_merkle_pairs_0)
    (B_merkle_pairs_0))))
  (R_merkle_pairs_0)))⟩
def L_merkle_above_0 : C := .seq (.ops [⟨(some 12), .bin .lss .no (.t 11) (.t 10), none⟩])
     (.seq (.cond (.t 12)
       (.skip)
       (.exit 0))
     (.seq (.block 1 (.seq (.ops [⟨(some 13), .idxAddrS 64 (.t 9) (.t 11), none⟩,
          ⟨(some 14), .load (some 64) (.t 13), none⟩,
          ⟨(some 5), .alloc [(.int .u8 0), (.int .u8 0), (.int .u8 0), (.int .u8 0), (.int .u8 0), (.int .u8 0), (.int .u8 0), (.int .u8 0), (.int .u8 0), (.int .u8 0), (.int .u8 0), (.int .u8 0), (.int .u8 0), (.int .u8 0), (.int .u8 0), (.int .u8 0), (.int .u8 0), (.int .u8 0), (.int .u8 0), (.int .u8 0), (.int .u8 0), (.int .u8 0), (.int .u8 0), (.int .u8 0), (.int .u8 0), (.int .u8 0), (.int .u8 0), (.int .u8 0), (.int .u8 0), (.int .u8 0), (.int .u8 0), (.int .u8 0), (.int .u8 0), (.int .u8 0), (.int .u8 0), (.int .u8 0), (.int .u8 0), (.int .u8 0), (.int .u8 0), (.int .u8 0), (.int .u8 0), (.int .u8 0), (.int .u8 0), (.int .u8 0), (.int .u8 0), (.int .u8 0), (.int .u8 0), (.int .u8 0), (.int .u8 0), (.int .u8 0), (.int .u8 0), (.int .u8 0), (.int .u8 0), (.int .u8 0), (.int .u8 0), (.int .u8 0), (.int .u8 0), (.int .u8 0), (.int .u8 0), (.int .u8 0), (.int .u8 0), (.int .u8 0), (.int .u8 0), (.int .u8 0)], none⟩,
          ⟨none, .store 64 (.t 5) (.t 14), none⟩])
       (.ops [⟨(some 15), .mov (.t 3), none⟩,
         ⟨(some 16), .load (some 64) (.t 5), none⟩,
         ⟨(some 17), .call k_merkle_pair_above [(.t 16)], none⟩,
         ⟨(some 18), .buildS [(.int .u8 0), (.int .u8 0), (.int .u8 0), (.int .u8 0), (.int .u8 0), (.int .u8 0), (.int .u8 0), (.int .u8 0), (.int .u8 0), (.int .u8 0), (.int .u8 0), (.int .u8 0), (.int .u8 0), (.int .u8 0), (.int .u8 0), (.int .u8 0), (.int .u8 0), (.int .u8 0), (.int .u8 0), (.int .u8 0), (.int .u8 0), (.int .u8 0), (.int .u8 0), (.int .u8 0), (.int .u8 0), (.int .u8 0), (.int .u8 0), (.int .u8 0), (.int .u8 0), (.int .u8 0), (.int .u8 0), (.int .u8 0)] 1 32 [(0, 32, (.t 17))], none⟩,
         ⟨(some 19), .append 32 32 (.t 15) (.t 18), none⟩,
         ⟨(some 3), .mov (.t 19), none⟩])))
     (.ops [⟨(some 20), .bin .add .no (.t 11) (.c (.int .i64 1)), none⟩,
       ⟨(some 11), .mov (.t 20), none⟩])))
def R_merkle_above_0 : C := .seq (.ops [⟨(some 21), .mov (.t 3), none⟩,
     ⟨(some 2), .mov (.t 21), none⟩])
  (.ret)
/-- purser/merkle.above -/
def f_merkle_above : Fn := ⟨22, [.tmp 2],
  .seq (.ops [⟨(some 2), .mov (.c (.slice none 0 (some 0) 0)), none⟩])
  (.seq (.ops [⟨(some 6), .mov (.t 0), none⟩,
     ⟨(some 7), .len false (.t 6), none⟩,
     ⟨(some 8), .mkslice [(.int .u8 0), (.int .u8 0), (.int .u8 0), (.int .u8 0), (.int .u8 0), (.int .u8 0), (.int .u8 0), (.int .u8 0), (.int .u8 0), (.int .u8 0), (.int .u8 0), (.int .u8 0), (.int .u8 0), (.int .u8 0), (.int .u8 0), (.int .u8 0), (.int .u8 0), (.int .u8 0), (.int .u8 0), (.int .u8 0), (.int .u8 0), (.int .u8 0), (.int .u8 0), (.int .u8 0), (.int .u8 0), (.int .u8 0), (.int .u8 0), (.int .u8 0), (.int .u8 0), (.int .u8 0), (.int .u8 0), (.int .u8 0)] 32 (.c (.int .i64 0)) (.t 7), none⟩,
     ⟨(some 3), .mov (.t 8), none⟩])
  (.seq (.seq (.ops [⟨(some 9), .mov (.t 0), none⟩,
      ⟨(some 10), .len false (.t 9), none⟩,
      ⟨(some 11), .mov (.c (.int .i64 0)), none⟩])
   (.block 0 (.loop (L_merkle_above_0))))
  (R_merkle_above_0)))⟩
/-- slices.Grow[[]byte,byte] -/
def f_slices_Grow_byte_byte : Fn := ⟨27, [.tmp 4],
  .seq (.ops [⟨(some 4), .mov (.c (.slice none 0 (some 0) 0)), none⟩])
  (.seq (.seq (.ops [⟨(some 5), .mov (.t 1), none⟩,
      ⟨(some 6), .bin .lss .no (.t 5) (.c (.int .i64 0)), none⟩])
   (.cond (.t 6)
    (.ops [⟨(some 7), .bad "", none⟩,
       ⟨none, .bad "", none⟩])
    (.skip)))
  (.seq (.seq (.ops [⟨(some 8), .mov (.t 1), none⟩,
      ⟨(some 9), .mov (.t 0), none⟩,
      ⟨(some 10), .cap (.t 9), none⟩,
      ⟨(some 11), .mov (.t 0), none⟩,
      ⟨(some 12), .len false (.t 11), none⟩,
      ⟨(some 13), .bin .sub .no (.t 10) (.t 12), none⟩,
      ⟨(some 14), .bin .sub .no (.t 8) (.t 13), none⟩,
      ⟨(some 1), .mov (.t 14), none⟩])
   (.seq (.ops [⟨(some 15), .mov (.t 1), none⟩,
      ⟨(some 16), .bin .gtr .no (.t 15) (.c (.int .i64 0)), none⟩])
   (.cond (.t 16)
    (.ops [⟨(some 17), .mov (.t 0), none⟩,
       ⟨(some 18), .mov (.t 0), none⟩,
       ⟨(some 19), .cap (.t 18), none⟩,
       ⟨(some 20), .slcS 1 (.t 17) none (some (.t 19)) none, none⟩,
       ⟨(some 21), .mov (.t 1), none⟩,
       ⟨(some 22), .appendZ [(.int .u8 0)] 1 (.t 20) (.t 21), none⟩,
       ⟨(some 23), .mov (.t 0), none⟩,
       ⟨(some 24), .len false (.t 23), none⟩,
       ⟨(some 25), .slcS 1 (.t 22) none (some (.t 24)) none, none⟩,
       ⟨(some 0), .mov (.t 25), none⟩])
    (.skip))))
  (.seq (.ops [⟨(some 26), .mov (.t 0), none⟩,
     ⟨(some 4), .mov (.t 26), none⟩])
  (.ret))))⟩
/-- purser/sha.New -/
def f_sha_New : Fn := ⟨4, [.tmp 0],
  .seq (.ops [⟨(some 0), .mov (.c (.ptr none)), none⟩])
  (.seq (.ops [⟨(some 1), .call k_sha_squareTable [], none⟩,
     ⟨(some 2), .build [(.int .u32 0), (.int .u32 0), (.int .u32 0), (.int .u32 0), (.int .u32 0), (.int .u32 0), (.int .u32 0), (.int .u32 0), (.int .u8 0), (.int .u8 0), (.int .u8 0), (.int .u8 0), (.int .u8 0), (.int .u8 0), (.int .u8 0), (.int .u8 0), (.int .u8 0), (.int .u8 0), (.int .u8 0), (.int .u8 0), (.int .u8 0), (.int .u8 0), (.int .u8 0), (.int .u8 0), (.int .u8 0), (.int .u8 0), (.int .u8 0), (.int .u8 0), (.int .u8 0), (.int .u8 0), (.int .u8 0), (.int .u8 0), (.int .u8 0), (.int .u8 0), (.int .u8 0), (.int .u8 0), (.int .u8 0), (.int .u8 0), (.int .u8 0), (.int .u8 0), (.int .u8 0), (.int .u8 0), (.int .u8 0), (.int .u8 0), (.int .u8 0), (.int .u8 0), (.int .u8 0), (.int .u8 0), (.int .u8 0), (.int .u8 0), (.int .u8 0), (.int .u8 0), (.int .u8 0), (.int .u8 0), (.int .u8 0), (.int .u8 0), (.int .u8 0), (.int .u8 0), (.int .u8 0), (.int .u8 0), (.int .u8 0), (.int .u8 0), (.int .u8 0), (.int .u8 0), (.int .u8 0), (.int .u8 0), (.int .u8 0), (.int .u8 0), (.int .u8 0), (.int .u8 0), (.int .u8 0), (.int .u8 0), (.int .u64 0), (.bool false)] [(0, 8, (.t 1)), (73, 1, (.c (.bool true)))], none⟩,
     ⟨(some 3), .box (.t 2), none⟩,
     ⟨(some 0), .mov (.t 3), none⟩])
  (.ret))⟩
def A_sha_Sum_Write_0 : C := .ops [⟨(some 5), .mov (.t 12), none⟩]
theorem u_A_sha_Sum_Write_0 (Q : Orc) (N n : Nat) (r : Option Nat) (st : St) : evC Q N n r A_sha_Sum_Write_0 st = evC Q N n r (.ops [⟨(some 5), .mov (.t 12), none⟩]) st := _root_.id rfl
def B_sha_Sum_Write_0 : C := .block 1 (.seq (.seq (.ops [⟨(some 13), .mov (.t 5), none⟩,
           ⟨(some 14), .un .not (.t 13), none⟩])
        (.cond (.t 14)
         (.exit 1)
         (.skip)))
       (.ops [⟨(some 15), .load none (.t 2), none⟩,
         ⟨(some 16), .call k_sha_Sum_mix [(.t 15)], none⟩]))
theorem u_B_sha_Sum_Write_0 (Q : Orc) (N n : Nat) (r : Option Nat) (st : St) : evC Q N n r B_sha_Sum_Write_0 st = evC Q N n r (.block 1 (.seq (.seq (.ops [⟨(some 13), .mov (.t 5), none⟩,
           ⟨(some 14), .un .not (.t 13), none⟩])
        (.cond (.t 14)
         (.exit 1)
         (.skip)))
       (.ops [⟨(some 15), .load none (.t 2), none⟩,
         ⟨(some 16), .call k_sha_Sum_mix [(.t 15)], none⟩]))) st := _root_.id rfl
def R_sha_Sum_Write_0 : C := .seq (.ops [⟨(some 17), .load none (.t 2), none⟩,
      ⟨(some 4), .mov (.t 17), none⟩])
   (.ret)
/-- (*purser/sha.Sum).Write -/
def f_sha_Sum_Write : Fn := ⟨18, [.tmp 4],
  .seq (.ops [⟨(some 2), .box (.t 0), none⟩,
     ⟨(some 4), .mov (.c (.ptr none)), none⟩])
  (.scope (.seq (.seq (.ops [⟨(some 6), .load none (.t 2), none⟩,
       ⟨(some 7), .call k_sha_Sum_sums [(.t 6)], none⟩,
       ⟨(some 8), .un .not (.t 7), none⟩])
    (.cond (.t 8)
     (.seq (.ops [⟨(some 4), .mov (.c (.ptr none)), none⟩])
      (.ret))
     (.skip)))
   (.seq (.skip)
   (.seq (.seq (.ops [⟨(some 9), .load none (.t 2), none⟩,
       ⟨(some 10), .mov (.t 1), none⟩,
       ⟨(some 11), .call k_sha_Sum_fill [(.t 9), (.t 10)], none⟩])
    (.block 0 (.rangeF (.t 11) [12] (A_sha_Sum_Write_0)
     (B_sha_Sum_Write_0))))
   (R_sha_Sum_Write_0)))))⟩
def L_sha_Sum_End_0 : C := .seq (.ops [⟨(some 23), .bin .lss .no (.t 22) (.c (.int .i64 8)), none⟩])
     (.seq (.cond (.t 23)
       (.skip)
       (.exit 0))
     (.seq (.block 1 (.seq (.ops [⟨(some 24), .mov (.t 22), none⟩,
          ⟨(some 25), .idxArr 8 1 false (.t 21) (.t 22), none⟩,
          ⟨(some 5), .mov (.t 24), none⟩,
          ⟨(some 6), .mov (.t 25), none⟩])
       (.ops [⟨(some 26), .mov (.t 5), none⟩,
         ⟨(some 27), .bin .mul .no (.c (.int .i64 4)) (.t 26), none⟩,
         ⟨(some 28), .slcA 32 1 (.t 4) (some (.t 27)) none none, none⟩,
         ⟨(some 29), .mov (.t 6), none⟩,
         ⟨(some 30), .bin .shr .no (.t 29) (.c (.int .u64 24)), none⟩,
         ⟨(some 31), .conv .u8 (.t 30), none⟩,
         ⟨(some 32), .mov (.t 6), none⟩,
         ⟨(some 33), .bin .shr .no (.t 32) (.c (.int .u64 16)), none⟩,
         ⟨(some 34), .conv .u8 (.t 33), none⟩,
         ⟨(some 35), .mov (.t 6), none⟩,
         ⟨(some 36), .bin .shr .no (.t 35) (.c (.int .u64 8)), none⟩,
         ⟨(some 37), .conv .u8 (.t 36), none⟩,
         ⟨(some 38), .mov (.t 6), none⟩,
         ⟨(some 39), .conv .u8 (.t 38), none⟩,
         ⟨(some 40), .buildS [(.int .u8 0), (.int .u8 0), (.int .u8 0), (.int .u8 0)] 4 1 [(0, 1, (.t 31)), (1, 1, (.t 34)), (2, 1, (.t 37)), (3, 1, (.t 39))], none⟩,
         ⟨(some 41), .copy 1 (.t 28) (.t 40), none⟩])))
     (.ops [⟨(some 42), .bin .add .no (.t 22) (.c (.int .i64 1)), none⟩,
       ⟨(some 22), .mov (.t 42), none⟩])))
def R_sha_Sum_End_0 : C := .seq (.ops [⟨(some 43), .load (some 32) (.t 4), none⟩,
     ⟨none, .store 32 (.t 2) (.t 43), none⟩])
  (.ret)
/-- (*purser/sha.Sum).End -/
def f_sha_Sum_End : Fn := ⟨44, [.cell 2 (some 32)],
  .seq (.ops [⟨(some 2), .alloc [(.int .u8 0), (.int .u8 0), (.int .u8 0), (.int .u8 0), (.int .u8 0), (.int .u8 0), (.int .u8 0), (.int .u8 0), (.int .u8 0), (.int .u8 0), (.int .u8 0), (.int .u8 0), (.int .u8 0), (.int .u8 0), (.int .u8 0), (.int .u8 0), (.int .u8 0), (.int .u8 0), (.int .u8 0), (.int .u8 0), (.int .u8 0), (.int .u8 0), (.int .u8 0), (.int .u8 0), (.int .u8 0), (.int .u8 0), (.int .u8 0), (.int .u8 0), (.int .u8 0), (.int .u8 0), (.int .u8 0), (.int .u8 0)], none⟩])
  (.seq (.seq (.ops [⟨(some 7), .mov (.t 0), none⟩,
      ⟨(some 8), .call k_sha_Sum_sums [(.t 7)], none⟩,
      ⟨(some 9), .un .not (.t 8), none⟩])
   (.cond (.t 9)
    (.seq (.ops [⟨(some 10), .build [(.int .u8 0), (.int .u8 0), (.int .u8 0), (.int .u8 0), (.int .u8 0), (.int .u8 0), (.int .u8 0), (.int .u8 0), (.int .u8 0), (.int .u8 0), (.int .u8 0), (.int .u8 0), (.int .u8 0), (.int .u8 0), (.int .u8 0), (.int .u8 0), (.int .u8 0), (.int .u8 0), (.int .u8 0), (.int .u8 0), (.int .u8 0), (.int .u8 0), (.int .u8 0), (.int .u8 0), (.int .u8 0), (.int .u8 0), (.int .u8 0), (.int .u8 0), (.int .u8 0), (.int .u8 0), (.int .u8 0), (.int .u8 0)] [], none⟩,
        ⟨none, .store 32 (.t 2) (.t 10), none⟩])
     (.ret))
    (.skip)))
  (.seq (.ops [⟨(some 11), .mov (.t 0), none⟩,
     ⟨(some 12), .nilchk (.t 11), none⟩,
     ⟨(some 13), .load (some 74) (.t 12), none⟩,
     ⟨(some 3), .alloc [(.int .u32 0), (.int .u32 0), (.int .u32 0), (.int .u32 0), (.int .u32 0), (.int .u32 0), (.int .u32 0), (.int .u32 0), (.int .u8 0), (.int .u8 0), (.int .u8 0), (.int .u8 0), (.int .u8 0), (.int .u8 0), (.int .u8 0), (.int .u8 0), (.int .u8 0), (.int .u8 0), (.int .u8 0), (.int .u8 0), (.int .u8 0), (.int .u8 0), (.int .u8 0), (.int .u8 0), (.int .u8 0), (.int .u8 0), (.int .u8 0), (.int .u8 0), (.int .u8 0), (.int .u8 0), (.int .u8 0), (.int .u8 0), (.int .u8 0), (.int .u8 0), (.int .u8 0), (.int .u8 0), (.int .u8 0), (.int .u8 0), (.int .u8 0), (.int .u8 0), (.int .u8 0), (.int .u8 0), (.int .u8 0), (.int .u8 0), (.int .u8 0), (.int .u8 0), (.int .u8 0), (.int .u8 0), (.int .u8 0), (.int .u8 0), (.int .u8 0), (.int .u8 0), (.int .u8 0), (.int .u8 0), (.int .u8 0), (.int .u8 0), (.int .u8 0), (.int .u8 0), (.int .u8 0), (.int .u8 0), (.int .u8 0), (.int .u8 0), (.int .u8 0), (.int .u8 0), (.int .u8 0), (.int .u8 0), (.int .u8 0), (.int .u8 0), (.int .u8 0), (.int .u8 0), (.int .u8 0), (.int .u8 0), (.int .u64 0), (.bool false)], none⟩,
     ⟨none, .store 74 (.t 3) (.t 13), none⟩])
  (.seq (.ops [⟨(some 14), .mov (.t 0), none⟩,
     ⟨(some 15), .nilchk (.t 14), none⟩,
     ⟨(some 16), .fieldAddr 72 (.t 15), none⟩,
     ⟨(some 17), .load none (.t 16), none⟩,
     ⟨(some 18), .call k_sha_padding [(.t 17)], none⟩,
     ⟨(some 19), .call k_sha_Sum_Write [(.t 3), (.t 18)], none⟩])
  (.seq (.ops [⟨(some 4), .alloc [(.int .u8 0), (.int .u8 0), (.int .u8 0), (.int .u8 0), (.int .u8 0), (.int .u8 0), (.int .u8 0), (.int .u8 0), (.int .u8 0), (.int .u8 0), (.int .u8 0), (.int .u8 0), (.int .u8 0), (.int .u8 0), (.int .u8 0), (.int .u8 0), (.int .u8 0), (.int .u8 0), (.int .u8 0), (.int .u8 0), (.int .u8 0), (.int .u8 0), (.int .u8 0), (.int .u8 0), (.int .u8 0), (.int .u8 0), (.int .u8 0), (.int .u8 0), (.int .u8 0), (.int .u8 0), (.int .u8 0), (.int .u8 0)], none⟩])
  (.seq (.seq (.ops [⟨(some 20), .fieldAddr 0 (.t 3), none⟩,
      ⟨(some 21), .load (some 8) (.t 20), none⟩,
      ⟨(some 22), .mov (.c (.int .i64 0)), none⟩])
   (.block 0 (.loop (L_sha_Sum_End_0))))
  (R_sha_Sum_End_0))))))⟩
/-- slices.Chunk[[]purser/api.Hash,purser/api.Hash] -/
def f_slices_Chunk_api_Hash_api_Hash : Fn := ⟨9, [.tmp 4],
  .seq (.ops [⟨(some 2), .box (.t 0), none⟩,
     ⟨(some 3), .box (.t 1), none⟩,
     ⟨(some 4), .mov (.c .nilFn), none⟩])
  (.seq (.seq (.ops [⟨(some 5), .load none (.t 3), none⟩,
      ⟨(some 6), .bin .lss .no (.t 5) (.c (.int .i64 1)), none⟩])
   (.cond (.t 6)
    (.ops [⟨(some 7), .bad "", none⟩,
       ⟨none, .bad "", none⟩])
    (.skip)))
  (.seq (.ops [⟨(some 8), .mkfn k_slices_Chunk_api_Hash_api_Hash_1 [] [(.t 2), (.t 3)], none⟩,
     ⟨(some 4), .mov (.t 8), none⟩])
  (.ret)))⟩
/-- purser/sha.squareTable -/
def f_sha_squareTable : Fn := ⟨2, [.cell 0 (some 8)],
  .seq (.ops [⟨(some 0), .alloc [(.int .u32 0), (.int .u32 0), (.int .u32 0), (.int .u32 0), (.int .u32 0), (.int .u32 0), (.int .u32 0), (.int .u32 0)], none⟩])
  (.seq (.ops [⟨(some 1), .build [(.int .u32 0), (.int .u32 0), (.int .u32 0), (.int .u32 0), (.int .u32 0), (.int .u32 0), (.int .u32 0), (.int .u32 0)] [(0, 1, (.c (.int .u32 1779033703))), (1, 1, (.c (.int .u32 3144134277))), (2, 1, (.c (.int .u32 1013904242))), (3, 1, (.c (.int .u32 2773480762))), (4, 1, (.c (.int .u32 1359893119))), (5, 1, (.c (.int .u32 2600822924))), (6, 1, (.c (.int .u32 528734635))), (7, 1, (.c (.int .u32 1541459225)))], none⟩,
     ⟨none, .store 8 (.t 0) (.t 1), none⟩])
  (.ret))⟩
/-- (*purser/sha.Sum).sums -/
def f_sha_Sum_sums : Fn := ⟨11, [.tmp 2],
  .seq (.ops [⟨(some 2), .mov (.c (.bool false)), none⟩])
  (.seq (.ops [⟨(some 3), .mov (.t 0), none⟩,
     ⟨(some 4), .bin .neq (.ref .p) (.t 3) (.c (.ptr none)), none⟩,
     ⟨(some 5), .mov (.t 4), none⟩,
     ⟨(some 6), .mov (.t 0), (some (5, true))⟩,
     ⟨(some 7), .nilchk (.t 6), (some (5, true))⟩,
     ⟨(some 8), .fieldAddr 73 (.t 7), (some (5, true))⟩,
     ⟨(some 9), .load none (.t 8), (some (5, true))⟩,
     ⟨(some 10), .pick (.t 5) (.t 9) (.c (.bool false)), none⟩,
     ⟨(some 2), .mov (.t 10), none⟩])
  (.ret))⟩
/-- (*purser/sha.Sum).fill -/
def f_sha_Sum_fill : Fn := ⟨6, [.tmp 4],
  .seq (.ops [⟨(some 2), .box (.t 0), none⟩,
     ⟨(some 3), .box (.t 1), none⟩,
     ⟨(some 4), .mov (.c .nilFn), none⟩])
  (.seq (.ops [⟨(some 5), .mkfn k_sha_Sum_fill_1 [] [(.t 3), (.t 2)], none⟩,
     ⟨(some 4), .mov (.t 5), none⟩])
  (.ret))⟩
def L_sha_Sum_mix_0 : C := .seq (.ops [⟨(some 63), .bin .lss .no (.t 62) (.c (.int .i64 64)), none⟩])
     (.seq (.cond (.t 63)
       (.skip)
       (.exit 0))
     (.seq (.block 1 (.seq (.ops [⟨(some 64), .mov (.t 62), none⟩,
          ⟨(some 12), .mov (.t 64), none⟩])
       (.seq (.ops [⟨(some 65), .mov (.t 8), none⟩,
          ⟨(some 66), .mov (.t 9), none⟩,
          ⟨(some 67), .bin .and .no (.t 65) (.t 66), none⟩,
          ⟨(some 68), .mov (.t 8), none⟩,
          ⟨(some 69), .un .xor (.t 68), none⟩,
          ⟨(some 70), .mov (.t 10), none⟩,
          ⟨(some 71), .bin .and .no (.t 69) (.t 70), none⟩,
          ⟨(some 72), .bin .xor .no (.t 67) (.t 71), none⟩,
          ⟨(some 13), .mov (.t 72), none⟩])
       (.seq (.ops [⟨(some 73), .mov (.t 4), none⟩,
          ⟨(some 74), .mov (.t 5), none⟩,
          ⟨(some 75), .bin .and .no (.t 73) (.t 74), none⟩,
          ⟨(some 76), .mov (.t 4), none⟩,
          ⟨(some 77), .mov (.t 6), none⟩,
          ⟨(some 78), .bin .and .no (.t 76) (.t 77), none⟩,
          ⟨(some 79), .bin .xor .no (.t 75) (.t 78), none⟩,
          ⟨(some 80), .mov (.t 5), none⟩,
          ⟨(some 81), .mov (.t 6), none⟩,
          ⟨(some 82), .bin .and .no (.t 80) (.t 81), none⟩,
          ⟨(some 83), .bin .xor .no (.t 79) (.t 82), none⟩,
          ⟨(some 14), .mov (.t 83), none⟩])
       (.seq (.dops 0 [] [(⟨(some 84), .mov (.t 11), none⟩, .L),
          (⟨(some 85), .mov (.t 8), none⟩, .L),
          (⟨(some 86), .call k_sha_turned [(.t 85), (.c (.int .i64 6)), (.c (.int .i64 11)), (.c (.int .i64 25))], none⟩, .B []),
          (⟨(some 87), .bin .add .no (.t 84) (.t 86), none⟩, .L),
          (⟨(some 88), .mov (.t 13), none⟩, .L),
          (⟨(some 89), .bin .add .no (.t 87) (.t 88), none⟩, .L),
          (⟨(some 90), .mov (.t 12), none⟩, .L),
          (⟨(some 91), .idxAddrA 64 1 (.t 2) (.t 90), none⟩, .L),
          (⟨(some 92), .load none (.t 91), none⟩, .R [] [(1, [])]),
          (⟨(some 93), .bin .add .no (.t 89) (.t 92), none⟩, .L),
          (⟨(some 94), .mov (.t 12), none⟩, .L),
          (⟨(some 95), .idxAddrA 64 1 (.t 3) (.t 94), none⟩, .L),
          (⟨(some 96), .load none (.t 95), none⟩, .R [] [(1, [])]),
          (⟨(some 97), .bin .add .no (.t 93) (.t 96), none⟩, .L),
          (⟨(some 15), .mov (.t 97), none⟩, .L)])
       (.seq (.ops [⟨(some 98), .mov (.t 4), none⟩,
          ⟨(some 99), .call k_sha_turned [(.t 98), (.c (.int .i64 2)), (.c (.int .i64 13)), (.c (.int .i64 22))], none⟩,
          ⟨(some 100), .mov (.t 14), none⟩,
          ⟨(some 101), .bin .add .no (.t 99) (.t 100), none⟩,
          ⟨(some 16), .mov (.t 101), none⟩])
       (.ops [⟨(some 102), .mov (.t 15), none⟩,
         ⟨(some 103), .mov (.t 16), none⟩,
         ⟨(some 104), .bin .add .no (.t 102) (.t 103), none⟩,
         ⟨(some 105), .mov (.t 4), none⟩,
         ⟨(some 106), .mov (.t 5), none⟩,
         ⟨(some 107), .mov (.t 6), none⟩,
         ⟨(some 108), .mov (.t 7), none⟩,
         ⟨(some 109), .mov (.t 15), none⟩,
         ⟨(some 110), .bin .add .no (.t 108) (.t 109), none⟩,
         ⟨(some 111), .mov (.t 8), none⟩,
         ⟨(some 112), .mov (.t 9), none⟩,
         ⟨(some 113), .mov (.t 10), none⟩,
         ⟨(some 4), .mov (.t 104), none⟩,
         ⟨(some 5), .mov (.t 105), none⟩,
         ⟨(some 6), .mov (.t 106), none⟩,
         ⟨(some 7), .mov (.t 107), none⟩,
         ⟨(some 8), .mov (.t 110), none⟩,
         ⟨(some 9), .mov (.t 111), none⟩,
         ⟨(some 10), .mov (.t 112), none⟩,
         ⟨(some 11), .mov (.t 113), none⟩])))))))
     (.ops [⟨(some 114), .bin .add .no (.t 62) (.c (.int .i64 1)), none⟩,
       ⟨(some 62), .mov (.t 114), none⟩])))
def L_sha_Sum_mix_1 : C := .seq (.ops [⟨(some 125), .bin .lss .no (.t 124) (.c (.int .i64 8)), none⟩])
    (.seq (.cond (.t 125)
      (.skip)
      (.exit 2))
    (.seq (.block 3 (.seq (.ops [⟨(some 126), .mov (.t 124), none⟩,
         ⟨(some 127), .idxArr 8 1 false (.t 123) (.t 124), none⟩,
         ⟨(some 17), .mov (.t 126), none⟩,
         ⟨(some 18), .mov (.t 127), none⟩])
      (.dops 0 [] [(⟨(some 128), .mov (.t 0), none⟩, .L),
        (⟨(some 129), .mov (.t 17), none⟩, .L),
        (⟨(some 130), .nilchk (.t 128), none⟩, .L),
        (⟨(some 131), .fieldAddr 0 (.t 130), none⟩, .L),
        (⟨(some 132), .idxAddrA 8 1 (.t 131) (.t 129), none⟩, .L),
        (⟨(some 133), .load none (.t 132), none⟩, .R [] []),
        (⟨(some 134), .mov (.t 18), none⟩, .L),
        (⟨(some 135), .bin .add .no (.t 133) (.t 134), none⟩, .L),
        (⟨(some 136), .nilchk (.t 128), none⟩, .L),
        (⟨(some 137), .fieldAddr 0 (.t 136), none⟩, .L),
        (⟨(some 138), .idxAddrA 8 1 (.t 137) (.t 129), none⟩, .L),
        (⟨none, .store 1 (.t 138) (.t 135), none⟩, .B [])])))
    (.ops [⟨(some 139), .bin .add .no (.t 124) (.c (.int .i64 1)), none⟩,
      ⟨(some 124), .mov (.t 139), none⟩])))
def R_sha_Sum_mix_0 : C := .seq (.ops [⟨(some 115), .mov (.t 4), none⟩,
     ⟨(some 116), .mov (.t 5), none⟩,
     ⟨(some 117), .mov (.t 6), none⟩,
     ⟨(some 118), .mov (.t 7), none⟩,
     ⟨(some 119), .mov (.t 8), none⟩,
     ⟨(some 120), .mov (.t 9), none⟩,
     ⟨(some 121), .mov (.t 10), none⟩,
     ⟨(some 122), .mov (.t 11), none⟩,
     ⟨(some 123), .build [(.int .u32 0), (.int .u32 0), (.int .u32 0), (.int .u32 0), (.int .u32 0), (.int .u32 0), (.int .u32 0), (.int .u32 0)] [(0, 1, (.t 115)), (1, 1, (.t 116)), (2, 1, (.t 117)), (3, 1, (.t 118)), (4, 1, (.t 119)), (5, 1, (.t 120)), (6, 1, (.t 121)), (7, 1, (.t 122))], none⟩,
     ⟨(some 124), .mov (.c (.int .i64 0)), none⟩])
  (.block 2 (.loop (L_sha_Sum_mix_1)))
/-- (*purser/sha.Sum).mix -/
def f_sha_Sum_mix : Fn := ⟨140, [],
  .seq (.ops [⟨(some 19), .call k_sha_cubeTable [], none⟩,
     ⟨(some 20), .mov (.t 0), none⟩,
     ⟨(some 21), .call k_sha_Sum_schedule [(.t 20)], none⟩,
     ⟨(some 2), .alloc [(.int .u32 0), (.int .u32 0), (.int .u32 0), (.int .u32 0), (.int .u32 0), (.int .u32 0), (.int .u32 0), (.int .u32 0), (.int .u32 0), (.int .u32 0), (.int .u32 0), (.int .u32 0), (.int .u32 0), (.int .u32 0), (.int .u32 0), (.int .u32 0), (.int .u32 0), (.int .u32 0), (.int .u32 0), (.int .u32 0), (.int .u32 0), (.int .u32 0), (.int .u32 0), (.int .u32 0), (.int .u32 0), (.int .u32 0), (.int .u32 0), (.int .u32 0), (.int .u32 0), (.int .u32 0), (.int .u32 0), (.int .u32 0), (.int .u32 0), (.int .u32 0), (.int .u32 0), (.int .u32 0), (.int .u32 0), (.int .u32 0), (.int .u32 0), (.int .u32 0), (.int .u32 0), (.int .u32 0), (.int .u32 0), (.int .u32 0), (.int .u32 0), (.int .u32 0), (.int .u32 0), (.int .u32 0), (.int .u32 0), (.int .u32 0), (.int .u32 0), (.int .u32 0), (.int .u32 0), (.int .u32 0), (.int .u32 0), (.int .u32 0), (.int .u32 0), (.int .u32 0), (.int .u32 0), (.int .u32 0), (.int .u32 0), (.int .u32 0), (.int .u32 0), (.int .u32 0)], none⟩,
     ⟨(some 3), .alloc [(.int .u32 0), (.int .u32 0), (.int .u32 0), (.int .u32 0), (.int .u32 0), (.int .u32 0), (.int .u32 0), (.int .u32 0), (.int .u32 0), (.int .u32 0), (.int .u32 0), (.int .u32 0), (.int .u32 0), (.int .u32 0), (.int .u32 0), (.int .u32 0), (.int .u32 0), (.int .u32 0), (.int .u32 0), (.int .u32 0), (.int .u32 0), (.int .u32 0), (.int .u32 0), (.int .u32 0), (.int .u32 0), (.int .u32 0), (.int .u32 0), (.int .u32 0), (.int .u32 0), (.int .u32 0), (.int .u32 0), (.int .u32 0), (.int .u32 0), (.int .u32 0), (.int .u32 0), (.int .u32 0), (.int .u32 0), (.int .u32 0), (.int .u32 0), (.int .u32 0), (.int .u32 0), (.int .u32 0), (.int .u32 0), (.int .u32 0), (.int .u32 0), (.int .u32 0), (.int .u32 0), (.int .u32 0), (.int .u32 0), (.int .u32 0), (.int .u32 0), (.int .u32 0), (.int .u32 0), (.int .u32 0), (.int .u32 0), (.int .u32 0), (.int .u32 0), (.int .u32 0), (.int .u32 0), (.int .u32 0), (.int .u32 0), (.int .u32 0), (.int .u32 0), (.int .u32 0)], none⟩,
     ⟨none, .store 64 (.t 2) (.t 19), none⟩,
     ⟨none, .store 64 (.t 3) (.t 21), none⟩])
  (.seq (.dops 0 [] [(⟨(some 22), .mov (.t 0), none⟩, .L),
     (⟨(some 23), .nilchk (.t 22), none⟩, .L),
     (⟨(some 24), .fieldAddr 0 (.t 23), none⟩, .L),
     (⟨(some 25), .idxAddrA 8 1 (.t 24) (.c (.int .i64 0)), none⟩, .L),
     (⟨(some 26), .load none (.t 25), none⟩, .R [] []),
     (⟨(some 27), .mov (.t 0), none⟩, .L),
     (⟨(some 28), .nilchk (.t 27), none⟩, .L),
     (⟨(some 29), .fieldAddr 0 (.t 28), none⟩, .L),
     (⟨(some 30), .idxAddrA 8 1 (.t 29) (.c (.int .i64 1)), none⟩, .L),
     (⟨(some 31), .load none (.t 30), none⟩, .R [] []),
     (⟨(some 32), .mov (.t 0), none⟩, .L),
     (⟨(some 33), .nilchk (.t 32), none⟩, .L),
     (⟨(some 34), .fieldAddr 0 (.t 33), none⟩, .L),
     (⟨(some 35), .idxAddrA 8 1 (.t 34) (.c (.int .i64 2)), none⟩, .L),
     (⟨(some 36), .load none (.t 35), none⟩, .R [] []),
     (⟨(some 37), .mov (.t 0), none⟩, .L),
     (⟨(some 38), .nilchk (.t 37), none⟩, .L),
     (⟨(some 39), .fieldAddr 0 (.t 38), none⟩, .L),
     (⟨(some 40), .idxAddrA 8 1 (.t 39) (.c (.int .i64 3)), none⟩, .L),
     (⟨(some 41), .load none (.t 40), none⟩, .R [] []),
     (⟨(some 42), .mov (.t 0), none⟩, .L),
     (⟨(some 43), .nilchk (.t 42), none⟩, .L),
     (⟨(some 44), .fieldAddr 0 (.t 43), none⟩, .L),
     (⟨(some 45), .idxAddrA 8 1 (.t 44) (.c (.int .i64 4)), none⟩, .L),
     (⟨(some 46), .load none (.t 45), none⟩, .R [] []),
     (⟨(some 47), .mov (.t 0), none⟩, .L),
     (⟨(some 48), .nilchk (.t 47), none⟩, .L),
     (⟨(some 49), .fieldAddr 0 (.t 48), none⟩, .L),
     (⟨(some 50), .idxAddrA 8 1 (.t 49) (.c (.int .i64 5)), none⟩, .L),
     (⟨(some 51), .load none (.t 50), none⟩, .R [] []),
     (⟨(some 52), .mov (.t 0), none⟩, .L),
     (⟨(some 53), .nilchk (.t 52), none⟩, .L),
     (⟨(some 54), .fieldAddr 0 (.t 53), none⟩, .L),
     (⟨(some 55), .idxAddrA 8 1 (.t 54) (.c (.int .i64 6)), none⟩, .L),
     (⟨(some 56), .load none (.t 55), none⟩, .R [] []),
     (⟨(some 57), .mov (.t 0), none⟩, .L),
     (⟨(some 58), .nilchk (.t 57), none⟩, .L),
     (⟨(some 59), .fieldAddr 0 (.t 58), none⟩, .L),
     (⟨(some 60), .idxAddrA 8 1 (.t 59) (.c (.int .i64 7)), none⟩, .L),
     (⟨(some 61), .load none (.t 60), none⟩, .R [] []),
     (⟨(some 4), .mov (.t 26), none⟩, .L),
     (⟨(some 5), .mov (.t 31), none⟩, .L),
     (⟨(some 6), .mov (.t 36), none⟩, .L),
     (⟨(some 7), .mov (.t 41), none⟩, .L),
     (⟨(some 8), .mov (.t 46), none⟩, .L),
     (⟨(some 9), .mov (.t 51), none⟩, .L),
     (⟨(some 10), .mov (.t 56), none⟩, .L),
     (⟨(some 11), .mov (.t 61), none⟩, .L)])
  (.seq (.seq (.ops [⟨(some 62), .mov (.c (.int .i64 0)), none⟩])
   (.block 0 (.loop (L_sha_Sum_mix_0))))
  (R_sha_Sum_mix_0)))⟩
def L_sha_padding_0 : C := .seq (.ops [⟨(some 21), .bin .lss .no (.t 20) (.c (.int .i64 8)), none⟩])
     (.seq (.cond (.t 21)
       (.skip)
       (.exit 0))
     (.seq (.block 1 (.seq (.ops [⟨(some 22), .mov (.t 20), none⟩,
          ⟨(some 6), .mov (.t 22), none⟩])
       (.ops [⟨(some 23), .mov (.t 5), none⟩,
         ⟨(some 24), .mov (.t 4), none⟩,
         ⟨(some 25), .bin .sub .no (.t 24) (.c (.int .i64 1)), none⟩,
         ⟨(some 26), .mov (.t 6), none⟩,
         ⟨(some 27), .bin .sub .no (.t 25) (.t 26), none⟩,
         ⟨(some 28), .mov (.t 0), none⟩,
         ⟨(some 29), .bin .mul .no (.t 28) (.c (.int .u64 8)), none⟩,
         ⟨(some 30), .mov (.t 6), none⟩,
         ⟨(some 31), .bin .mul .no (.c (.int .i64 8)) (.t 30), none⟩,
         ⟨(some 32), .bin .shr .no (.t 29) (.t 31), none⟩,
         ⟨(some 33), .conv .u8 (.t 32), none⟩,
         ⟨(some 34), .idxAddrS 1 (.t 23) (.t 27), none⟩,
         ⟨none, .store 1 (.t 34) (.t 33), none⟩])))
     (.ops [⟨(some 35), .bin .add .no (.t 20) (.c (.int .i64 1)), none⟩,
       ⟨(some 20), .mov (.t 35), none⟩])))
def R_sha_padding_0 : C := .seq (.ops [⟨(some 36), .mov (.t 5), none⟩,
     ⟨(some 2), .mov (.t 36), none⟩])
  (.ret)
/-- purser/sha.padding -/
def f_sha_padding : Fn := ⟨37, [.tmp 2],
  .seq (.ops [⟨(some 2), .mov (.c (.slice none 0 (some 0) 0)), none⟩])
  (.seq (.ops [⟨(some 7), .mov (.t 0), none⟩,
     ⟨(some 8), .bin .rem .no (.t 7) (.c (.int .u64 64)), none⟩,
     ⟨(some 9), .conv .i64 (.t 8), none⟩,
     ⟨(some 3), .mov (.t 9), none⟩])
  (.seq (.ops [⟨(some 10), .mov (.t 3), none⟩,
     ⟨(some 11), .bin .sub .no (.c (.int .i64 64)) (.t 10), none⟩,
     ⟨(some 4), .mov (.t 11), none⟩])
  (.seq (.seq (.ops [⟨(some 12), .mov (.t 4), none⟩,
      ⟨(some 13), .bin .lss .no (.t 12) (.c (.int .i64 9)), none⟩])
   (.cond (.t 13)
    (.ops [⟨(some 14), .mov (.t 4), none⟩,
       ⟨(some 15), .bin .add .no (.t 14) (.c (.int .i64 64)), none⟩,
       ⟨(some 4), .mov (.t 15), none⟩])
    (.skip)))
  (.seq (.ops [⟨(some 16), .mov (.t 4), none⟩,
     ⟨(some 17), .mkslice [(.int .u8 0)] 1 (.t 16) (.t 16), none⟩,
     ⟨(some 5), .mov (.t 17), none⟩])
  (.seq (.ops [⟨(some 18), .mov (.t 5), none⟩,
     ⟨(some 19), .idxAddrS 1 (.t 18) (.c (.int .i64 0)), none⟩,
     ⟨none, .store 1 (.t 19) (.c (.int .u8 128)), none⟩])
  (.seq (.seq (.ops [⟨(some 20), .mov (.c (.int .i64 0)), none⟩])
   (.block 0 (.loop (L_sha_padding_0))))
  (R_sha_padding_0)))))))⟩
def L_slices_Chunk_api_Hash_api_Hash_1_0 : C := .seq (.seq (.ops [⟨(some 6), .mov (.t 4), none⟩,
        ⟨(some 7), .load none (.t 1), none⟩,
        ⟨(some 8), .len false (.t 7), none⟩,
        ⟨(some 9), .bin .lss .no (.t 6) (.t 8), none⟩])
     (.cond (.t 9)
      (.skip)
      (.exit 0)))
    (.seq (.block 1 (.seq (.dops 0 [] [(⟨(some 13), .load none (.t 2), none⟩, .R [] []),
         (⟨(some 14), .load none (.t 1), none⟩, .R [] []),
         (⟨(some 15), .mov (.t 4), none⟩, .L),
         (⟨(some 16), .slcS 32 (.t 14) (some (.t 15)) none none, none⟩, .L),
         (⟨(some 17), .len false (.t 16), none⟩, .L),
         (⟨(some 18), .minmax true [(.t 13), (.t 17)], none⟩, .L),
         (⟨(some 5), .mov (.t 18), none⟩, .L)])
      (.seq (.ops [⟨(some 19), .mov (.t 0), none⟩,
         ⟨(some 20), .load none (.t 1), none⟩,
         ⟨(some 21), .mov (.t 4), none⟩,
         ⟨(some 22), .mov (.t 4), none⟩,
         ⟨(some 23), .mov (.t 5), none⟩,
         ⟨(some 24), .bin .add .no (.t 22) (.t 23), none⟩,
         ⟨(some 25), .mov (.t 4), none⟩,
         ⟨(some 26), .mov (.t 5), none⟩,
         ⟨(some 27), .bin .add .no (.t 25) (.t 26), none⟩,
         ⟨(some 28), .slcS 32 (.t 20) (some (.t 21)) (some (.t 24)) (some (.t 27)), none⟩,
         ⟨(some 29), .callv (.t 19) [(.t 28)], none⟩,
         ⟨(some 30), .un .not (.t 29), none⟩])
      (.cond (.t 30)
       (.ret)
       (.skip)))))
    (.ops [⟨(some 10), .mov (.t 4), none⟩,
      ⟨(some 11), .load none (.t 2), none⟩,
      ⟨(some 12), .bin .add .no (.t 10) (.t 11), none⟩,
      ⟨(some 4), .mov (.t 12), none⟩]))
/-- slices.Chunk[[]purser/api.Hash,purser/api.Hash]$1 -/
def f_slices_Chunk_api_Hash_api_Hash_1 : Fn := ⟨31, [],
  .seq (.ops [⟨(some 4), .mov (.c (.int .i64 0)), none⟩])
  (.block 0 (.loop (L_slices_Chunk_api_Hash_api_Hash_1_0)))⟩
def L_sha_Sum_fill_1_0 : C := .seq (.seq (.ops [⟨(some 5), .load none (.t 1), none⟩,
        ⟨(some 6), .len false (.t 5), none⟩,
        ⟨(some 7), .bin .gtr .no (.t 6) (.c (.int .i64 0)), none⟩])
     (.cond (.t 7)
      (.skip)
      (.exit 0)))
    (.block 1 (.seq (.dops 0 [] [(⟨(some 8), .load none (.t 2), none⟩, .R [] []),
        (⟨(some 9), .nilchk (.t 8), none⟩, .L),
        (⟨(some 10), .fieldAddr 8 (.t 9), none⟩, .L),
        (⟨(some 11), .load none (.t 2), none⟩, .R [] []),
        (⟨(some 12), .nilchk (.t 11), none⟩, .L),
        (⟨(some 13), .fieldAddr 72 (.t 12), none⟩, .L),
        (⟨(some 14), .load none (.t 13), none⟩, .R [] []),
        (⟨(some 15), .bin .rem .no (.t 14) (.c (.int .u64 64)), none⟩, .L),
        (⟨(some 16), .slcA 64 1 (.t 10) (some (.t 15)) none none, none⟩, .R [] []),
        (⟨(some 17), .load none (.t 1), none⟩, .R [] []),
        (⟨(some 18), .copy 1 (.t 16) (.t 17), none⟩, .B []),
        (⟨(some 4), .mov (.t 18), none⟩, .L)])
     (.seq (.ops [⟨(some 19), .load none (.t 2), none⟩,
        ⟨(some 20), .nilchk (.t 19), none⟩,
        ⟨(some 21), .fieldAddr 72 (.t 20), none⟩,
        ⟨(some 22), .load none (.t 21), none⟩,
        ⟨(some 23), .mov (.t 4), none⟩,
        ⟨(some 24), .conv .u64 (.t 23), none⟩,
        ⟨(some 25), .bin .add .no (.t 22) (.t 24), none⟩,
        ⟨(some 26), .nilchk (.t 19), none⟩,
        ⟨(some 27), .fieldAddr 72 (.t 26), none⟩,
        ⟨none, .store 1 (.t 27) (.t 25), none⟩])
     (.seq (.ops [⟨(some 28), .load none (.t 1), none⟩,
        ⟨(some 29), .mov (.t 4), none⟩,
        ⟨(some 30), .slcS 1 (.t 28) (some (.t 29)) none none, none⟩,
        ⟨none, .store 1 (.t 1) (.t 30), none⟩])
     (.seq (.ops [⟨(some 31), .mov (.t 0), none⟩,
        ⟨(some 32), .load none (.t 2), none⟩,
        ⟨(some 33), .nilchk (.t 32), none⟩,
        ⟨(some 34), .fieldAddr 72 (.t 33), none⟩,
        ⟨(some 35), .load none (.t 34), none⟩,
        ⟨(some 36), .bin .rem .no (.t 35) (.c (.int .u64 64)), none⟩,
        ⟨(some 37), .bin .eql .no (.t 36) (.c (.int .u64 0)), none⟩,
        ⟨(some 38), .callv (.t 31) [(.t 37)], none⟩,
        ⟨(some 39), .un .not (.t 38), none⟩])
     (.cond (.t 39)
      (.ret)
      (.skip)))))))
/-- (*purser/sha.Sum).fill$1 -/
def f_sha_Sum_fill_1 : Fn := ⟨40, [],
  .block 0 (.loop (L_sha_Sum_fill_1_0))⟩
/-- purser/sha.cubeTable -/
def f_sha_cubeTable : Fn := ⟨2, [.cell 0 (some 64)],
  .seq (.ops [⟨(some 0), .alloc [(.int .u32 0), (.int .u32 0), (.int .u32 0), (.int .u32 0), (.int .u32 0), (.int .u32 0), (.int .u32 0), (.int .u32 0), (.int .u32 0), (.int .u32 0), (.int .u32 0), (.int .u32 0), (.int .u32 0), (.int .u32 0), (.int .u32 0), (.int .u32 0), (.int .u32 0), (.int .u32 0), (.int .u32 0), (.int .u32 0), (.int .u32 0), (.int .u32 0), (.int .u32 0), (.int .u32 0), (.int .u32 0), (.int .u32 0), (.int .u32 0), (.int .u32 0), (.int .u32 0), (.int .u32 0), (.int .u32 0), (.int .u32 0), (.int .u32 0), (.int .u32 0), (.int .u32 0), (.int .u32 0), (.int .u32 0), (.int .u32 0), (.int .u32 0), (.int .u32 0), (.int .u32 0), (.int .u32 0), (.int .u32 0), (.int .u32 0), (.int .u32 0), (.int .u32 0), (.int .u32 0), (.int .u32 0), (.int .u32 0), (.int .u32 0), (.int .u32 0), (.int .u32 0), (.int .u32 0), (.int .u32 0), (.int .u32 0), (.int .u32 0), (.int .u32 0), (.int .u32 0), (.int .u32 0), (.int .u32 0), (.int .u32 0), (.int .u32 0), (.int .u32 0), (.int .u32 0)], none⟩])
  (.seq (.ops [⟨(some 1), .build [(.int .u32 0), (.int .u32 0), (.int .u32 0), (.int .u32 0), (.int .u32 0), (.int .u32 0), (.int .u32 0), (.int .u32 0), (.int .u32 0), (.int .u32 0), (.int .u32 0), (.int .u32 0), (.int .u32 0), (.int .u32 0), (.int .u32 0), (.int .u32 0), (.int .u32 0), (.int .u32 0), (.int .u32 0), (.int .u32 0), (.int .u32 0), (.int .u32 0), (.int .u32 0), (.int .u32 0), (.int .u32 0), (.int .u32 0), (.int .u32 0), (.int .u32 0), (.int .u32 0), (.int .u32 0), (.int .u32 0), (.int .u32 0), (.int .u32 0), (.int .u32 0), (.int .u32 0), (.int .u32 0), (.int .u32 0), (.int .u32 0), (.int .u32 0), (.int .u32 0), (.int .u32 0), (.int .u32 0), (.int .u32 0), (.int .u32 0), (.int .u32 0), (.int .u32 0), (.int .u32 0), (.int .u32 0), (.int .u32 0), (.int .u32 0), (.int .u32 0), (.int .u32 0), (.int .u32 0), (.int .u32 0), (.int .u32 0), (.int .u32 0), (.int .u32 0), (.int .u32 0), (.int .u32 0), (.int .u32 0), (.int .u32 0), (.int .u32 0), (.int .u32 0), (.int .u32 0)] [(0, 1, (.c (.int .u32 1116352408))), (1, 1, (.c (.int .u32 1899447441))), (2, 1, (.c (.int .u32 3049323471))), (3, 1, (.c (.int .u32 3921009573))), (4, 1, (.c (.int .u32 961987163))), (5, 1, (.c (.int .u32 1508970993))), (6, 1, (.c (.int .u32 2453635748))), (7, 1, (.c (.int .u32 2870763221))), (8, 1, (.c (.int .u32 3624381080))), (9, 1, (.c (.int .u32 310598401))), (10, 1, (.c (.int .u32 607225278))), (11, 1, (.c (.int .u32 1426881987))), (12, 1, (.c (.int .u32 1925078388))), (13, 1, (.c (.int .u32 2162078206))), (14, 1, (.c (.int .u32 2614888103))), (15, 1, (.c (.int .u32 3248222580))), (16, 1, (.c (.int .u32 3835390401))), (17, 1, (.c (.int .u32 4022224774))), (18, 1, (.c (.int .u32 264347078))), (19, 1, (.c (.int .u32 604807628))), (20, 1, (.c (.int .u32 770255983))), (21, 1, (.c (.int .u32 1249150122))), (22, 1, (.c (.int .u32 1555081692))), (23, 1, (.c (.int .u32 1996064986))), (24, 1, (.c (.int .u32 2554220882))), (25, 1, (.c (.int .u32 2821834349))), (26, 1, (.c (.int .u32 2952996808))), (27, 1, (.c (.int .u32 3210313671))), (28, 1, (.c (.int .u32 3336571891))), (29, 1, (.c (.int .u32 3584528711))), (30, 1, (.c (.int .u32 113926993))), (31, 1, (.c (.int .u32 338241895))), (32, 1, (.c (.int .u32 666307205))), (33, 1, (.c (.int .u32 773529912))), (34, 1, (.c (.int .u32 1294757372))), (35, 1, (.c (.int .u32 1396182291))), (36, 1, (.c (.int .u32 1695183700))), (37, 1, (.c (.int .u32 1986661051))), (38, 1, (.c (.int .u32 2177026350))), (39, 1, (.c (.int .u32 2456956037))), (40, 1, (.c (.int .u32 2730485921))), (41, 1, (.c (.int .u32 2820302411))), (42, 1, (.c (.int .u32 3259730800))), (43, 1, (.c (.int .u32 3345764771))), (44, 1, (.c (.int .u32 3516065817))), (45, 1, (.c (.int .u32 3600352804))), (46, 1, (.c (.int .u32 4094571909))), (47, 1, (.c (.int .u32 275423344))), (48, 1, (.c (.int .u32 430227734))), (49, 1, (.c (.int .u32 506948616))), (50, 1, (.c (.int .u32 659060556))), (51, 1, (.c (.int .u32 883997877))), (52, 1, (.c (.int .u32 958139571))), (53, 1, (.c (.int .u32 1322822218))), (54, 1, (.c (.int .u32 1537002063))), (55, 1, (.c (.int .u32 1747873779))), (56, 1, (.c (.int .u32 1955562222))), (57, 1, (.c (.int .u32 2024104815))), (58, 1, (.c (.int .u32 2227730452))), (59, 1, (.c (.int .u32 2361852424))), (60, 1, (.c (.int .u32 2428436474))), (61, 1, (.c (.int .u32 2756734187))), (62, 1, (.c (.int .u32 3204031479))), (63, 1, (.c (.int .u32 3329325298)))], none⟩,
     ⟨none, .store 64 (.t 0) (.t 1), none⟩])
  (.ret))⟩
def L_sha_Sum_schedule_0 : C := .seq (.ops [⟨(some 11), .bin .lss .no (.t 10) (.c (.int .i64 64)), none⟩])
     (.seq (.cond (.t 11)
       (.skip)
       (.exit 0))
     (.seq (.block 1 (.seq (.ops [⟨(some 12), .mov (.t 10), none⟩,
          ⟨(some 4), .mov (.t 12), none⟩])
       (.seq (.seq (.ops [⟨(some 13), .mov (.t 4), none⟩,
           ⟨(some 14), .bin .lss .no (.t 13) (.c (.int .i64 16)), none⟩])
        (.cond (.t 14)
         (.seq (.ops [⟨(some 15), .mov (.t 0), none⟩,
             ⟨(some 16), .nilchk (.t 15), none⟩,
             ⟨(some 17), .fieldAddr 8 (.t 16), none⟩,
             ⟨(some 18), .mov (.t 4), none⟩,
             ⟨(some 19), .bin .mul .no (.c (.int .i64 4)) (.t 18), none⟩,
             ⟨(some 20), .mov (.t 4), none⟩,
             ⟨(some 21), .bin .mul .no (.c (.int .i64 4)) (.t 20), none⟩,
             ⟨(some 22), .bin .add .no (.t 21) (.c (.int .i64 4)), none⟩,
             ⟨(some 23), .slcA 64 1 (.t 17) (some (.t 19)) (some (.t 22)) none, none⟩,
             ⟨(some 5), .mov (.t 23), none⟩])
          (.seq (.dops 0 [] [(⟨(some 24), .mov (.t 4), none⟩, .L),
             (⟨(some 25), .mov (.t 5), none⟩, .L),
             (⟨(some 26), .idxAddrS 1 (.t 25) (.c (.int .i64 0)), none⟩, .L),
             (⟨(some 27), .load none (.t 26), none⟩, .R [] []),
             (⟨(some 28), .conv .u32 (.t 27), none⟩, .L),
             (⟨(some 29), .bin .shl .no (.t 28) (.c (.int .u64 24)), none⟩, .L),
             (⟨(some 30), .mov (.t 5), none⟩, .L),
             (⟨(some 31), .idxAddrS 1 (.t 30) (.c (.int .i64 1)), none⟩, .L),
             (⟨(some 32), .load none (.t 31), none⟩, .R [] []),
             (⟨(some 33), .conv .u32 (.t 32), none⟩, .L),
             (⟨(some 34), .bin .shl .no (.t 33) (.c (.int .u64 16)), none⟩, .L),
             (⟨(some 35), .bin .or .no (.t 29) (.t 34), none⟩, .L),
             (⟨(some 36), .mov (.t 5), none⟩, .L),
             (⟨(some 37), .idxAddrS 1 (.t 36) (.c (.int .i64 2)), none⟩, .L),
             (⟨(some 38), .load none (.t 37), none⟩, .R [] []),
             (⟨(some 39), .conv .u32 (.t 38), none⟩, .L),
             (⟨(some 40), .bin .shl .no (.t 39) (.c (.int .u64 8)), none⟩, .L),
             (⟨(some 41), .bin .or .no (.t 35) (.t 40), none⟩, .L),
             (⟨(some 42), .mov (.t 5), none⟩, .L),
             (⟨(some 43), .idxAddrS 1 (.t 42) (.c (.int .i64 3)), none⟩, .L),
             (⟨(some 44), .load none (.t 43), none⟩, .R [] []),
             (⟨(some 45), .conv .u32 (.t 44), none⟩, .L),
             (⟨(some 46), .bin .or .no (.t 41) (.t 45), none⟩, .L),
             (⟨(some 47), .idxAddrA 64 1 (.t 3) (.t 24), none⟩, .L),
             (⟨none, .store 1 (.t 47) (.t 46), none⟩, .B [])])
          (.exit 1)))
         (.skip)))
       (.seq (.dops 0 [] [(⟨(some 48), .mov (.t 4), none⟩, .L),
          (⟨(some 49), .bin .sub .no (.t 48) (.c (.int .i64 15)), none⟩, .L),
          (⟨(some 50), .idxAddrA 64 1 (.t 3) (.t 49), none⟩, .L),
          (⟨(some 51), .load none (.t 50), none⟩, .R [] []),
          (⟨(some 52), .mov (.t 4), none⟩, .L),
          (⟨(some 53), .bin .sub .no (.t 52) (.c (.int .i64 2)), none⟩, .L),
          (⟨(some 54), .idxAddrA 64 1 (.t 3) (.t 53), none⟩, .L),
          (⟨(some 55), .load none (.t 54), none⟩, .R [] []),
          (⟨(some 6), .mov (.t 51), none⟩, .L),
          (⟨(some 7), .mov (.t 55), none⟩, .L)])
       (.seq (.ops [⟨(some 56), .mov (.t 6), none⟩,
          ⟨(some 57), .call k_math_bits_RotateLeft32 [(.t 56), (.c (.int .i64 (-7)))], none⟩,
          ⟨(some 58), .mov (.t 6), none⟩,
          ⟨(some 59), .call k_math_bits_RotateLeft32 [(.t 58), (.c (.int .i64 (-18)))], none⟩,
          ⟨(some 60), .bin .xor .no (.t 57) (.t 59), none⟩,
          ⟨(some 61), .mov (.t 6), none⟩,
          ⟨(some 62), .bin .shr .no (.t 61) (.c (.int .u64 3)), none⟩,
          ⟨(some 63), .bin .xor .no (.t 60) (.t 62), none⟩,
          ⟨(some 8), .mov (.t 63), none⟩])
       (.seq (.ops [⟨(some 64), .mov (.t 7), none⟩,
          ⟨(some 65), .call k_math_bits_RotateLeft32 [(.t 64), (.c (.int .i64 (-17)))], none⟩,
          ⟨(some 66), .mov (.t 7), none⟩,
          ⟨(some 67), .call k_math_bits_RotateLeft32 [(.t 66), (.c (.int .i64 (-19)))], none⟩,
          ⟨(some 68), .bin .xor .no (.t 65) (.t 67), none⟩,
          ⟨(some 69), .mov (.t 7), none⟩,
          ⟨(some 70), .bin .shr .no (.t 69) (.c (.int .u64 10)), none⟩,
          ⟨(some 71), .bin .xor .no (.t 68) (.t 70), none⟩,
          ⟨(some 9), .mov (.t 71), none⟩])
       (.dops 0 [] [(⟨(some 72), .mov (.t 4), none⟩, .L),
         (⟨(some 73), .mov (.t 4), none⟩, .L),
         (⟨(some 74), .bin .sub .no (.t 73) (.c (.int .i64 16)), none⟩, .L),
         (⟨(some 75), .idxAddrA 64 1 (.t 3) (.t 74), none⟩, .L),
         (⟨(some 76), .load none (.t 75), none⟩, .R [] []),
         (⟨(some 77), .mov (.t 8), none⟩, .L),
         (⟨(some 78), .bin .add .no (.t 76) (.t 77), none⟩, .L),
         (⟨(some 79), .mov (.t 4), none⟩, .L),
         (⟨(some 80), .bin .sub .no (.t 79) (.c (.int .i64 7)), none⟩, .L),
         (⟨(some 81), .idxAddrA 64 1 (.t 3) (.t 80), none⟩, .L),
         (⟨(some 82), .load none (.t 81), none⟩, .R [] []),
         (⟨(some 83), .bin .add .no (.t 78) (.t 82), none⟩, .L),
         (⟨(some 84), .mov (.t 9), none⟩, .L),
         (⟨(some 85), .bin .add .no (.t 83) (.t 84), none⟩, .L),
         (⟨(some 86), .idxAddrA 64 1 (.t 3) (.t 72), none⟩, .L),
         (⟨none, .store 1 (.t 86) (.t 85), none⟩, .B [])])))))))
     (.ops [⟨(some 87), .bin .add .no (.t 10) (.c (.int .i64 1)), none⟩,
       ⟨(some 10), .mov (.t 87), none⟩])))
def R_sha_Sum_schedule_0 : C := .seq (.ops [⟨(some 88), .load (some 64) (.t 3), none⟩,
     ⟨none, .store 64 (.t 2) (.t 88), none⟩])
  (.ret)
/-- (*purser/sha.Sum).schedule -/
def f_sha_Sum_schedule : Fn := ⟨89, [.cell 2 (some 64)],
  .seq (.ops [⟨(some 2), .alloc [(.int .u32 0), (.int .u32 0), (.int .u32 0), (.int .u32 0), (.int .u32 0), (.int .u32 0), (.int .u32 0), (.int .u32 0), (.int .u32 0), (.int .u32 0), (.int .u32 0), (.int .u32 0), (.int .u32 0), (.int .u32 0), (.int .u32 0), (.int .u32 0), (.int .u32 0), (.int .u32 0), (.int .u32 0), (.int .u32 0), (.int .u32 0), (.int .u32 0), (.int .u32 0), (.int .u32 0), (.int .u32 0), (.int .u32 0), (.int .u32 0), (.int .u32 0), (.int .u32 0), (.int .u32 0), (.int .u32 0), (.int .u32 0), (.int .u32 0), (.int .u32 0), (.int .u32 0), (.int .u32 0), (.int .u32 0), (.int .u32 0), (.int .u32 0), (.int .u32 0), (.int .u32 0), (.int .u32 0), (.int .u32 0), (.int .u32 0), (.int .u32 0), (.int .u32 0), (.int .u32 0), (.int .u32 0), (.int .u32 0), (.int .u32 0), (.int .u32 0), (.int .u32 0), (.int .u32 0), (.int .u32 0), (.int .u32 0), (.int .u32 0), (.int .u32 0), (.int .u32 0), (.int .u32 0), (.int .u32 0), (.int .u32 0), (.int .u32 0), (.int .u32 0), (.int .u32 0)], none⟩])
  (.seq (.ops [⟨(some 3), .alloc [(.int .u32 0), (.int .u32 0), (.int .u32 0), (.int .u32 0), (.int .u32 0), (.int .u32 0), (.int .u32 0), (.int .u32 0), (.int .u32 0), (.int .u32 0), (.int .u32 0), (.int .u32 0), (.int .u32 0), (.int .u32 0), (.int .u32 0), (.int .u32 0), (.int .u32 0), (.int .u32 0), (.int .u32 0), (.int .u32 0), (.int .u32 0), (.int .u32 0), (.int .u32 0), (.int .u32 0), (.int .u32 0), (.int .u32 0), (.int .u32 0), (.int .u32 0), (.int .u32 0), (.int .u32 0), (.int .u32 0), (.int .u32 0), (.int .u32 0), (.int .u32 0), (.int .u32 0), (.int .u32 0), (.int .u32 0), (.int .u32 0), (.int .u32 0), (.int .u32 0), (.int .u32 0), (.int .u32 0), (.int .u32 0), (.int .u32 0), (.int .u32 0), (.int .u32 0), (.int .u32 0), (.int .u32 0), (.int .u32 0), (.int .u32 0), (.int .u32 0), (.int .u32 0), (.int .u32 0), (.int .u32 0), (.int .u32 0), (.int .u32 0), (.int .u32 0), (.int .u32 0), (.int .u32 0), (.int .u32 0), (.int .u32 0), (.int .u32 0), (.int .u32 0), (.int .u32 0)], none⟩])
  (.seq (.seq (.ops [⟨(some 10), .mov (.c (.int .i64 0)), none⟩])
   (.block 0 (.loop (L_sha_Sum_schedule_0))))
  (R_sha_Sum_schedule_0)))⟩
/-- purser/sha.turned -/
def f_sha_turned : Fn := ⟨23, [.tmp 8],
  .seq (.ops [⟨(some 8), .mov (.c (.int .u32 0)), none⟩])
  (.seq (.ops [⟨(some 9), .mov (.t 0), none⟩,
     ⟨(some 10), .mov (.t 1), none⟩,
     ⟨(some 11), .un .neg (.t 10), none⟩,
     ⟨(some 12), .call k_math_bits_RotateLeft32 [(.t 9), (.t 11)], none⟩,
     ⟨(some 13), .mov (.t 0), none⟩,
     ⟨(some 14), .mov (.t 2), none⟩,
     ⟨(some 15), .un .neg (.t 14), none⟩,
     ⟨(some 16), .call k_math_bits_RotateLeft32 [(.t 13), (.t 15)], none⟩,
     ⟨(some 17), .bin .xor .no (.t 12) (.t 16), none⟩,
     ⟨(some 18), .mov (.t 0), none⟩,
     ⟨(some 19), .mov (.t 3), none⟩,
     ⟨(some 20), .un .neg (.t 19), none⟩,
     ⟨(some 21), .call k_math_bits_RotateLeft32 [(.t 18), (.t 20)], none⟩,
     ⟨(some 22), .bin .xor .no (.t 17) (.t 21), none⟩,
     ⟨(some 8), .mov (.t 22), none⟩])
  (.ret))⟩
/-- math/bits.RotateLeft32 -/
def f_math_bits_RotateLeft32 : Fn := ⟨17, [.tmp 4],
  .seq (.ops [⟨(some 4), .mov (.c (.int .u32 0)), none⟩])
  (.seq (.ops [⟨(some 6), .mov (.t 1), none⟩,
     ⟨(some 7), .conv .u64 (.t 6), none⟩,
     ⟨(some 8), .bin .and .no (.t 7) (.c (.int .u64 31)), none⟩,
     ⟨(some 5), .mov (.t 8), none⟩])
  (.seq (.ops [⟨(some 9), .mov (.t 0), none⟩,
     ⟨(some 10), .mov (.t 5), none⟩,
     ⟨(some 11), .bin .shl .no (.t 9) (.t 10), none⟩,
     ⟨(some 12), .mov (.t 0), none⟩,
     ⟨(some 13), .mov (.t 5), none⟩,
     ⟨(some 14), .bin .sub .no (.c (.int .u64 32)) (.t 13), none⟩,
     ⟨(some 15), .bin .shr .no (.t 12) (.t 14), none⟩,
     ⟨(some 16), .bin .or .no (.t 11) (.t 15), none⟩,
     ⟨(some 4), .mov (.t 16), none⟩])
  (.ret)))⟩


end Go.Eng
