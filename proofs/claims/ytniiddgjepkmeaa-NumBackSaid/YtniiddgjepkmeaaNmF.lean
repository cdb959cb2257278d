/- Functions of the program, as the evaluator takes them: printed by program. -/
import Derived.Test.YtniiddgjepkmeaaEngA
namespace Go.Eng
open Go
/-- purser/purserlaw11.NumMakes -/
abbrev k_purserlaw11_NumMakes : Nat := 9
/-- purser/purserlaw11.NumBack -/
abbrev k_purserlaw11_NumBack : Nat := 10
/-- purser/purserlaw11.NumMade -/
abbrev k_purserlaw11_NumMade : Nat := 13
/-- purser/num.One -/
abbrev k_num_One : Nat := 41
/-- purser/purserref11.One -/
abbrev k_purserref11_One : Nat := 42
/-- purser/num.Two -/
abbrev k_num_Two : Nat := 43
/-- purser/purserref11.Two -/
abbrev k_purserref11_Two : Nat := 44
/-- purser/num.Within -/
abbrev k_num_Within : Nat := 45
/-- purser/purserref11.Within -/
abbrev k_purserref11_Within : Nat := 46
/-- purser/num.Arity -/
abbrev k_num_Arity : Nat := 47
/-- purser/purserref11.Arity -/
abbrev k_purserref11_Arity : Nat := 48
/-- purser/num.Encode -/
abbrev k_num_Encode : Nat := 33
/-- purser/num.Decode -/
abbrev k_num_Decode : Nat := 35
/-- purser/num.True -/
abbrev k_num_True : Nat := 37
/-- purser/purserlaw11.alive -/
abbrev k_purserlaw11_alive : Nat := 49
/-- purser/num.Flag -/
abbrev k_num_Flag : Nat := 39
/-- purser/num.ofOne -/
abbrev k_num_ofOne : Nat := 73
/-- purser/num.script -/
abbrev k_num_script : Nat := 74
/-- purser/purserref11.flag -/
abbrev k_purserref11_flag : Nat := 72
/-- purser/purserref11.fits -/
abbrev k_purserref11_fits : Nat := 75
/-- purser/num.ofTwo -/
abbrev k_num_ofTwo : Nat := 76
/-- purser/num.lowFirst -/
abbrev k_num_lowFirst : Nat := 66
/-- (purser/num.integer).size -/
abbrev k_num_integer_size : Nat := 67
/-- purser/num.signed -/
abbrev k_num_signed : Nat := 68
/-- purser/num.number -/
abbrev k_num_number : Nat := 70
/-- bytes.Equal -/
abbrev k_bytes_Equal : Nat := 71
/-- purser/purserlaw11.form -/
abbrev k_purserlaw11_form : Nat := 77
/-- (purser/num.integer).next -/
abbrev k_num_integer_next : Nat := 97
/-- (purser/num.integer).previous -/
abbrev k_num_integer_previous : Nat := 98
/-- (purser/num.integer).negated -/
abbrev k_num_integer_negated : Nat := 99
/-- (purser/num.integer).isZero -/
abbrev k_num_integer_isZero : Nat := 100
/-- (purser/num.integer).isNot -/
abbrev k_num_integer_isNot : Nat := 101
/-- (purser/num.integer).plus -/
abbrev k_num_integer_plus : Nat := 102
/-- (purser/num.integer).minus -/
abbrev k_num_integer_minus : Nat := 103
/-- (purser/num.integer).and -/
abbrev k_num_integer_and : Nat := 104
/-- (purser/num.integer).or -/
abbrev k_num_integer_or : Nat := 105
/-- (purser/num.integer).equals -/
abbrev k_num_integer_equals : Nat := 106
/-- (purser/num.integer).differs -/
abbrev k_num_integer_differs : Nat := 107
/-- (purser/num.integer).less -/
abbrev k_num_integer_less : Nat := 108
/-- (purser/num.integer).greater -/
abbrev k_num_integer_greater : Nat := 109
/-- (purser/num.integer).atMost -/
abbrev k_num_integer_atMost : Nat := 110
/-- (purser/num.integer).atLeast -/
abbrev k_num_integer_atLeast : Nat := 111
/-- (purser/num.integer).smaller -/
abbrev k_num_integer_smaller : Nat := 112
/-- (purser/num.integer).larger -/
abbrev k_num_integer_larger : Nat := 113
/-- purser/num.lowFirst$1 -/
abbrev k_num_lowFirst_1 : Nat := 96
/-- purser/num.flag -/
abbrev k_num_flag : Nat := 129
/-- purser/purserlaw11.NumMakes -/
def f_purserlaw11_NumMakes : Fn := ⟨79, [.tmp 8],
  .seq (.ops [⟨(some 8), .mov (.c (.bool false)), none⟩])
  (.seq (.ops [⟨(some 18), .mov (.t 0), none⟩,
     ⟨(some 19), .mov (.t 1), none⟩,
     ⟨(some 20), .call k_num_One [(.t 18), (.t 19)], none⟩,
     ⟨(some 17), .mov (.t 20), none⟩,
     ⟨(some 21), .ext (.t 17) 0, none⟩,
     ⟨(some 22), .ext (.t 17) 1, none⟩,
     ⟨(some 9), .mov (.t 21), none⟩,
     ⟨(some 10), .mov (.t 22), none⟩])
  (.seq (.ops [⟨(some 24), .mov (.t 0), none⟩,
     ⟨(some 25), .mov (.t 1), none⟩,
     ⟨(some 26), .call k_purserref11_One [(.t 24), (.t 25)], none⟩,
     ⟨(some 23), .mov (.t 26), none⟩,
     ⟨(some 27), .ext (.t 23) 0, none⟩,
     ⟨(some 28), .ext (.t 23) 1, none⟩,
     ⟨(some 11), .mov (.t 27), none⟩,
     ⟨(some 12), .mov (.t 28), none⟩])
  (.seq (.ops [⟨(some 30), .mov (.t 0), none⟩,
     ⟨(some 31), .mov (.t 1), none⟩,
     ⟨(some 32), .mov (.t 2), none⟩,
     ⟨(some 33), .call k_num_Two [(.t 30), (.t 31), (.t 32)], none⟩,
     ⟨(some 29), .mov (.t 33), none⟩,
     ⟨(some 34), .ext (.t 29) 0, none⟩,
     ⟨(some 35), .ext (.t 29) 1, none⟩,
     ⟨(some 13), .mov (.t 34), none⟩,
     ⟨(some 14), .mov (.t 35), none⟩])
  (.seq (.ops [⟨(some 37), .mov (.t 0), none⟩,
     ⟨(some 38), .mov (.t 1), none⟩,
     ⟨(some 39), .mov (.t 2), none⟩,
     ⟨(some 40), .call k_purserref11_Two [(.t 37), (.t 38), (.t 39)], none⟩,
     ⟨(some 36), .mov (.t 40), none⟩,
     ⟨(some 41), .ext (.t 36) 0, none⟩,
     ⟨(some 42), .ext (.t 36) 1, none⟩,
     ⟨(some 15), .mov (.t 41), none⟩,
     ⟨(some 16), .mov (.t 42), none⟩])
  (.seq (.ops [⟨(some 43), .mov (.t 9), none⟩,
     ⟨(some 44), .mov (.t 11), none⟩,
     ⟨(some 45), .bin .eql .no (.t 43) (.t 44), none⟩,
     ⟨(some 46), .mov (.t 45), none⟩,
     ⟨(some 47), .mov (.t 10), (some (46, true))⟩,
     ⟨(some 48), .mov (.t 12), (some (46, true))⟩,
     ⟨(some 49), .bin .eql .no (.t 47) (.t 48), (some (46, true))⟩,
     ⟨(some 50), .pick (.t 46) (.t 49) (.c (.bool false)), none⟩,
     ⟨(some 51), .mov (.t 50), none⟩,
     ⟨(some 52), .mov (.t 13), (some (51, true))⟩,
     ⟨(some 53), .mov (.t 15), (some (51, true))⟩,
     ⟨(some 54), .bin .eql .no (.t 52) (.t 53), (some (51, true))⟩,
     ⟨(some 55), .pick (.t 51) (.t 54) (.c (.bool false)), none⟩,
     ⟨(some 56), .mov (.t 55), none⟩,
     ⟨(some 57), .mov (.t 14), (some (56, true))⟩,
     ⟨(some 58), .mov (.t 16), (some (56, true))⟩,
     ⟨(some 59), .bin .eql .no (.t 57) (.t 58), (some (56, true))⟩,
     ⟨(some 60), .pick (.t 56) (.t 59) (.c (.bool false)), none⟩,
     ⟨(some 61), .mov (.t 60), none⟩,
     ⟨(some 62), .mov (.t 1), (some (61, true))⟩,
     ⟨(some 63), .mov (.t 2), (some (61, true))⟩,
     ⟨(some 64), .mov (.t 3), (some (61, true))⟩,
     ⟨(some 65), .call k_num_Within [(.t 62), (.t 63), (.t 64)], (some (61, true))⟩,
     ⟨(some 66), .mov (.t 1), (some (61, true))⟩,
     ⟨(some 67), .mov (.t 2), (some (61, true))⟩,
     ⟨(some 68), .mov (.t 3), (some (61, true))⟩,
     ⟨(some 69), .call k_purserref11_Within [(.t 66), (.t 67), (.t 68)], (some (61, true))⟩,
     ⟨(some 70), .bin .eql .bool (.t 65) (.t 69), (some (61, true))⟩,
     ⟨(some 71), .pick (.t 61) (.t 70) (.c (.bool false)), none⟩,
     ⟨(some 72), .mov (.t 71), none⟩,
     ⟨(some 73), .mov (.t 0), (some (72, true))⟩,
     ⟨(some 74), .call k_num_Arity [(.t 73)], (some (72, true))⟩,
     ⟨(some 75), .mov (.t 0), (some (72, true))⟩,
     ⟨(some 76), .call k_purserref11_Arity [(.t 75)], (some (72, true))⟩,
     ⟨(some 77), .bin .eql .no (.t 74) (.t 76), (some (72, true))⟩,
     ⟨(some 78), .pick (.t 72) (.t 77) (.c (.bool false)), none⟩,
     ⟨(some 8), .mov (.t 78), none⟩])
  (.ret))))))⟩
/-- purser/purserlaw11.NumBack -/
def f_purserlaw11_NumBack : Fn := ⟨114, [.tmp 4],
  .seq (.ops [⟨(some 4), .mov (.c (.bool false)), none⟩])
  (.seq (.ops [⟨(some 15), .call k_purserlaw11_alive [], none⟩,
     ⟨(some 5), .mov (.t 15), none⟩])
  (.seq (.seq (.ops [⟨(some 16), .mov (.t 1), none⟩,
      ⟨(some 17), .len false (.t 16), none⟩,
      ⟨(some 18), .bin .gtr .no (.t 17) (.c (.int .i64 100)), none⟩,
      ⟨(some 19), .mov (.t 18), none⟩,
      ⟨(some 20), .mov (.t 5), (some (19, false))⟩,
      ⟨(some 21), .un .not (.t 20), (some (19, false))⟩,
      ⟨(some 22), .pick (.t 19) (.c (.bool true)) (.t 21), none⟩])
   (.cond (.t 22)
    (.seq (.ops [⟨(some 23), .mov (.t 5), none⟩,
        ⟨(some 4), .mov (.t 23), none⟩])
     (.ret))
    (.skip)))
  (.seq (.ops [⟨(some 25), .mov (.t 0), none⟩,
     ⟨(some 26), .call k_num_Encode [(.t 25)], none⟩,
     ⟨(some 24), .mov (.t 26), none⟩,
     ⟨(some 27), .ext (.t 24) 0, none⟩,
     ⟨(some 28), .ext (.t 24) 1, none⟩,
     ⟨(some 6), .mov (.t 27), none⟩,
     ⟨(some 7), .mov (.t 28), none⟩])
  (.seq (.seq (.ops [⟨(some 29), .mov (.t 7), none⟩,
      ⟨(some 30), .bin .eql .no (.t 29) (.c (.int .i64 0)), none⟩])
   (.cond (.t 30)
    (.seq (.ops [⟨(some 32), .mov (.t 6), none⟩,
        ⟨(some 33), .call k_num_Decode [(.t 32)], none⟩,
        ⟨(some 31), .mov (.t 33), none⟩,
        ⟨(some 34), .ext (.t 31) 0, none⟩,
        ⟨(some 35), .ext (.t 31) 1, none⟩,
        ⟨(some 8), .mov (.t 34), none⟩,
        ⟨(some 9), .mov (.t 35), none⟩])
     (.seq (.ops [⟨(some 36), .mov (.t 0), none⟩,
        ⟨(some 37), .bin .geq .no (.t 36) (.c (.int .i64 (-2147483647))), none⟩,
        ⟨(some 38), .mov (.t 37), none⟩,
        ⟨(some 39), .mov (.t 0), (some (38, true))⟩,
        ⟨(some 40), .bin .leq .no (.t 39) (.c (.int .i64 2147483647)), (some (38, true))⟩,
        ⟨(some 41), .pick (.t 38) (.t 40) (.c (.bool false)), none⟩,
        ⟨(some 10), .mov (.t 41), none⟩])
     (.seq (.ops [⟨(some 42), .mov (.t 9), none⟩,
        ⟨(some 43), .bin .eql .no (.t 42) (.c (.int .i64 0)), none⟩,
        ⟨(some 44), .mov (.t 10), none⟩,
        ⟨(some 45), .bin .neq .bool (.t 43) (.t 44), none⟩,
        ⟨(some 46), .mov (.t 45), none⟩,
        ⟨(some 47), .mov (.t 10), (some (46, false))⟩,
        ⟨(some 48), .mov (.t 47), (some (46, false))⟩,
        ⟨(some 49), .mov (.t 8), (some (48, true))⟩,
        ⟨(some 50), .mov (.t 0), (some (48, true))⟩,
        ⟨(some 51), .bin .neq .no (.t 49) (.t 50), (some (48, true))⟩,
        ⟨(some 52), .pick (.t 48) (.t 51) (.c (.bool false)), (some (46, false))⟩,
        ⟨(some 53), .pick (.t 46) (.c (.bool true)) (.t 52), none⟩,
        ⟨(some 54), .mov (.t 53), none⟩,
        ⟨(some 55), .mov (.t 6), (some (54, false))⟩,
        ⟨(some 56), .call k_num_True [(.t 55)], (some (54, false))⟩,
        ⟨(some 57), .mov (.t 0), (some (54, false))⟩,
        ⟨(some 58), .bin .neq .no (.t 57) (.c (.int .i64 0)), (some (54, false))⟩,
        ⟨(some 59), .bin .neq .bool (.t 56) (.t 58), (some (54, false))⟩,
        ⟨(some 60), .pick (.t 54) (.c (.bool true)) (.t 59), none⟩,
        ⟨(some 61), .mov (.t 60), none⟩,
        ⟨(some 62), .mov (.t 6), (some (61, false))⟩,
        ⟨(some 63), .len false (.t 62), (some (61, false))⟩,
        ⟨(some 64), .bin .gtr .no (.t 63) (.c (.int .i64 5)), (some (61, false))⟩,
        ⟨(some 65), .pick (.t 61) (.c (.bool true)) (.t 64), none⟩,
        ⟨(some 66), .mov (.t 65), none⟩,
        ⟨(some 67), .mov (.t 10), (some (66, false))⟩,
        ⟨(some 68), .mov (.t 67), (some (66, false))⟩,
        ⟨(some 69), .mov (.t 6), (some (68, true))⟩,
        ⟨(some 70), .len false (.t 69), (some (68, true))⟩,
        ⟨(some 71), .bin .gtr .no (.t 70) (.c (.int .i64 4)), (some (68, true))⟩,
        ⟨(some 72), .pick (.t 68) (.t 71) (.c (.bool false)), (some (66, false))⟩,
        ⟨(some 73), .pick (.t 66) (.c (.bool true)) (.t 72), none⟩])
     (.cond (.t 73)
      (.seq (.ops [⟨(some 4), .mov (.c (.bool false)), none⟩])
       (.ret))
      (.skip)))))
    (.skip)))
  (.seq (.ops [⟨(some 75), .mov (.t 1), none⟩,
     ⟨(some 76), .call k_num_Decode [(.t 75)], none⟩,
     ⟨(some 74), .mov (.t 76), none⟩,
     ⟨(some 77), .ext (.t 74) 0, none⟩,
     ⟨(some 78), .ext (.t 74) 1, none⟩,
     ⟨(some 11), .mov (.t 77), none⟩,
     ⟨(some 12), .mov (.t 78), none⟩])
  (.seq (.seq (.ops [⟨(some 79), .mov (.t 12), none⟩,
      ⟨(some 80), .bin .neq .no (.t 79) (.c (.int .i64 0)), none⟩])
   (.cond (.t 80)
    (.seq (.ops [⟨(some 81), .mov (.t 5), none⟩,
        ⟨(some 82), .mov (.t 81), none⟩,
        ⟨(some 83), .mov (.t 11), (some (82, true))⟩,
        ⟨(some 84), .bin .eql .no (.t 83) (.c (.int .i64 0)), (some (82, true))⟩,
        ⟨(some 85), .pick (.t 82) (.t 84) (.c (.bool false)), none⟩,
        ⟨(some 86), .mov (.t 85), none⟩,
        ⟨(some 87), .mov (.t 12), (some (86, true))⟩,
        ⟨(some 88), .bin .eql .no (.t 87) (.c (.int .i64 110)), (some (86, true))⟩,
        ⟨(some 89), .pick (.t 86) (.t 88) (.c (.bool false)), none⟩,
        ⟨(some 4), .mov (.t 89), none⟩])
     (.ret))
    (.skip)))
  (.seq (.ops [⟨(some 91), .mov (.t 11), none⟩,
     ⟨(some 92), .call k_num_Encode [(.t 91)], none⟩,
     ⟨(some 90), .mov (.t 92), none⟩,
     ⟨(some 93), .ext (.t 90) 0, none⟩,
     ⟨(some 94), .ext (.t 90) 1, none⟩,
     ⟨(some 13), .mov (.t 93), none⟩,
     ⟨(some 14), .mov (.t 94), none⟩])
  (.seq (.ops [⟨(some 95), .mov (.t 5), none⟩,
     ⟨(some 96), .mov (.t 95), none⟩,
     ⟨(some 97), .mov (.t 14), (some (96, true))⟩,
     ⟨(some 98), .bin .eql .no (.t 97) (.c (.int .i64 0)), (some (96, true))⟩,
     ⟨(some 99), .pick (.t 96) (.t 98) (.c (.bool false)), none⟩,
     ⟨(some 100), .mov (.t 99), none⟩,
     ⟨(some 101), .mov (.t 13), (some (100, true))⟩,
     ⟨(some 102), .b2s (.t 101), (some (100, true))⟩,
     ⟨(some 103), .mov (.t 1), (some (100, true))⟩,
     ⟨(some 104), .b2s (.t 103), (some (100, true))⟩,
     ⟨(some 105), .bin .eql .no (.t 102) (.t 104), (some (100, true))⟩,
     ⟨(some 106), .pick (.t 100) (.t 105) (.c (.bool false)), none⟩,
     ⟨(some 107), .mov (.t 106), none⟩,
     ⟨(some 108), .mov (.t 1), (some (107, true))⟩,
     ⟨(some 109), .call k_num_True [(.t 108)], (some (107, true))⟩,
     ⟨(some 110), .mov (.t 11), (some (107, true))⟩,
     ⟨(some 111), .bin .neq .no (.t 110) (.c (.int .i64 0)), (some (107, true))⟩,
     ⟨(some 112), .bin .eql .bool (.t 109) (.t 111), (some (107, true))⟩,
     ⟨(some 113), .pick (.t 107) (.t 112) (.c (.bool false)), none⟩,
     ⟨(some 4), .mov (.t 113), none⟩])
  (.ret)))))))))⟩
/-- purser/purserlaw11.NumMade -/
def f_purserlaw11_NumMade : Fn := ⟨111, [.tmp 6],
  .seq (.ops [⟨(some 6), .mov (.c (.bool false)), none⟩])
  (.seq (.ops [⟨(some 14), .call k_purserlaw11_alive [], none⟩,
     ⟨(some 7), .mov (.t 14), none⟩])
  (.seq (.ops [⟨(some 15), .mov (.t 1), none⟩,
     ⟨(some 16), .bin .rem .no (.t 15) (.c (.int .i64 2147483648)), none⟩,
     ⟨(some 17), .mov (.t 2), none⟩,
     ⟨(some 18), .bin .rem .no (.t 17) (.c (.int .i64 2147483648)), none⟩,
     ⟨(some 1), .mov (.t 16), none⟩,
     ⟨(some 2), .mov (.t 18), none⟩])
  (.seq (.ops [⟨(some 20), .mov (.t 0), none⟩,
     ⟨(some 21), .mov (.t 1), none⟩,
     ⟨(some 22), .call k_num_One [(.t 20), (.t 21)], none⟩,
     ⟨(some 19), .mov (.t 22), none⟩,
     ⟨(some 23), .ext (.t 19) 0, none⟩,
     ⟨(some 24), .ext (.t 19) 1, none⟩,
     ⟨(some 8), .mov (.t 23), none⟩,
     ⟨(some 9), .mov (.t 24), none⟩])
  (.seq (.seq (.ops [⟨(some 25), .mov (.t 0), none⟩,
      ⟨(some 26), .call k_num_Arity [(.t 25)], none⟩,
      ⟨(some 27), .bin .eql .no (.t 26) (.c (.int .i64 2)), none⟩])
   (.cond (.t 27)
    (.ops [⟨(some 29), .mov (.t 0), none⟩,
       ⟨(some 30), .mov (.t 1), none⟩,
       ⟨(some 31), .mov (.t 2), none⟩,
       ⟨(some 32), .call k_num_Two [(.t 29), (.t 30), (.t 31)], none⟩,
       ⟨(some 28), .mov (.t 32), none⟩,
       ⟨(some 33), .ext (.t 28) 0, none⟩,
       ⟨(some 34), .ext (.t 28) 1, none⟩,
       ⟨(some 8), .mov (.t 33), none⟩,
       ⟨(some 9), .mov (.t 34), none⟩])
    (.skip)))
  (.seq (.seq (.ops [⟨(some 35), .mov (.t 0), none⟩,
      ⟨(some 36), .call k_num_Arity [(.t 35)], none⟩,
      ⟨(some 10), .mov (.t 36), none⟩])
   (.seq (.ops [⟨(some 37), .mov (.t 10), none⟩,
      ⟨(some 38), .bin .neq .no (.t 37) (.c (.int .i64 1)), none⟩,
      ⟨(some 39), .mov (.t 38), none⟩,
      ⟨(some 40), .mov (.t 10), (some (39, true))⟩,
      ⟨(some 41), .bin .neq .no (.t 40) (.c (.int .i64 2)), (some (39, true))⟩,
      ⟨(some 42), .pick (.t 39) (.t 41) (.c (.bool false)), none⟩])
   (.cond (.t 42)
    (.seq (.ops [⟨(some 43), .mov (.t 7), none⟩,
        ⟨(some 44), .mov (.t 43), none⟩,
        ⟨(some 45), .mov (.t 9), (some (44, true))⟩,
        ⟨(some 46), .bin .eql .no (.t 45) (.c (.int .i64 2)), (some (44, true))⟩,
        ⟨(some 47), .pick (.t 44) (.t 46) (.c (.bool false)), none⟩,
        ⟨(some 48), .mov (.t 47), none⟩,
        ⟨(some 49), .mov (.t 8), (some (48, true))⟩,
        ⟨(some 50), .bin .eql .no (.t 49) (.c (.int .i64 0)), (some (48, true))⟩,
        ⟨(some 51), .pick (.t 48) (.t 50) (.c (.bool false)), none⟩,
        ⟨(some 6), .mov (.t 51), none⟩])
     (.ret))
    (.skip))))
  (.seq (.ops [⟨(some 53), .mov (.t 8), none⟩,
     ⟨(some 54), .call k_num_Encode [(.t 53)], none⟩,
     ⟨(some 52), .mov (.t 54), none⟩,
     ⟨(some 55), .ext (.t 52) 0, none⟩,
     ⟨(some 56), .ext (.t 52) 1, none⟩,
     ⟨(some 11), .mov (.t 55), none⟩,
     ⟨(some 12), .mov (.t 56), none⟩])
  (.seq (.seq (.ops [⟨(some 57), .mov (.t 9), none⟩,
      ⟨(some 58), .bin .neq .no (.t 57) (.c (.int .i64 0)), none⟩,
      ⟨(some 59), .mov (.t 58), none⟩,
      ⟨(some 60), .mov (.t 12), (some (59, false))⟩,
      ⟨(some 61), .bin .neq .no (.t 60) (.c (.int .i64 0)), (some (59, false))⟩,
      ⟨(some 62), .pick (.t 59) (.c (.bool true)) (.t 61), none⟩,
      ⟨(some 63), .mov (.t 62), none⟩,
      ⟨(some 64), .mov (.t 11), (some (63, false))⟩,
      ⟨(some 65), .len false (.t 64), (some (63, false))⟩,
      ⟨(some 66), .bin .gtr .no (.t 65) (.c (.int .i64 5)), (some (63, false))⟩,
      ⟨(some 67), .pick (.t 63) (.c (.bool true)) (.t 66), none⟩,
      ⟨(some 68), .mov (.t 67), none⟩,
      ⟨(some 69), .mov (.t 11), (some (68, false))⟩,
      ⟨(some 70), .call k_num_True [(.t 69)], (some (68, false))⟩,
      ⟨(some 71), .mov (.t 8), (some (68, false))⟩,
      ⟨(some 72), .bin .neq .no (.t 71) (.c (.int .i64 0)), (some (68, false))⟩,
      ⟨(some 73), .bin .neq .bool (.t 70) (.t 72), (some (68, false))⟩,
      ⟨(some 74), .pick (.t 68) (.c (.bool true)) (.t 73), none⟩])
   (.cond (.t 74)
    (.seq (.ops [⟨(some 6), .mov (.c (.bool false)), none⟩])
     (.ret))
    (.skip)))
  (.seq (.ops [⟨(some 75), .mov (.t 0), none⟩,
     ⟨(some 76), .bin .eql .no (.t 75) (.c (.int .u8 145)), none⟩,
     ⟨(some 77), .mov (.t 76), none⟩,
     ⟨(some 78), .mov (.t 0), (some (77, false))⟩,
     ⟨(some 79), .bin .eql .no (.t 78) (.c (.int .u8 146)), (some (77, false))⟩,
     ⟨(some 80), .pick (.t 77) (.c (.bool true)) (.t 79), none⟩,
     ⟨(some 81), .mov (.t 80), none⟩,
     ⟨(some 82), .mov (.t 0), (some (81, false))⟩,
     ⟨(some 83), .bin .geq .no (.t 82) (.c (.int .u8 154)), (some (81, false))⟩,
     ⟨(some 84), .mov (.t 83), (some (81, false))⟩,
     ⟨(some 85), .mov (.t 0), (some (84, true))⟩,
     ⟨(some 86), .bin .leq .no (.t 85) (.c (.int .u8 162)), (some (84, true))⟩,
     ⟨(some 87), .pick (.t 84) (.t 86) (.c (.bool false)), (some (81, false))⟩,
     ⟨(some 88), .pick (.t 81) (.c (.bool true)) (.t 87), none⟩,
     ⟨(some 13), .mov (.t 88), none⟩])
  (.seq (.dops 0 [] [(⟨(some 89), .mov (.t 7), none⟩, .L),
     (⟨(some 90), .mov (.t 89), none⟩, .L),
     (⟨(some 91), .mov (.t 13), (some (90, true))⟩, .L),
     (⟨(some 92), .un .not (.t 91), (some (90, true))⟩, .L),
     (⟨(some 93), .mov (.t 92), (some (90, true))⟩, .L),
     (⟨(some 94), .mov (.t 8), (some (93, false))⟩, .L),
     (⟨(some 95), .bin .eql .no (.t 94) (.c (.int .i64 0)), (some (93, false))⟩, .L),
     (⟨(some 96), .mov (.t 95), (some (93, false))⟩, .L),
     (⟨(some 97), .mov (.t 8), (some (96, false))⟩, .L),
     (⟨(some 98), .bin .eql .no (.t 97) (.c (.int .i64 1)), (some (96, false))⟩, .L),
     (⟨(some 99), .pick (.t 96) (.c (.bool true)) (.t 98), (some (93, false))⟩, .L),
     (⟨(some 100), .mov (.t 99), (some (93, false))⟩, .L),
     (⟨(some 101), .mov (.t 11), (some (100, true))⟩, .L),
     (⟨(some 102), .b2s (.t 101), (some (100, true))⟩, .R [] [(0, [])]),
     (⟨(some 103), .mov (.t 8), (some (100, true))⟩, .L),
     (⟨(some 104), .bin .eql .no (.t 103) (.c (.int .i64 1)), (some (100, true))⟩, .L),
     (⟨(some 105), .call k_num_Flag [(.t 104)], (some (100, true))⟩, .B []),
     (⟨(some 106), .b2s (.t 105), (some (100, true))⟩, .R [] []),
     (⟨(some 107), .bin .eql .no (.t 102) (.t 106), (some (100, true))⟩, .L),
     (⟨(some 108), .pick (.t 100) (.t 107) (.c (.bool false)), (some (93, false))⟩, .L),
     (⟨(some 109), .pick (.t 93) (.c (.bool true)) (.t 108), (some (90, true))⟩, .L),
     (⟨(some 110), .pick (.t 90) (.t 109) (.c (.bool false)), none⟩, .L),
     (⟨(some 6), .mov (.t 110), none⟩, .L)])
  (.ret))))))))))⟩
/-- purser/num.One -/
def f_num_One : Fn := ⟨17, [.tmp 4, .tmp 5],
  .seq (.ops [⟨(some 4), .mov (.c (.int .i64 0)), none⟩,
     ⟨(some 5), .mov (.c (.int .i64 0)), none⟩])
  (.seq (.ops [⟨(some 7), .mov (.t 0), none⟩,
     ⟨(some 8), .call k_num_ofOne [(.t 7)], none⟩,
     ⟨(some 6), .mov (.t 8), none⟩])
  (.seq (.seq (.ops [⟨(some 9), .mov (.t 6), none⟩,
      ⟨(some 10), .bin .eql (.ref .f) (.t 9) (.c .nilFn), none⟩])
   (.cond (.t 10)
    (.seq (.ops [⟨(some 4), .mov (.c (.int .i64 0)), none⟩,
        ⟨(some 5), .mov (.c (.int .i64 2)), none⟩])
     (.ret))
    (.skip)))
  (.seq (.seq (.ops [⟨(some 11), .mov (.t 1), none⟩,
      ⟨(some 12), .call k_num_script [(.t 11)], none⟩,
      ⟨(some 13), .un .not (.t 12), none⟩])
   (.cond (.t 13)
    (.seq (.ops [⟨(some 4), .mov (.c (.int .i64 0)), none⟩,
        ⟨(some 5), .mov (.c (.int .i64 110)), none⟩])
     (.ret))
    (.skip)))
  (.seq (.ops [⟨(some 14), .mov (.t 6), none⟩,
     ⟨(some 15), .mov (.t 1), none⟩,
     ⟨(some 16), .callv (.t 14) [(.t 15)], none⟩,
     ⟨(some 4), .mov (.t 16), none⟩,
     ⟨(some 5), .mov (.c (.int .i64 0)), none⟩])
  (.ret)))))⟩
/-- purser/purserref11.One -/
def f_purserref11_One : Fn := ⟨42, [.tmp 4, .tmp 5],
  .seq (.ops [⟨(some 4), .mov (.c (.int .i64 0)), none⟩,
     ⟨(some 5), .mov (.c (.int .i64 0)), none⟩])
  (.seq (.seq (.ops [⟨(some 7), .mov (.t 0), none⟩,
      ⟨(some 8), .call k_purserref11_Arity [(.t 7)], none⟩,
      ⟨(some 9), .bin .neq .no (.t 8) (.c (.int .i64 1)), none⟩])
   (.cond (.t 9)
    (.seq (.ops [⟨(some 4), .mov (.c (.int .i64 0)), none⟩,
        ⟨(some 5), .mov (.c (.int .i64 2)), none⟩])
     (.ret))
    (.skip)))
  (.seq (.ops [⟨(some 10), .mov (.t 1), none⟩,
     ⟨(some 11), .call k_purserref11_fits [(.t 10)], none⟩,
     ⟨(some 6), .mov (.t 11), none⟩])
  (.seq (.seq (.ops [⟨(some 12), .mov (.t 6), none⟩,
      ⟨(some 13), .un .not (.t 12), none⟩])
   (.cond (.t 13)
    (.seq (.ops [⟨(some 4), .mov (.c (.int .i64 0)), none⟩,
        ⟨(some 5), .mov (.c (.int .i64 110)), none⟩])
     (.ret))
    (.skip)))
  (.seq (.seq (.ops [⟨(some 14), .mov (.t 0), none⟩])
   (.block 0 (.seq (.ops [⟨(some 16), .bin .eql .no (.t 14) (.c (.int .u8 139)), none⟩,
       ⟨(some 15), .mov (.t 16), none⟩])
    (.cond (.t 15)
     (.seq (.ops [⟨(some 17), .mov (.t 1), none⟩,
         ⟨(some 18), .bin .add .no (.t 17) (.c (.int .i64 1)), none⟩,
         ⟨(some 4), .mov (.t 18), none⟩,
         ⟨(some 5), .mov (.c (.int .i64 0)), none⟩])
      (.ret))
     (.seq (.ops [⟨(some 20), .bin .eql .no (.t 14) (.c (.int .u8 140)), none⟩,
         ⟨(some 19), .mov (.t 20), none⟩])
      (.cond (.t 19)
       (.seq (.ops [⟨(some 21), .mov (.t 1), none⟩,
           ⟨(some 22), .bin .sub .no (.t 21) (.c (.int .i64 1)), none⟩,
           ⟨(some 4), .mov (.t 22), none⟩,
           ⟨(some 5), .mov (.c (.int .i64 0)), none⟩])
        (.ret))
       (.seq (.ops [⟨(some 24), .bin .eql .no (.t 14) (.c (.int .u8 143)), none⟩,
           ⟨(some 23), .mov (.t 24), none⟩])
        (.cond (.t 23)
         (.seq (.ops [⟨(some 25), .mov (.t 1), none⟩,
             ⟨(some 26), .un .neg (.t 25), none⟩,
             ⟨(some 4), .mov (.t 26), none⟩,
             ⟨(some 5), .mov (.c (.int .i64 0)), none⟩])
          (.ret))
         (.seq (.ops [⟨(some 28), .bin .eql .no (.t 14) (.c (.int .u8 144)), none⟩,
             ⟨(some 27), .mov (.t 28), none⟩])
          (.cond (.t 27)
           (.seq (.seq (.ops [⟨(some 29), .mov (.t 1), none⟩,
                ⟨(some 30), .bin .lss .no (.t 29) (.c (.int .i64 0)), none⟩])
             (.cond (.t 30)
              (.seq (.ops [⟨(some 31), .mov (.t 1), none⟩,
                  ⟨(some 32), .un .neg (.t 31), none⟩,
                  ⟨(some 4), .mov (.t 32), none⟩,
                  ⟨(some 5), .mov (.c (.int .i64 0)), none⟩])
               (.ret))
              (.skip)))
            (.seq (.ops [⟨(some 33), .mov (.t 1), none⟩,
               ⟨(some 4), .mov (.t 33), none⟩,
               ⟨(some 5), .mov (.c (.int .i64 0)), none⟩])
            (.ret)))
           (.seq (.ops [⟨(some 35), .bin .eql .no (.t 14) (.c (.int .u8 145)), none⟩,
               ⟨(some 34), .mov (.t 35), none⟩])
            (.cond (.t 34)
             (.seq (.ops [⟨(some 36), .mov (.t 1), none⟩,
                 ⟨(some 37), .bin .eql .no (.t 36) (.c (.int .i64 0)), none⟩,
                 ⟨(some 38), .call k_purserref11_flag [(.t 37)], none⟩,
                 ⟨(some 4), .mov (.t 38), none⟩,
                 ⟨(some 5), .mov (.c (.int .i64 0)), none⟩])
              (.ret))
             (.skip)))))))))))))
  (.seq (.ops [⟨(some 39), .mov (.t 1), none⟩,
     ⟨(some 40), .bin .neq .no (.t 39) (.c (.int .i64 0)), none⟩,
     ⟨(some 41), .call k_purserref11_flag [(.t 40)], none⟩,
     ⟨(some 4), .mov (.t 41), none⟩,
     ⟨(some 5), .mov (.c (.int .i64 0)), none⟩])
  (.ret))))))⟩
/-- purser/num.Two -/
def f_num_Two : Fn := ⟨25, [.tmp 6, .tmp 7],
  .seq (.ops [⟨(some 6), .mov (.c (.int .i64 0)), none⟩,
     ⟨(some 7), .mov (.c (.int .i64 0)), none⟩])
  (.seq (.ops [⟨(some 9), .mov (.t 0), none⟩,
     ⟨(some 10), .call k_num_ofTwo [(.t 9)], none⟩,
     ⟨(some 8), .mov (.t 10), none⟩])
  (.seq (.seq (.ops [⟨(some 11), .mov (.t 8), none⟩,
      ⟨(some 12), .bin .eql (.ref .f) (.t 11) (.c .nilFn), none⟩])
   (.cond (.t 12)
    (.seq (.ops [⟨(some 6), .mov (.c (.int .i64 0)), none⟩,
        ⟨(some 7), .mov (.c (.int .i64 2)), none⟩])
     (.ret))
    (.skip)))
  (.seq (.seq (.ops [⟨(some 13), .mov (.t 1), none⟩,
      ⟨(some 14), .call k_num_script [(.t 13)], none⟩,
      ⟨(some 15), .un .not (.t 14), none⟩,
      ⟨(some 16), .mov (.t 15), none⟩,
      ⟨(some 17), .mov (.t 2), (some (16, false))⟩,
      ⟨(some 18), .call k_num_script [(.t 17)], (some (16, false))⟩,
      ⟨(some 19), .un .not (.t 18), (some (16, false))⟩,
      ⟨(some 20), .pick (.t 16) (.c (.bool true)) (.t 19), none⟩])
   (.cond (.t 20)
    (.seq (.ops [⟨(some 6), .mov (.c (.int .i64 0)), none⟩,
        ⟨(some 7), .mov (.c (.int .i64 110)), none⟩])
     (.ret))
    (.skip)))
  (.seq (.ops [⟨(some 21), .mov (.t 8), none⟩,
     ⟨(some 22), .mov (.t 1), none⟩,
     ⟨(some 23), .mov (.t 2), none⟩,
     ⟨(some 24), .callv (.t 21) [(.t 22), (.t 23)], none⟩,
     ⟨(some 6), .mov (.t 24), none⟩,
     ⟨(some 7), .mov (.c (.int .i64 0)), none⟩])
  (.ret)))))⟩
/-- purser/purserref11.Two -/
def f_purserref11_Two : Fn := ⟨101, [.tmp 6, .tmp 7],
  .seq (.ops [⟨(some 6), .mov (.c (.int .i64 0)), none⟩,
     ⟨(some 7), .mov (.c (.int .i64 0)), none⟩])
  (.seq (.seq (.ops [⟨(some 10), .mov (.t 0), none⟩,
      ⟨(some 11), .call k_purserref11_Arity [(.t 10)], none⟩,
      ⟨(some 12), .bin .neq .no (.t 11) (.c (.int .i64 2)), none⟩])
   (.cond (.t 12)
    (.seq (.ops [⟨(some 6), .mov (.c (.int .i64 0)), none⟩,
        ⟨(some 7), .mov (.c (.int .i64 2)), none⟩])
     (.ret))
    (.skip)))
  (.seq (.ops [⟨(some 13), .mov (.t 1), none⟩,
     ⟨(some 14), .call k_purserref11_fits [(.t 13)], none⟩,
     ⟨(some 8), .mov (.t 14), none⟩])
  (.seq (.ops [⟨(some 15), .mov (.t 2), none⟩,
     ⟨(some 16), .call k_purserref11_fits [(.t 15)], none⟩,
     ⟨(some 9), .mov (.t 16), none⟩])
  (.seq (.seq (.ops [⟨(some 17), .mov (.t 8), none⟩,
      ⟨(some 18), .un .not (.t 17), none⟩,
      ⟨(some 19), .mov (.t 18), none⟩,
      ⟨(some 20), .mov (.t 9), (some (19, false))⟩,
      ⟨(some 21), .un .not (.t 20), (some (19, false))⟩,
      ⟨(some 22), .pick (.t 19) (.c (.bool true)) (.t 21), none⟩])
   (.cond (.t 22)
    (.seq (.ops [⟨(some 6), .mov (.c (.int .i64 0)), none⟩,
        ⟨(some 7), .mov (.c (.int .i64 110)), none⟩])
     (.ret))
    (.skip)))
  (.seq (.seq (.ops [⟨(some 23), .mov (.t 0), none⟩])
   (.block 0 (.seq (.ops [⟨(some 25), .bin .eql .no (.t 23) (.c (.int .u8 147)), none⟩,
       ⟨(some 24), .mov (.t 25), none⟩])
    (.cond (.t 24)
     (.seq (.ops [⟨(some 26), .mov (.t 1), none⟩,
         ⟨(some 27), .mov (.t 2), none⟩,
         ⟨(some 28), .bin .add .no (.t 26) (.t 27), none⟩,
         ⟨(some 6), .mov (.t 28), none⟩,
         ⟨(some 7), .mov (.c (.int .i64 0)), none⟩])
      (.ret))
     (.seq (.ops [⟨(some 30), .bin .eql .no (.t 23) (.c (.int .u8 148)), none⟩,
         ⟨(some 29), .mov (.t 30), none⟩])
      (.cond (.t 29)
       (.seq (.ops [⟨(some 31), .mov (.t 1), none⟩,
           ⟨(some 32), .mov (.t 2), none⟩,
           ⟨(some 33), .bin .sub .no (.t 31) (.t 32), none⟩,
           ⟨(some 6), .mov (.t 33), none⟩,
           ⟨(some 7), .mov (.c (.int .i64 0)), none⟩])
        (.ret))
       (.seq (.ops [⟨(some 35), .bin .eql .no (.t 23) (.c (.int .u8 154)), none⟩,
           ⟨(some 34), .mov (.t 35), none⟩])
        (.cond (.t 34)
         (.seq (.ops [⟨(some 36), .mov (.t 1), none⟩,
             ⟨(some 37), .bin .neq .no (.t 36) (.c (.int .i64 0)), none⟩,
             ⟨(some 38), .mov (.t 37), none⟩,
             ⟨(some 39), .mov (.t 2), (some (38, true))⟩,
             ⟨(some 40), .bin .neq .no (.t 39) (.c (.int .i64 0)), (some (38, true))⟩,
             ⟨(some 41), .pick (.t 38) (.t 40) (.c (.bool false)), none⟩,
             ⟨(some 42), .call k_purserref11_flag [(.t 41)], none⟩,
             ⟨(some 6), .mov (.t 42), none⟩,
             ⟨(some 7), .mov (.c (.int .i64 0)), none⟩])
          (.ret))
         (.seq (.ops [⟨(some 44), .bin .eql .no (.t 23) (.c (.int .u8 155)), none⟩,
             ⟨(some 43), .mov (.t 44), none⟩])
          (.cond (.t 43)
           (.seq (.ops [⟨(some 45), .mov (.t 1), none⟩,
               ⟨(some 46), .bin .neq .no (.t 45) (.c (.int .i64 0)), none⟩,
               ⟨(some 47), .mov (.t 46), none⟩,
               ⟨(some 48), .mov (.t 2), (some (47, false))⟩,
               ⟨(some 49), .bin .neq .no (.t 48) (.c (.int .i64 0)), (some (47, false))⟩,
               ⟨(some 50), .pick (.t 47) (.c (.bool true)) (.t 49), none⟩,
               ⟨(some 51), .call k_purserref11_flag [(.t 50)], none⟩,
               ⟨(some 6), .mov (.t 51), none⟩,
               ⟨(some 7), .mov (.c (.int .i64 0)), none⟩])
            (.ret))
           (.seq (.seq (.ops [⟨(some 53), .bin .eql .no (.t 23) (.c (.int .u8 156)), none⟩,
                ⟨(some 52), .mov (.t 53), none⟩])
             (.cond (.t 52)
              (.skip)
              (.ops [⟨(some 54), .bin .eql .no (.t 23) (.c (.int .u8 157)), none⟩,
                 ⟨(some 52), .mov (.t 54), none⟩])))
            (.cond (.t 52)
             (.seq (.ops [⟨(some 55), .mov (.t 1), none⟩,
                 ⟨(some 56), .mov (.t 2), none⟩,
                 ⟨(some 57), .bin .eql .no (.t 55) (.t 56), none⟩,
                 ⟨(some 58), .call k_purserref11_flag [(.t 57)], none⟩,
                 ⟨(some 6), .mov (.t 58), none⟩,
                 ⟨(some 7), .mov (.c (.int .i64 0)), none⟩])
              (.ret))
             (.seq (.ops [⟨(some 60), .bin .eql .no (.t 23) (.c (.int .u8 158)), none⟩,
                 ⟨(some 59), .mov (.t 60), none⟩])
              (.cond (.t 59)
               (.seq (.ops [⟨(some 61), .mov (.t 1), none⟩,
                   ⟨(some 62), .mov (.t 2), none⟩,
                   ⟨(some 63), .bin .neq .no (.t 61) (.t 62), none⟩,
                   ⟨(some 64), .call k_purserref11_flag [(.t 63)], none⟩,
                   ⟨(some 6), .mov (.t 64), none⟩,
                   ⟨(some 7), .mov (.c (.int .i64 0)), none⟩])
                (.ret))
               (.seq (.ops [⟨(some 66), .bin .eql .no (.t 23) (.c (.int .u8 159)), none⟩,
                   ⟨(some 65), .mov (.t 66), none⟩])
                (.cond (.t 65)
                 (.seq (.ops [⟨(some 67), .mov (.t 1), none⟩,
                     ⟨(some 68), .mov (.t 2), none⟩,
                     ⟨(some 69), .bin .lss .no (.t 67) (.t 68), none⟩,
                     ⟨(some 70), .call k_purserref11_flag [(.t 69)], none⟩,
                     ⟨(some 6), .mov (.t 70), none⟩,
                     ⟨(some 7), .mov (.c (.int .i64 0)), none⟩])
                  (.ret))
                 (.seq (.ops [⟨(some 72), .bin .eql .no (.t 23) (.c (.int .u8 160)), none⟩,
                     ⟨(some 71), .mov (.t 72), none⟩])
                  (.cond (.t 71)
                   (.seq (.ops [⟨(some 73), .mov (.t 1), none⟩,
                       ⟨(some 74), .mov (.t 2), none⟩,
                       ⟨(some 75), .bin .gtr .no (.t 73) (.t 74), none⟩,
                       ⟨(some 76), .call k_purserref11_flag [(.t 75)], none⟩,
                       ⟨(some 6), .mov (.t 76), none⟩,
                       ⟨(some 7), .mov (.c (.int .i64 0)), none⟩])
                    (.ret))
                   (.seq (.ops [⟨(some 78), .bin .eql .no (.t 23) (.c (.int .u8 161)), none⟩,
                       ⟨(some 77), .mov (.t 78), none⟩])
                    (.cond (.t 77)
                     (.seq (.ops [⟨(some 79), .mov (.t 1), none⟩,
                         ⟨(some 80), .mov (.t 2), none⟩,
                         ⟨(some 81), .bin .leq .no (.t 79) (.t 80), none⟩,
                         ⟨(some 82), .call k_purserref11_flag [(.t 81)], none⟩,
                         ⟨(some 6), .mov (.t 82), none⟩,
                         ⟨(some 7), .mov (.c (.int .i64 0)), none⟩])
                      (.ret))
                     (.seq (.ops [⟨(some 84), .bin .eql .no (.t 23) (.c (.int .u8 162)), none⟩,
                         ⟨(some 83), .mov (.t 84), none⟩])
                      (.cond (.t 83)
                       (.seq (.ops [⟨(some 85), .mov (.t 1), none⟩,
                           ⟨(some 86), .mov (.t 2), none⟩,
                           ⟨(some 87), .bin .geq .no (.t 85) (.t 86), none⟩,
                           ⟨(some 88), .call k_purserref11_flag [(.t 87)], none⟩,
                           ⟨(some 6), .mov (.t 88), none⟩,
                           ⟨(some 7), .mov (.c (.int .i64 0)), none⟩])
                        (.ret))
                       (.seq (.ops [⟨(some 90), .bin .eql .no (.t 23) (.c (.int .u8 163)), none⟩,
                           ⟨(some 89), .mov (.t 90), none⟩])
                        (.cond (.t 89)
                         (.seq (.seq (.ops [⟨(some 91), .mov (.t 1), none⟩,
                              ⟨(some 92), .mov (.t 2), none⟩,
                              ⟨(some 93), .bin .lss .no (.t 91) (.t 92), none⟩])
                           (.cond (.t 93)
                            (.seq (.ops [⟨(some 94), .mov (.t 1), none⟩,
                                ⟨(some 6), .mov (.t 94), none⟩,
                                ⟨(some 7), .mov (.c (.int .i64 0)), none⟩])
                             (.ret))
                            (.skip)))
                          (.seq (.ops [⟨(some 95), .mov (.t 2), none⟩,
                             ⟨(some 6), .mov (.t 95), none⟩,
                             ⟨(some 7), .mov (.c (.int .i64 0)), none⟩])
                          (.ret)))
                         (.skip)))))))))))))))))))))))))
  (.seq (.seq (.ops [⟨(some 96), .mov (.t 1), none⟩,
      ⟨(some 97), .mov (.t 2), none⟩,
      ⟨(some 98), .bin .gtr .no (.t 96) (.t 97), none⟩])
   (.cond (.t 98)
    (.seq (.ops [⟨(some 99), .mov (.t 1), none⟩,
        ⟨(some 6), .mov (.t 99), none⟩,
        ⟨(some 7), .mov (.c (.int .i64 0)), none⟩])
     (.ret))
    (.skip)))
  (.seq (.ops [⟨(some 100), .mov (.t 2), none⟩,
     ⟨(some 6), .mov (.t 100), none⟩,
     ⟨(some 7), .mov (.c (.int .i64 0)), none⟩])
  (.ret))))))))⟩
/-- purser/num.Within -/
def f_num_Within : Fn := ⟨15, [.tmp 6],
  .seq (.ops [⟨(some 6), .mov (.c (.bool false)), none⟩])
  (.seq (.ops [⟨(some 7), .mov (.t 0), none⟩,
     ⟨(some 8), .mov (.t 1), none⟩,
     ⟨(some 9), .bin .geq .no (.t 7) (.t 8), none⟩,
     ⟨(some 10), .mov (.t 9), none⟩,
     ⟨(some 11), .mov (.t 0), (some (10, true))⟩,
     ⟨(some 12), .mov (.t 2), (some (10, true))⟩,
     ⟨(some 13), .bin .lss .no (.t 11) (.t 12), (some (10, true))⟩,
     ⟨(some 14), .pick (.t 10) (.t 13) (.c (.bool false)), none⟩,
     ⟨(some 6), .mov (.t 14), none⟩])
  (.ret))⟩
/-- purser/purserref11.Within -/
def f_purserref11_Within : Fn := ⟨15, [.tmp 6],
  .seq (.ops [⟨(some 6), .mov (.c (.bool false)), none⟩])
  (.seq (.ops [⟨(some 7), .mov (.t 1), none⟩,
     ⟨(some 8), .mov (.t 0), none⟩,
     ⟨(some 9), .bin .leq .no (.t 7) (.t 8), none⟩,
     ⟨(some 10), .mov (.t 9), none⟩,
     ⟨(some 11), .mov (.t 0), (some (10, true))⟩,
     ⟨(some 12), .mov (.t 2), (some (10, true))⟩,
     ⟨(some 13), .bin .lss .no (.t 11) (.t 12), (some (10, true))⟩,
     ⟨(some 14), .pick (.t 10) (.t 13) (.c (.bool false)), none⟩,
     ⟨(some 6), .mov (.t 14), none⟩])
  (.ret))⟩
/-- purser/num.Arity -/
def f_num_Arity : Fn := ⟨14, [.tmp 2],
  .seq (.ops [⟨(some 2), .mov (.c (.int .i64 0)), none⟩])
  (.seq (.block 0 (.seq (.ops [⟨(some 4), .mov (.t 0), none⟩,
       ⟨(some 5), .call k_num_ofOne [(.t 4)], none⟩,
       ⟨(some 6), .bin .neq (.ref .f) (.t 5) (.c .nilFn), none⟩,
       ⟨(some 3), .mov (.t 6), none⟩])
    (.cond (.t 3)
     (.seq (.ops [⟨(some 2), .mov (.c (.int .i64 1)), none⟩])
      (.ret))
     (.seq (.ops [⟨(some 8), .mov (.t 0), none⟩,
         ⟨(some 9), .call k_num_ofTwo [(.t 8)], none⟩,
         ⟨(some 10), .bin .neq (.ref .f) (.t 9) (.c .nilFn), none⟩,
         ⟨(some 7), .mov (.t 10), none⟩])
      (.cond (.t 7)
       (.seq (.ops [⟨(some 2), .mov (.c (.int .i64 2)), none⟩])
        (.ret))
       (.seq (.ops [⟨(some 12), .mov (.t 0), none⟩,
           ⟨(some 13), .bin .eql .no (.t 12) (.c (.int .u8 165)), none⟩,
           ⟨(some 11), .mov (.t 13), none⟩])
        (.cond (.t 11)
         (.seq (.ops [⟨(some 2), .mov (.c (.int .i64 3)), none⟩])
          (.ret))
         (.skip))))))))
  (.seq (.ops [⟨(some 2), .mov (.c (.int .i64 0)), none⟩])
  (.ret)))⟩
/-- purser/purserref11.Arity -/
def f_purserref11_Arity : Fn := ⟨27, [.tmp 2],
  .seq (.ops [⟨(some 2), .mov (.c (.int .i64 0)), none⟩])
  (.seq (.seq (.ops [⟨(some 3), .mov (.t 0), none⟩])
   (.block 0 (.seq (.seq (.ops [⟨(some 5), .bin .eql .no (.t 3) (.c (.int .u8 139)), none⟩,
        ⟨(some 4), .mov (.t 5), none⟩])
     (.cond (.t 4)
      (.skip)
      (.seq (.ops [⟨(some 6), .bin .eql .no (.t 3) (.c (.int .u8 140)), none⟩,
          ⟨(some 4), .mov (.t 6), none⟩])
       (.cond (.t 4)
        (.skip)
        (.seq (.ops [⟨(some 7), .bin .eql .no (.t 3) (.c (.int .u8 143)), none⟩,
            ⟨(some 4), .mov (.t 7), none⟩])
         (.cond (.t 4)
          (.skip)
          (.seq (.ops [⟨(some 8), .bin .eql .no (.t 3) (.c (.int .u8 144)), none⟩,
              ⟨(some 4), .mov (.t 8), none⟩])
           (.cond (.t 4)
            (.skip)
            (.seq (.ops [⟨(some 9), .bin .eql .no (.t 3) (.c (.int .u8 145)), none⟩,
                ⟨(some 4), .mov (.t 9), none⟩])
             (.cond (.t 4)
              (.skip)
              (.ops [⟨(some 10), .bin .eql .no (.t 3) (.c (.int .u8 146)), none⟩,
                 ⟨(some 4), .mov (.t 10), none⟩])))))))))))
    (.cond (.t 4)
     (.seq (.ops [⟨(some 2), .mov (.c (.int .i64 1)), none⟩])
      (.ret))
     (.seq (.seq (.ops [⟨(some 12), .bin .eql .no (.t 3) (.c (.int .u8 147)), none⟩,
          ⟨(some 11), .mov (.t 12), none⟩])
       (.cond (.t 11)
        (.skip)
        (.seq (.ops [⟨(some 13), .bin .eql .no (.t 3) (.c (.int .u8 148)), none⟩,
            ⟨(some 11), .mov (.t 13), none⟩])
         (.cond (.t 11)
          (.skip)
          (.seq (.ops [⟨(some 14), .bin .eql .no (.t 3) (.c (.int .u8 154)), none⟩,
              ⟨(some 11), .mov (.t 14), none⟩])
           (.cond (.t 11)
            (.skip)
            (.seq (.ops [⟨(some 15), .bin .eql .no (.t 3) (.c (.int .u8 155)), none⟩,
                ⟨(some 11), .mov (.t 15), none⟩])
             (.cond (.t 11)
              (.skip)
              (.seq (.ops [⟨(some 16), .bin .eql .no (.t 3) (.c (.int .u8 156)), none⟩,
                  ⟨(some 11), .mov (.t 16), none⟩])
               (.cond (.t 11)
                (.skip)
                (.seq (.ops [⟨(some 17), .bin .eql .no (.t 3) (.c (.int .u8 157)), none⟩,
                    ⟨(some 11), .mov (.t 17), none⟩])
                 (.cond (.t 11)
                  (.skip)
                  (.seq (.ops [⟨(some 18), .bin .eql .no (.t 3) (.c (.int .u8 158)), none⟩,
                      ⟨(some 11), .mov (.t 18), none⟩])
                   (.cond (.t 11)
                    (.skip)
                    (.seq (.ops [⟨(some 19), .bin .eql .no (.t 3) (.c (.int .u8 159)), none⟩,
                        ⟨(some 11), .mov (.t 19), none⟩])
                     (.cond (.t 11)
                      (.skip)
                      (.seq (.ops [⟨(some 20), .bin .eql .no (.t 3) (.c (.int .u8 160)), none⟩,
                          ⟨(some 11), .mov (.t 20), none⟩])
                       (.cond (.t 11)
                        (.skip)
                        (.seq (.ops [⟨(some 21), .bin .eql .no (.t 3) (.c (.int .u8 161)), none⟩,
                            ⟨(some 11), .mov (.t 21), none⟩])
                         (.cond (.t 11)
                          (.skip)
                          (.seq (.ops [⟨(some 22), .bin .eql .no (.t 3) (.c (.int .u8 162)), none⟩,
                              ⟨(some 11), .mov (.t 22), none⟩])
                           (.cond (.t 11)
                            (.skip)
                            (.seq (.ops [⟨(some 23), .bin .eql .no (.t 3) (.c (.int .u8 163)), none⟩,
                                ⟨(some 11), .mov (.t 23), none⟩])
                             (.cond (.t 11)
                              (.skip)
                              (.ops [⟨(some 24), .bin .eql .no (.t 3) (.c (.int .u8 164)), none⟩,
                                 ⟨(some 11), .mov (.t 24), none⟩])))))))))))))))))))))))))
      (.cond (.t 11)
       (.seq (.ops [⟨(some 2), .mov (.c (.int .i64 2)), none⟩])
        (.ret))
       (.seq (.ops [⟨(some 26), .bin .eql .no (.t 3) (.c (.int .u8 165)), none⟩,
           ⟨(some 25), .mov (.t 26), none⟩])
        (.cond (.t 25)
         (.seq (.ops [⟨(some 2), .mov (.c (.int .i64 3)), none⟩])
          (.ret))
         (.skip)))))))))
  (.seq (.ops [⟨(some 2), .mov (.c (.int .i64 0)), none⟩])
  (.ret)))⟩
/-- purser/num.Encode -/
def f_num_Encode : Fn := ⟨32, [.tmp 2, .tmp 3],
  .seq (.ops [⟨(some 2), .mov (.c (.slice none 0 (some 0) 0)), none⟩,
     ⟨(some 3), .mov (.c (.int .i64 0)), none⟩])
  (.scope (.seq (.seq (.ops [⟨(some 7), .mov (.t 0), none⟩,
       ⟨(some 8), .bin .lss .no (.t 7) (.c (.int .i64 (-549755813887))), none⟩,
       ⟨(some 9), .mov (.t 8), none⟩,
       ⟨(some 10), .mov (.t 0), (some (9, false))⟩,
       ⟨(some 11), .bin .gtr .no (.t 10) (.c (.int .i64 549755813887)), (some (9, false))⟩,
       ⟨(some 12), .pick (.t 9) (.c (.bool true)) (.t 11), none⟩])
    (.cond (.t 12)
     (.seq (.ops [⟨(some 2), .mov (.c (.slice none 0 (some 0) 0)), none⟩,
         ⟨(some 3), .mov (.c (.int .i64 110)), none⟩])
      (.ret))
     (.skip)))
   (.seq (.ops [⟨(some 4), .alloc [(.slice none 0 (some 0) 0)], none⟩])
   (.seq (.skip)
   (.seq (.seq (.ops [⟨(some 13), .mov (.t 0), none⟩,
       ⟨(some 14), .call k_num_integer_size [(.t 13)], none⟩,
       ⟨(some 15), .call k_num_lowFirst [(.t 14)], none⟩])
    (.block 0 (.rangeF (.t 15) [16, 17] (.seq (.ops [⟨(some 5), .mov (.t 16), none⟩])
      (.ops [⟨(some 6), .mov (.t 17), none⟩]))
     (.block 1 (.seq (.seq (.ops [⟨(some 18), .mov (.t 5), none⟩,
           ⟨(some 19), .bin .eql .no (.t 18) (.c (.int .u8 0)), none⟩,
           ⟨(some 20), .mov (.t 19), none⟩,
           ⟨(some 21), .mov (.t 6), (some (20, true))⟩,
           ⟨(some 22), .bin .eql .no (.t 21) (.c (.int .i64 0)), (some (20, true))⟩,
           ⟨(some 23), .pick (.t 20) (.t 22) (.c (.bool false)), none⟩])
        (.cond (.t 23)
         (.exit 0)
         (.skip)))
       (.ops [⟨(some 24), .load none (.t 4), none⟩,
         ⟨(some 25), .mov (.t 5), none⟩,
         ⟨(some 26), .buildS [(.int .u8 0)] 1 1 [(0, 1, (.t 25))], none⟩,
         ⟨(some 27), .append 1 1 (.t 24) (.t 26), none⟩,
         ⟨none, .store 1 (.t 4) (.t 27), none⟩]))))))
   (.seq (.ops [⟨(some 28), .load none (.t 4), none⟩,
      ⟨(some 29), .mov (.t 0), none⟩,
      ⟨(some 30), .bin .lss .no (.t 29) (.c (.int .i64 0)), none⟩,
      ⟨(some 31), .call k_num_signed [(.t 28), (.t 30)], none⟩,
      ⟨(some 2), .mov (.t 31), none⟩,
      ⟨(some 3), .mov (.c (.int .i64 0)), none⟩])
   (.ret)))))))⟩
/-- purser/num.Decode -/
def f_num_Decode : Fn := ⟨26, [.tmp 2, .tmp 3],
  .seq (.ops [⟨(some 2), .mov (.c (.int .i64 0)), none⟩,
     ⟨(some 3), .mov (.c (.int .i64 0)), none⟩])
  (.seq (.seq (.ops [⟨(some 7), .mov (.t 0), none⟩,
      ⟨(some 8), .len false (.t 7), none⟩,
      ⟨(some 9), .bin .gtr .no (.t 8) (.c (.int .i64 4)), none⟩])
   (.cond (.t 9)
    (.seq (.ops [⟨(some 2), .mov (.c (.int .i64 0)), none⟩,
        ⟨(some 3), .mov (.c (.int .i64 110)), none⟩])
     (.ret))
    (.skip)))
  (.seq (.ops [⟨(some 10), .mov (.t 0), none⟩,
     ⟨(some 11), .call k_num_number [(.t 10)], none⟩,
     ⟨(some 4), .mov (.t 11), none⟩])
  (.seq (.seq (.ops [⟨(some 13), .mov (.t 4), none⟩,
      ⟨(some 14), .call k_num_Encode [(.t 13)], none⟩,
      ⟨(some 12), .mov (.t 14), none⟩,
      ⟨(some 15), .ext (.t 12) 0, none⟩,
      ⟨(some 16), .ext (.t 12) 1, none⟩,
      ⟨(some 5), .mov (.t 15), none⟩,
      ⟨(some 6), .mov (.t 16), none⟩])
   (.seq (.ops [⟨(some 17), .mov (.t 6), none⟩,
      ⟨(some 18), .bin .neq .no (.t 17) (.c (.int .i64 0)), none⟩,
      ⟨(some 19), .mov (.t 18), none⟩,
      ⟨(some 20), .mov (.t 5), (some (19, false))⟩,
      ⟨(some 21), .mov (.t 0), (some (19, false))⟩,
      ⟨(some 22), .call k_bytes_Equal [(.t 20), (.t 21)], (some (19, false))⟩,
      ⟨(some 23), .un .not (.t 22), (some (19, false))⟩,
      ⟨(some 24), .pick (.t 19) (.c (.bool true)) (.t 23), none⟩])
   (.cond (.t 24)
    (.seq (.ops [⟨(some 2), .mov (.c (.int .i64 0)), none⟩,
        ⟨(some 3), .mov (.c (.int .i64 110)), none⟩])
     (.ret))
    (.skip))))
  (.seq (.ops [⟨(some 25), .mov (.t 4), none⟩,
     ⟨(some 2), .mov (.t 25), none⟩,
     ⟨(some 3), .mov (.c (.int .i64 0)), none⟩])
  (.ret)))))⟩
/-- purser/num.True -/
def f_num_True : Fn := ⟨22, [.tmp 2],
  .seq (.ops [⟨(some 2), .mov (.c (.bool false)), none⟩])
  (.seq (.seq (.ops [⟨(some 5), .mov (.t 0), none⟩,
      ⟨(some 6), .len false (.t 5), none⟩,
      ⟨(some 7), .mov (.c (.int .i64 0)), none⟩])
   (.block 0 (.loop (.seq (.ops [⟨(some 8), .bin .lss .no (.t 7) (.t 6), none⟩])
     (.seq (.cond (.t 8)
       (.skip)
       (.exit 0))
     (.seq (.block 1 (.seq (.ops [⟨(some 9), .mov (.t 7), none⟩,
          ⟨(some 10), .idxAddrS 1 (.t 5) (.t 7), none⟩,
          ⟨(some 11), .load none (.t 10), none⟩,
          ⟨(some 3), .mov (.t 9), none⟩,
          ⟨(some 4), .mov (.t 11), none⟩])
       (.seq (.seq (.ops [⟨(some 12), .mov (.t 3), none⟩,
           ⟨(some 13), .mov (.t 0), none⟩,
           ⟨(some 14), .len false (.t 13), none⟩,
           ⟨(some 15), .bin .sub .no (.t 14) (.c (.int .i64 1)), none⟩,
           ⟨(some 16), .bin .eql .no (.t 12) (.t 15), none⟩])
        (.cond (.t 16)
         (.ops [⟨(some 17), .mov (.t 4), none⟩,
            ⟨(some 18), .bin .andNot .no (.t 17) (.c (.int .u8 128)), none⟩,
            ⟨(some 4), .mov (.t 18), none⟩])
         (.skip)))
       (.seq (.ops [⟨(some 19), .mov (.t 4), none⟩,
          ⟨(some 20), .bin .neq .no (.t 19) (.c (.int .u8 0)), none⟩])
       (.cond (.t 20)
        (.seq (.ops [⟨(some 2), .mov (.c (.bool true)), none⟩])
         (.ret))
        (.skip))))))
     (.ops [⟨(some 21), .bin .add .no (.t 7) (.c (.int .i64 1)), none⟩,
       ⟨(some 7), .mov (.t 21), none⟩])))))))
  (.seq (.ops [⟨(some 2), .mov (.c (.bool false)), none⟩])
  (.ret)))⟩
/-- purser/purserlaw11.alive -/
def f_purserlaw11_alive : Fn := ⟨26, [.tmp 0],
  .seq (.ops [⟨(some 0), .mov (.c (.bool false)), none⟩])
  (.seq (.ops [⟨(some 1), .call k_purserlaw11_form [(.c (.int .i64 0)), (.c (.str []))], none⟩,
     ⟨(some 2), .mov (.t 1), none⟩,
     ⟨(some 3), .call k_purserlaw11_form [(.c (.int .i64 1)), (.c (.str [1]))], (some (2, true))⟩,
     ⟨(some 4), .pick (.t 2) (.t 3) (.c (.bool false)), none⟩,
     ⟨(some 5), .mov (.t 4), none⟩,
     ⟨(some 6), .call k_purserlaw11_form [(.c (.int .i64 (-1))), (.c (.str [129]))], (some (5, true))⟩,
     ⟨(some 7), .pick (.t 5) (.t 6) (.c (.bool false)), none⟩,
     ⟨(some 8), .mov (.t 7), none⟩,
     ⟨(some 9), .call k_purserlaw11_form [(.c (.int .i64 127)), (.c (.str [127]))], (some (8, true))⟩,
     ⟨(some 10), .pick (.t 8) (.t 9) (.c (.bool false)), none⟩,
     ⟨(some 11), .mov (.t 10), none⟩,
     ⟨(some 12), .call k_purserlaw11_form [(.c (.int .i64 128)), (.c (.str [128, 0]))], (some (11, true))⟩,
     ⟨(some 13), .pick (.t 11) (.t 12) (.c (.bool false)), none⟩,
     ⟨(some 14), .mov (.t 13), none⟩,
     ⟨(some 15), .call k_purserlaw11_form [(.c (.int .i64 (-128))), (.c (.str [128, 128]))], (some (14, true))⟩,
     ⟨(some 16), .pick (.t 14) (.t 15) (.c (.bool false)), none⟩,
     ⟨(some 17), .mov (.t 16), none⟩,
     ⟨(some 18), .call k_purserlaw11_form [(.c (.int .i64 255)), (.c (.str [255, 0]))], (some (17, true))⟩,
     ⟨(some 19), .pick (.t 17) (.t 18) (.c (.bool false)), none⟩,
     ⟨(some 20), .mov (.t 19), none⟩,
     ⟨(some 21), .call k_purserlaw11_form [(.c (.int .i64 256)), (.c (.str [0, 1]))], (some (20, true))⟩,
     ⟨(some 22), .pick (.t 20) (.t 21) (.c (.bool false)), none⟩,
     ⟨(some 23), .mov (.t 22), none⟩,
     ⟨(some 24), .call k_purserlaw11_form [(.c (.int .i64 2147483647)), (.c (.str [255, 255, 255, 127]))], (some (23, true))⟩,
     ⟨(some 25), .pick (.t 23) (.t 24) (.c (.bool false)), none⟩,
     ⟨(some 0), .mov (.t 25), none⟩])
  (.ret))⟩
/-- purser/num.Flag -/
def f_num_Flag : Fn := ⟨6, [.tmp 2],
  .seq (.ops [⟨(some 2), .mov (.c (.slice none 0 (some 0) 0)), none⟩])
  (.seq (.seq (.ops [⟨(some 3), .mov (.t 0), none⟩])
   (.cond (.t 3)
    (.seq (.ops [⟨(some 4), .buildS [(.int .u8 0)] 1 1 [(0, 1, (.c (.int .u8 1)))], none⟩,
        ⟨(some 2), .mov (.t 4), none⟩])
     (.ret))
    (.skip)))
  (.seq (.ops [⟨(some 5), .buildS [] 0 1 [], none⟩,
     ⟨(some 2), .mov (.t 5), none⟩])
  (.ret)))⟩
/-- purser/num.ofOne -/
def f_num_ofOne : Fn := ⟨16, [.tmp 2],
  .seq (.ops [⟨(some 2), .mov (.c .nilFn), none⟩])
  (.seq (.seq (.ops [⟨(some 3), .mov (.t 0), none⟩])
   (.block 0 (.seq (.ops [⟨(some 5), .bin .eql .no (.t 3) (.c (.int .u8 139)), none⟩,
       ⟨(some 4), .mov (.t 5), none⟩])
    (.cond (.t 4)
     (.seq (.ops [⟨(some 2), .mov (.f k_num_integer_next), none⟩])
      (.ret))
     (.seq (.ops [⟨(some 7), .bin .eql .no (.t 3) (.c (.int .u8 140)), none⟩,
         ⟨(some 6), .mov (.t 7), none⟩])
      (.cond (.t 6)
       (.seq (.ops [⟨(some 2), .mov (.f k_num_integer_previous), none⟩])
        (.ret))
       (.seq (.ops [⟨(some 9), .bin .eql .no (.t 3) (.c (.int .u8 143)), none⟩,
           ⟨(some 8), .mov (.t 9), none⟩])
        (.cond (.t 8)
         (.seq (.ops [⟨(some 2), .mov (.f k_num_integer_negated), none⟩])
          (.ret))
         (.seq (.ops [⟨(some 11), .bin .eql .no (.t 3) (.c (.int .u8 144)), none⟩,
             ⟨(some 10), .mov (.t 11), none⟩])
          (.cond (.t 10)
           (.seq (.ops [⟨(some 2), .mov (.f k_num_integer_size), none⟩])
            (.ret))
           (.seq (.ops [⟨(some 13), .bin .eql .no (.t 3) (.c (.int .u8 145)), none⟩,
               ⟨(some 12), .mov (.t 13), none⟩])
            (.cond (.t 12)
             (.seq (.ops [⟨(some 2), .mov (.f k_num_integer_isZero), none⟩])
              (.ret))
             (.seq (.ops [⟨(some 15), .bin .eql .no (.t 3) (.c (.int .u8 146)), none⟩,
                 ⟨(some 14), .mov (.t 15), none⟩])
              (.cond (.t 14)
               (.seq (.ops [⟨(some 2), .mov (.f k_num_integer_isNot), none⟩])
                (.ret))
               (.skip)))))))))))))))
  (.seq (.ops [⟨(some 2), .mov (.c .nilFn), none⟩])
  (.ret)))⟩
/-- purser/num.script -/
def f_num_script : Fn := ⟨9, [.tmp 2],
  .seq (.ops [⟨(some 2), .mov (.c (.bool false)), none⟩])
  (.seq (.ops [⟨(some 3), .mov (.t 0), none⟩,
     ⟨(some 4), .bin .geq .no (.t 3) (.c (.int .i64 (-2147483647))), none⟩,
     ⟨(some 5), .mov (.t 4), none⟩,
     ⟨(some 6), .mov (.t 0), (some (5, true))⟩,
     ⟨(some 7), .bin .leq .no (.t 6) (.c (.int .i64 2147483647)), (some (5, true))⟩,
     ⟨(some 8), .pick (.t 5) (.t 7) (.c (.bool false)), none⟩,
     ⟨(some 2), .mov (.t 8), none⟩])
  (.ret))⟩
/-- purser/purserref11.flag -/
def f_purserref11_flag : Fn := ⟨4, [.tmp 2],
  .seq (.ops [⟨(some 2), .mov (.c (.int .i64 0)), none⟩])
  (.seq (.seq (.ops [⟨(some 3), .mov (.t 0), none⟩])
   (.cond (.t 3)
    (.seq (.ops [⟨(some 2), .mov (.c (.int .i64 1)), none⟩])
     (.ret))
    (.skip)))
  (.seq (.ops [⟨(some 2), .mov (.c (.int .i64 0)), none⟩])
  (.ret)))⟩
/-- purser/purserref11.fits -/
def f_purserref11_fits : Fn := ⟨9, [.tmp 2],
  .seq (.ops [⟨(some 2), .mov (.c (.bool false)), none⟩])
  (.seq (.ops [⟨(some 3), .mov (.t 0), none⟩,
     ⟨(some 4), .bin .geq .no (.t 3) (.c (.int .i64 (-2147483647))), none⟩,
     ⟨(some 5), .mov (.t 4), none⟩,
     ⟨(some 6), .mov (.t 0), (some (5, true))⟩,
     ⟨(some 7), .bin .leq .no (.t 6) (.c (.int .i64 2147483647)), (some (5, true))⟩,
     ⟨(some 8), .pick (.t 5) (.t 7) (.c (.bool false)), none⟩,
     ⟨(some 2), .mov (.t 8), none⟩])
  (.ret))⟩
/-- purser/num.ofTwo -/
def f_num_ofTwo : Fn := ⟨29, [.tmp 2],
  .seq (.ops [⟨(some 2), .mov (.c .nilFn), none⟩])
  (.seq (.seq (.ops [⟨(some 3), .mov (.t 0), none⟩])
   (.block 0 (.seq (.ops [⟨(some 5), .bin .eql .no (.t 3) (.c (.int .u8 147)), none⟩,
       ⟨(some 4), .mov (.t 5), none⟩])
    (.cond (.t 4)
     (.seq (.ops [⟨(some 2), .mov (.f k_num_integer_plus), none⟩])
      (.ret))
     (.seq (.ops [⟨(some 7), .bin .eql .no (.t 3) (.c (.int .u8 148)), none⟩,
         ⟨(some 6), .mov (.t 7), none⟩])
      (.cond (.t 6)
       (.seq (.ops [⟨(some 2), .mov (.f k_num_integer_minus), none⟩])
        (.ret))
       (.seq (.ops [⟨(some 9), .bin .eql .no (.t 3) (.c (.int .u8 154)), none⟩,
           ⟨(some 8), .mov (.t 9), none⟩])
        (.cond (.t 8)
         (.seq (.ops [⟨(some 2), .mov (.f k_num_integer_and), none⟩])
          (.ret))
         (.seq (.ops [⟨(some 11), .bin .eql .no (.t 3) (.c (.int .u8 155)), none⟩,
             ⟨(some 10), .mov (.t 11), none⟩])
          (.cond (.t 10)
           (.seq (.ops [⟨(some 2), .mov (.f k_num_integer_or), none⟩])
            (.ret))
           (.seq (.seq (.ops [⟨(some 13), .bin .eql .no (.t 3) (.c (.int .u8 156)), none⟩,
                ⟨(some 12), .mov (.t 13), none⟩])
             (.cond (.t 12)
              (.skip)
              (.ops [⟨(some 14), .bin .eql .no (.t 3) (.c (.int .u8 157)), none⟩,
                 ⟨(some 12), .mov (.t 14), none⟩])))
            (.cond (.t 12)
             (.seq (.ops [⟨(some 2), .mov (.f k_num_integer_equals), none⟩])
              (.ret))
             (.seq (.ops [⟨(some 16), .bin .eql .no (.t 3) (.c (.int .u8 158)), none⟩,
                 ⟨(some 15), .mov (.t 16), none⟩])
              (.cond (.t 15)
               (.seq (.ops [⟨(some 2), .mov (.f k_num_integer_differs), none⟩])
                (.ret))
               (.seq (.ops [⟨(some 18), .bin .eql .no (.t 3) (.c (.int .u8 159)), none⟩,
                   ⟨(some 17), .mov (.t 18), none⟩])
                (.cond (.t 17)
                 (.seq (.ops [⟨(some 2), .mov (.f k_num_integer_less), none⟩])
                  (.ret))
                 (.seq (.ops [⟨(some 20), .bin .eql .no (.t 3) (.c (.int .u8 160)), none⟩,
                     ⟨(some 19), .mov (.t 20), none⟩])
                  (.cond (.t 19)
                   (.seq (.ops [⟨(some 2), .mov (.f k_num_integer_greater), none⟩])
                    (.ret))
                   (.seq (.ops [⟨(some 22), .bin .eql .no (.t 3) (.c (.int .u8 161)), none⟩,
                       ⟨(some 21), .mov (.t 22), none⟩])
                    (.cond (.t 21)
                     (.seq (.ops [⟨(some 2), .mov (.f k_num_integer_atMost), none⟩])
                      (.ret))
                     (.seq (.ops [⟨(some 24), .bin .eql .no (.t 3) (.c (.int .u8 162)), none⟩,
                         ⟨(some 23), .mov (.t 24), none⟩])
                      (.cond (.t 23)
                       (.seq (.ops [⟨(some 2), .mov (.f k_num_integer_atLeast), none⟩])
                        (.ret))
                       (.seq (.ops [⟨(some 26), .bin .eql .no (.t 3) (.c (.int .u8 163)), none⟩,
                           ⟨(some 25), .mov (.t 26), none⟩])
                        (.cond (.t 25)
                         (.seq (.ops [⟨(some 2), .mov (.f k_num_integer_smaller), none⟩])
                          (.ret))
                         (.seq (.ops [⟨(some 28), .bin .eql .no (.t 3) (.c (.int .u8 164)), none⟩,
                             ⟨(some 27), .mov (.t 28), none⟩])
                          (.cond (.t 27)
                           (.seq (.ops [⟨(some 2), .mov (.f k_num_integer_larger), none⟩])
                            (.ret))
                           (.skip)))))))))))))))))))))))))))
  (.seq (.ops [⟨(some 2), .mov (.c .nilFn), none⟩])
  (.ret)))⟩
/-- purser/num.lowFirst -/
def f_num_lowFirst : Fn := ⟨4, [.tmp 2],
  .seq (.ops [⟨(some 1), .box (.t 0), none⟩,
     ⟨(some 2), .mov (.c .nilFn), none⟩])
  (.seq (.ops [⟨(some 3), .mkfn k_num_lowFirst_1 [] [(.t 1)], none⟩,
     ⟨(some 2), .mov (.t 3), none⟩])
  (.ret))⟩
/-- (purser/num.integer).size -/
def f_num_integer_size : Fn := ⟨7, [.tmp 2],
  .seq (.ops [⟨(some 2), .mov (.c (.int .i64 0)), none⟩])
  (.seq (.ops [⟨(some 3), .mov (.t 0), none⟩,
     ⟨(some 4), .mov (.t 0), none⟩,
     ⟨(some 5), .un .neg (.t 4), none⟩,
     ⟨(some 6), .minmax false [(.t 3), (.t 5)], none⟩,
     ⟨(some 2), .mov (.t 6), none⟩])
  (.ret))⟩
/-- purser/num.signed -/
def f_num_signed : Fn := ⟨30, [.tmp 4],
  .seq (.ops [⟨(some 4), .mov (.c (.slice none 0 (some 0) 0)), none⟩])
  (.seq (.seq (.ops [⟨(some 5), .mov (.t 0), none⟩,
      ⟨(some 6), .len false (.t 5), none⟩,
      ⟨(some 7), .bin .eql .no (.t 6) (.c (.int .i64 0)), none⟩])
   (.cond (.t 7)
    (.seq (.ops [⟨(some 8), .mov (.t 0), none⟩,
        ⟨(some 4), .mov (.t 8), none⟩])
     (.ret))
    (.skip)))
  (.seq (.seq (.ops [⟨(some 9), .mov (.t 0), none⟩,
      ⟨(some 10), .mov (.t 0), none⟩,
      ⟨(some 11), .len false (.t 10), none⟩,
      ⟨(some 12), .bin .sub .no (.t 11) (.c (.int .i64 1)), none⟩,
      ⟨(some 13), .idxAddrS 1 (.t 9) (.t 12), none⟩,
      ⟨(some 14), .load none (.t 13), none⟩,
      ⟨(some 15), .bin .and .no (.t 14) (.c (.int .u8 128)), none⟩,
      ⟨(some 16), .bin .neq .no (.t 15) (.c (.int .u8 0)), none⟩])
   (.cond (.t 16)
    (.ops [⟨(some 17), .mov (.t 0), none⟩,
       ⟨(some 18), .buildS [(.int .u8 0)] 1 1 [(0, 1, (.c (.int .u8 0)))], none⟩,
       ⟨(some 19), .append 1 1 (.t 17) (.t 18), none⟩,
       ⟨(some 0), .mov (.t 19), none⟩])
    (.skip)))
  (.seq (.seq (.ops [⟨(some 20), .mov (.t 1), none⟩])
   (.cond (.t 20)
    (.ops [⟨(some 21), .mov (.t 0), none⟩,
       ⟨(some 22), .mov (.t 0), none⟩,
       ⟨(some 23), .len false (.t 22), none⟩,
       ⟨(some 24), .bin .sub .no (.t 23) (.c (.int .i64 1)), none⟩,
       ⟨(some 25), .idxAddrS 1 (.t 21) (.t 24), none⟩,
       ⟨(some 26), .load none (.t 25), none⟩,
       ⟨(some 27), .bin .or .no (.t 26) (.c (.int .u8 128)), none⟩,
       ⟨(some 28), .idxAddrS 1 (.t 21) (.t 24), none⟩,
       ⟨none, .store 1 (.t 28) (.t 27), none⟩])
    (.skip)))
  (.seq (.ops [⟨(some 29), .mov (.t 0), none⟩,
     ⟨(some 4), .mov (.t 29), none⟩])
  (.ret)))))⟩
/-- purser/num.number -/
def f_num_number : Fn := ⟨36, [.tmp 2],
  .seq (.ops [⟨(some 2), .mov (.c (.int .i64 0)), none⟩])
  (.seq (.ops [⟨(some 3), .mov (.c (.int .i64 0)), none⟩,
     ⟨(some 4), .mov (.c (.bool false)), none⟩])
  (.seq (.seq (.ops [⟨(some 7), .mov (.t 0), none⟩,
      ⟨(some 8), .len false (.t 7), none⟩,
      ⟨(some 9), .mov (.c (.int .i64 0)), none⟩])
   (.block 0 (.loop (.seq (.ops [⟨(some 10), .bin .lss .no (.t 9) (.t 8), none⟩])
     (.seq (.cond (.t 10)
       (.skip)
       (.exit 0))
     (.seq (.block 1 (.seq (.ops [⟨(some 11), .mov (.t 9), none⟩,
          ⟨(some 12), .idxAddrS 1 (.t 7) (.t 9), none⟩,
          ⟨(some 13), .load none (.t 12), none⟩,
          ⟨(some 5), .mov (.t 11), none⟩,
          ⟨(some 6), .mov (.t 13), none⟩])
       (.seq (.seq (.ops [⟨(some 14), .mov (.t 5), none⟩,
           ⟨(some 15), .mov (.t 0), none⟩,
           ⟨(some 16), .len false (.t 15), none⟩,
           ⟨(some 17), .bin .sub .no (.t 16) (.c (.int .i64 1)), none⟩,
           ⟨(some 18), .bin .eql .no (.t 14) (.t 17), none⟩])
        (.cond (.t 18)
         (.seq (.ops [⟨(some 19), .mov (.t 6), none⟩,
             ⟨(some 20), .bin .and .no (.t 19) (.c (.int .u8 128)), none⟩,
             ⟨(some 21), .bin .neq .no (.t 20) (.c (.int .u8 0)), none⟩,
             ⟨(some 4), .mov (.t 21), none⟩])
          (.ops [⟨(some 22), .mov (.t 6), none⟩,
            ⟨(some 23), .bin .andNot .no (.t 22) (.c (.int .u8 128)), none⟩,
            ⟨(some 6), .mov (.t 23), none⟩]))
         (.skip)))
       (.ops [⟨(some 24), .mov (.t 3), none⟩,
         ⟨(some 25), .mov (.t 6), none⟩,
         ⟨(some 26), .conv .i64 (.t 25), none⟩,
         ⟨(some 27), .mov (.t 5), none⟩,
         ⟨(some 28), .bin .mul .no (.c (.int .i64 8)) (.t 27), none⟩,
         ⟨(some 29), .bin .shl .no (.t 26) (.t 28), none⟩,
         ⟨(some 30), .bin .or .no (.t 24) (.t 29), none⟩,
         ⟨(some 3), .mov (.t 30), none⟩]))))
     (.ops [⟨(some 31), .bin .add .no (.t 9) (.c (.int .i64 1)), none⟩,
       ⟨(some 9), .mov (.t 31), none⟩])))))))
  (.seq (.seq (.ops [⟨(some 32), .mov (.t 4), none⟩])
   (.cond (.t 32)
    (.seq (.ops [⟨(some 33), .mov (.t 3), none⟩,
        ⟨(some 34), .un .neg (.t 33), none⟩,
        ⟨(some 2), .mov (.t 34), none⟩])
     (.ret))
    (.skip)))
  (.seq (.ops [⟨(some 35), .mov (.t 3), none⟩,
     ⟨(some 2), .mov (.t 35), none⟩])
  (.ret)))))⟩
/-- bytes.Equal -/
def f_bytes_Equal : Fn := ⟨10, [.tmp 4],
  .seq (.ops [⟨(some 4), .mov (.c (.bool false)), none⟩])
  (.seq (.ops [⟨(some 5), .mov (.t 0), none⟩,
     ⟨(some 6), .b2s (.t 5), none⟩,
     ⟨(some 7), .mov (.t 1), none⟩,
     ⟨(some 8), .b2s (.t 7), none⟩,
     ⟨(some 9), .bin .eql .no (.t 6) (.t 8), none⟩,
     ⟨(some 4), .mov (.t 9), none⟩])
  (.ret))⟩
/-- purser/purserlaw11.form -/
def f_purserlaw11_form : Fn := ⟨37, [.tmp 4],
  .seq (.ops [⟨(some 4), .mov (.c (.bool false)), none⟩])
  (.seq (.ops [⟨(some 10), .mov (.t 0), none⟩,
     ⟨(some 11), .call k_num_Encode [(.t 10)], none⟩,
     ⟨(some 9), .mov (.t 11), none⟩,
     ⟨(some 12), .ext (.t 9) 0, none⟩,
     ⟨(some 13), .ext (.t 9) 1, none⟩,
     ⟨(some 5), .mov (.t 12), none⟩,
     ⟨(some 6), .mov (.t 13), none⟩])
  (.seq (.ops [⟨(some 15), .mov (.t 1), none⟩,
     ⟨(some 16), .s2b (.t 15), none⟩,
     ⟨(some 17), .call k_num_Decode [(.t 16)], none⟩,
     ⟨(some 14), .mov (.t 17), none⟩,
     ⟨(some 18), .ext (.t 14) 0, none⟩,
     ⟨(some 19), .ext (.t 14) 1, none⟩,
     ⟨(some 7), .mov (.t 18), none⟩,
     ⟨(some 8), .mov (.t 19), none⟩])
  (.seq (.ops [⟨(some 20), .mov (.t 6), none⟩,
     ⟨(some 21), .bin .eql .no (.t 20) (.c (.int .i64 0)), none⟩,
     ⟨(some 22), .mov (.t 21), none⟩,
     ⟨(some 23), .mov (.t 5), (some (22, true))⟩,
     ⟨(some 24), .b2s (.t 23), (some (22, true))⟩,
     ⟨(some 25), .mov (.t 1), (some (22, true))⟩,
     ⟨(some 26), .bin .eql .no (.t 24) (.t 25), (some (22, true))⟩,
     ⟨(some 27), .pick (.t 22) (.t 26) (.c (.bool false)), none⟩,
     ⟨(some 28), .mov (.t 27), none⟩,
     ⟨(some 29), .mov (.t 8), (some (28, true))⟩,
     ⟨(some 30), .bin .eql .no (.t 29) (.c (.int .i64 0)), (some (28, true))⟩,
     ⟨(some 31), .pick (.t 28) (.t 30) (.c (.bool false)), none⟩,
     ⟨(some 32), .mov (.t 31), none⟩,
     ⟨(some 33), .mov (.t 7), (some (32, true))⟩,
     ⟨(some 34), .mov (.t 0), (some (32, true))⟩,
     ⟨(some 35), .bin .eql .no (.t 33) (.t 34), (some (32, true))⟩,
     ⟨(some 36), .pick (.t 32) (.t 35) (.c (.bool false)), none⟩,
     ⟨(some 4), .mov (.t 36), none⟩])
  (.ret))))⟩
/-- (purser/num.integer).next -/
def f_num_integer_next : Fn := ⟨5, [.tmp 2],
  .seq (.ops [⟨(some 2), .mov (.c (.int .i64 0)), none⟩])
  (.seq (.ops [⟨(some 3), .mov (.t 0), none⟩,
     ⟨(some 4), .bin .add .no (.t 3) (.c (.int .i64 1)), none⟩,
     ⟨(some 2), .mov (.t 4), none⟩])
  (.ret))⟩
/-- (purser/num.integer).previous -/
def f_num_integer_previous : Fn := ⟨5, [.tmp 2],
  .seq (.ops [⟨(some 2), .mov (.c (.int .i64 0)), none⟩])
  (.seq (.ops [⟨(some 3), .mov (.t 0), none⟩,
     ⟨(some 4), .bin .sub .no (.t 3) (.c (.int .i64 1)), none⟩,
     ⟨(some 2), .mov (.t 4), none⟩])
  (.ret))⟩
/-- (purser/num.integer).negated -/
def f_num_integer_negated : Fn := ⟨5, [.tmp 2],
  .seq (.ops [⟨(some 2), .mov (.c (.int .i64 0)), none⟩])
  (.seq (.ops [⟨(some 3), .mov (.t 0), none⟩,
     ⟨(some 4), .un .neg (.t 3), none⟩,
     ⟨(some 2), .mov (.t 4), none⟩])
  (.ret))⟩
/-- (purser/num.integer).isZero -/
def f_num_integer_isZero : Fn := ⟨6, [.tmp 2],
  .seq (.ops [⟨(some 2), .mov (.c (.int .i64 0)), none⟩])
  (.seq (.ops [⟨(some 3), .mov (.t 0), none⟩,
     ⟨(some 4), .bin .eql .no (.t 3) (.c (.int .i64 0)), none⟩,
     ⟨(some 5), .call k_num_flag [(.t 4)], none⟩,
     ⟨(some 2), .mov (.t 5), none⟩])
  (.ret))⟩
/-- (purser/num.integer).isNot -/
def f_num_integer_isNot : Fn := ⟨6, [.tmp 2],
  .seq (.ops [⟨(some 2), .mov (.c (.int .i64 0)), none⟩])
  (.seq (.ops [⟨(some 3), .mov (.t 0), none⟩,
     ⟨(some 4), .bin .neq .no (.t 3) (.c (.int .i64 0)), none⟩,
     ⟨(some 5), .call k_num_flag [(.t 4)], none⟩,
     ⟨(some 2), .mov (.t 5), none⟩])
  (.ret))⟩
/-- (purser/num.integer).plus -/
def f_num_integer_plus : Fn := ⟨8, [.tmp 4],
  .seq (.ops [⟨(some 4), .mov (.c (.int .i64 0)), none⟩])
  (.seq (.ops [⟨(some 5), .mov (.t 0), none⟩,
     ⟨(some 6), .mov (.t 1), none⟩,
     ⟨(some 7), .bin .add .no (.t 5) (.t 6), none⟩,
     ⟨(some 4), .mov (.t 7), none⟩])
  (.ret))⟩
/-- (purser/num.integer).minus -/
def f_num_integer_minus : Fn := ⟨8, [.tmp 4],
  .seq (.ops [⟨(some 4), .mov (.c (.int .i64 0)), none⟩])
  (.seq (.ops [⟨(some 5), .mov (.t 0), none⟩,
     ⟨(some 6), .mov (.t 1), none⟩,
     ⟨(some 7), .bin .sub .no (.t 5) (.t 6), none⟩,
     ⟨(some 4), .mov (.t 7), none⟩])
  (.ret))⟩
/-- (purser/num.integer).and -/
def f_num_integer_and : Fn := ⟨12, [.tmp 4],
  .seq (.ops [⟨(some 4), .mov (.c (.int .i64 0)), none⟩])
  (.seq (.ops [⟨(some 5), .mov (.t 0), none⟩,
     ⟨(some 6), .bin .neq .no (.t 5) (.c (.int .i64 0)), none⟩,
     ⟨(some 7), .mov (.t 6), none⟩,
     ⟨(some 8), .mov (.t 1), (some (7, true))⟩,
     ⟨(some 9), .bin .neq .no (.t 8) (.c (.int .i64 0)), (some (7, true))⟩,
     ⟨(some 10), .pick (.t 7) (.t 9) (.c (.bool false)), none⟩,
     ⟨(some 11), .call k_num_flag [(.t 10)], none⟩,
     ⟨(some 4), .mov (.t 11), none⟩])
  (.ret))⟩
/-- (purser/num.integer).or -/
def f_num_integer_or : Fn := ⟨12, [.tmp 4],
  .seq (.ops [⟨(some 4), .mov (.c (.int .i64 0)), none⟩])
  (.seq (.ops [⟨(some 5), .mov (.t 0), none⟩,
     ⟨(some 6), .bin .neq .no (.t 5) (.c (.int .i64 0)), none⟩,
     ⟨(some 7), .mov (.t 6), none⟩,
     ⟨(some 8), .mov (.t 1), (some (7, false))⟩,
     ⟨(some 9), .bin .neq .no (.t 8) (.c (.int .i64 0)), (some (7, false))⟩,
     ⟨(some 10), .pick (.t 7) (.c (.bool true)) (.t 9), none⟩,
     ⟨(some 11), .call k_num_flag [(.t 10)], none⟩,
     ⟨(some 4), .mov (.t 11), none⟩])
  (.ret))⟩
/-- (purser/num.integer).equals -/
def f_num_integer_equals : Fn := ⟨9, [.tmp 4],
  .seq (.ops [⟨(some 4), .mov (.c (.int .i64 0)), none⟩])
  (.seq (.ops [⟨(some 5), .mov (.t 0), none⟩,
     ⟨(some 6), .mov (.t 1), none⟩,
     ⟨(some 7), .bin .eql .no (.t 5) (.t 6), none⟩,
     ⟨(some 8), .call k_num_flag [(.t 7)], none⟩,
     ⟨(some 4), .mov (.t 8), none⟩])
  (.ret))⟩
/-- (purser/num.integer).differs -/
def f_num_integer_differs : Fn := ⟨9, [.tmp 4],
  .seq (.ops [⟨(some 4), .mov (.c (.int .i64 0)), none⟩])
  (.seq (.ops [⟨(some 5), .mov (.t 0), none⟩,
     ⟨(some 6), .mov (.t 1), none⟩,
     ⟨(some 7), .bin .neq .no (.t 5) (.t 6), none⟩,
     ⟨(some 8), .call k_num_flag [(.t 7)], none⟩,
     ⟨(some 4), .mov (.t 8), none⟩])
  (.ret))⟩
/-- (purser/num.integer).less -/
def f_num_integer_less : Fn := ⟨9, [.tmp 4],
  .seq (.ops [⟨(some 4), .mov (.c (.int .i64 0)), none⟩])
  (.seq (.ops [⟨(some 5), .mov (.t 0), none⟩,
     ⟨(some 6), .mov (.t 1), none⟩,
     ⟨(some 7), .bin .lss .no (.t 5) (.t 6), none⟩,
     ⟨(some 8), .call k_num_flag [(.t 7)], none⟩,
     ⟨(some 4), .mov (.t 8), none⟩])
  (.ret))⟩
/-- (purser/num.integer).greater -/
def f_num_integer_greater : Fn := ⟨9, [.tmp 4],
  .seq (.ops [⟨(some 4), .mov (.c (.int .i64 0)), none⟩])
  (.seq (.ops [⟨(some 5), .mov (.t 0), none⟩,
     ⟨(some 6), .mov (.t 1), none⟩,
     ⟨(some 7), .bin .gtr .no (.t 5) (.t 6), none⟩,
     ⟨(some 8), .call k_num_flag [(.t 7)], none⟩,
     ⟨(some 4), .mov (.t 8), none⟩])
  (.ret))⟩
/-- (purser/num.integer).atMost -/
def f_num_integer_atMost : Fn := ⟨9, [.tmp 4],
  .seq (.ops [⟨(some 4), .mov (.c (.int .i64 0)), none⟩])
  (.seq (.ops [⟨(some 5), .mov (.t 0), none⟩,
     ⟨(some 6), .mov (.t 1), none⟩,
     ⟨(some 7), .bin .leq .no (.t 5) (.t 6), none⟩,
     ⟨(some 8), .call k_num_flag [(.t 7)], none⟩,
     ⟨(some 4), .mov (.t 8), none⟩])
  (.ret))⟩
/-- (purser/num.integer).atLeast -/
def f_num_integer_atLeast : Fn := ⟨9, [.tmp 4],
  .seq (.ops [⟨(some 4), .mov (.c (.int .i64 0)), none⟩])
  (.seq (.ops [⟨(some 5), .mov (.t 0), none⟩,
     ⟨(some 6), .mov (.t 1), none⟩,
     ⟨(some 7), .bin .geq .no (.t 5) (.t 6), none⟩,
     ⟨(some 8), .call k_num_flag [(.t 7)], none⟩,
     ⟨(some 4), .mov (.t 8), none⟩])
  (.ret))⟩
/-- (purser/num.integer).smaller -/
def f_num_integer_smaller : Fn := ⟨8, [.tmp 4],
  .seq (.ops [⟨(some 4), .mov (.c (.int .i64 0)), none⟩])
  (.seq (.ops [⟨(some 5), .mov (.t 0), none⟩,
     ⟨(some 6), .mov (.t 1), none⟩,
     ⟨(some 7), .minmax true [(.t 5), (.t 6)], none⟩,
     ⟨(some 4), .mov (.t 7), none⟩])
  (.ret))⟩
/-- (purser/num.integer).larger -/
def f_num_integer_larger : Fn := ⟨8, [.tmp 4],
  .seq (.ops [⟨(some 4), .mov (.c (.int .i64 0)), none⟩])
  (.seq (.ops [⟨(some 5), .mov (.t 0), none⟩,
     ⟨(some 6), .mov (.t 1), none⟩,
     ⟨(some 7), .minmax false [(.t 5), (.t 6)], none⟩,
     ⟨(some 4), .mov (.t 7), none⟩])
  (.ret))⟩
/-- purser/num.lowFirst$1 -/
def f_num_lowFirst_1 : Fn := ⟨11, [],
  .block 0 (.loop (.seq (.seq (.ops [⟨(some 3), .mov (.t 0), none⟩,
        ⟨(some 4), .load none (.t 1), none⟩,
        ⟨(some 5), .conv .u8 (.t 4), none⟩,
        ⟨(some 6), .load none (.t 1), none⟩,
        ⟨(some 7), .bin .shr .no (.t 6) (.c (.int .u64 8)), none⟩,
        ⟨(some 8), .callv (.t 3) [(.t 5), (.t 7)], none⟩])
     (.cond (.t 8)
      (.skip)
      (.exit 0)))
    (.block 1 (.ops [⟨(some 9), .load none (.t 1), none⟩,
       ⟨(some 10), .bin .shr .no (.t 9) (.c (.int .u64 8)), none⟩,
       ⟨none, .store 1 (.t 1) (.t 10), none⟩]))))⟩
/-- purser/num.flag -/
def f_num_flag : Fn := ⟨4, [.tmp 2],
  .seq (.ops [⟨(some 2), .mov (.c (.int .i64 0)), none⟩])
  (.seq (.seq (.ops [⟨(some 3), .mov (.t 0), none⟩])
   (.cond (.t 3)
    (.seq (.ops [⟨(some 2), .mov (.c (.int .i64 1)), none⟩])
     (.ret))
    (.skip)))
  (.seq (.ops [⟨(some 2), .mov (.c (.int .i64 0)), none⟩])
  (.ret)))⟩


def eAsg : C := (.seq (.ops [⟨(some 5), .mov (.t 16), none⟩])
      (.ops [⟨(some 6), .mov (.t 17), none⟩]))
def eBody : C := (.block 1 (.seq (.seq (.ops [⟨(some 18), .mov (.t 5), none⟩,
           ⟨(some 19), .bin .eql .no (.t 18) (.c (.int .u8 0)), none⟩,
           ⟨(some 20), .mov (.t 19), none⟩,
           ⟨(some 21), .mov (.t 6), (some (20, true))⟩,
           ⟨(some 22), .bin .eql .no (.t 21) (.c (.int .i64 0)), (some (20, true))⟩,
           ⟨(some 23), .pick (.t 20) (.t 22) (.c (.bool false)), none⟩])
        (.cond (.t 23)
         (.exit 0)
         (.skip)))
       (.ops [⟨(some 24), .load none (.t 4), none⟩,
         ⟨(some 25), .mov (.t 5), none⟩,
         ⟨(some 26), .buildS [(.int .u8 0)] 1 1 [(0, 1, (.t 25))], none⟩,
         ⟨(some 27), .append 1 1 (.t 24) (.t 26), none⟩,
         ⟨none, .store 1 (.t 4) (.t 27), none⟩])))
def eLoop : C := (.seq (.seq (.ops [⟨(some 3), .mov (.t 0), none⟩,
        ⟨(some 4), .load none (.t 1), none⟩,
        ⟨(some 5), .conv .u8 (.t 4), none⟩,
        ⟨(some 6), .load none (.t 1), none⟩,
        ⟨(some 7), .bin .shr .no (.t 6) (.c (.int .u64 8)), none⟩,
        ⟨(some 8), .callv (.t 3) [(.t 5), (.t 7)], none⟩])
     (.cond (.t 8)
      (.skip)
      (.exit 0)))
    (.block 1 (.ops [⟨(some 9), .load none (.t 1), none⟩,
       ⟨(some 10), .bin .shr .no (.t 9) (.c (.int .u64 8)), none⟩,
       ⟨none, .store 1 (.t 1) (.t 10), none⟩])))


end Go.Eng
