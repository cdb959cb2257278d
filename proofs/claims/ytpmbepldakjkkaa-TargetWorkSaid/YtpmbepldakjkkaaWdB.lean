/- What the functions of package wide come to: own work. -/
import Derived.Test.YtpmbepldakjkkaaWdA
namespace Go.Eng
open Go
variable {E : Nat → Option Fn}
set_option linter.unusedSimpArgs false
set_option linter.unusedVariables false
def mlo (a b c d : Nat) : Nat := (a * b + c + d) % 18446744073709551616
def mhi (a b c d : Nat) : Nat := (a * b + c + d) / 18446744073709551616 % 18446744073709551616
theorem mlo_lt (a b c d : Nat) : mlo a b c d < 18446744073709551616 := Nat.mod_lt _ (Nat.succ_pos _)
theorem mhi_lt (a b c d : Nat) : mhi a b c d < 18446744073709551616 := Nat.mod_lt _ (Nat.succ_pos _)
theorem mlohi (a b c d : Nat) (ha : a < 18446744073709551616) (hb : b < 18446744073709551616) (hc : c < 18446744073709551616) (hd : d < 18446744073709551616) : mlo a b c d + 18446744073709551616 * mhi a b c d = a * b + c + d := by
  have m : a * b ≤ 18446744073709551615 * 18446744073709551615 := Nat.mul_le_mul (by omega) (by omega)
  unfold mlo mhi
  generalize a * b = p at m ⊢
  omega
theorem mA (e0 : E k_math_bits_Mul64 = some f_math_bits_Mul64) (e : E k_wide_mulAdd = some f_wide_mulAdd) (n : Nat) (a b c d : Nat) (ha : a < 18446744073709551616) (hb : b < 18446744073709551616) (hc : c < 18446744073709551616) (hd : d < 18446744073709551616) (h : H) : callN E (n + 4) (.fn k_wide_mulAdd) [.int .u64 (a : Int), .int .u64 (b : Int), .int .u64 (c : Int), .int .u64 (d : Int)] h = some (.tup [.int .u64 (mlo a b c d : Int), .int .u64 (mhi a b c d : Int)], h) := by
  have m : a * b ≤ 18446744073709551615 * 18446744073709551615 := Nat.mul_le_mul (by omega) (by omega)
  have e2 : mhi a b c d = (a * b + c + d) / 18446744073709551616 := by
    unfold mhi
    generalize a * b = p at m ⊢
    omega
  rw [sp_mulAdd e0 e n a b c d ha hb hc hd h, e2]; rfl
theorem mA0 (e0 : E k_math_bits_Mul64 = some f_math_bits_Mul64) (e : E k_wide_mulAdd = some f_wide_mulAdd) (n : Nat) (a b d : Nat) (ha : a < 18446744073709551616) (hb : b < 18446744073709551616) (hd : d < 18446744073709551616) (h : H) : callN E (n + 4) (.fn k_wide_mulAdd) [.int .u64 (a : Int), .int .u64 (b : Int), .int .u64 0, .int .u64 (d : Int)] h = some (.tup [.int .u64 (mlo a b 0 d : Int), .int .u64 (mhi a b 0 d : Int)], h) := mA e0 e n a b 0 d ha hb (by omega) hd h
theorem mA1 (e0 : E k_math_bits_Mul64 = some f_math_bits_Mul64) (e : E k_wide_mulAdd = some f_wide_mulAdd) (n : Nat) (a b c : Nat) (ha : a < 18446744073709551616) (hb : b < 18446744073709551616) (hc : c < 18446744073709551616) (h : H) : callN E (n + 4) (.fn k_wide_mulAdd) [.int .u64 (a : Int), .int .u64 (b : Int), .int .u64 (c : Int), .int .u64 0] h = some (.tup [.int .u64 (mlo a b c 0 : Int), .int .u64 (mhi a b c 0 : Int)], h) := mA e0 e n a b c 0 ha hb hc (by omega) h
theorem mA2 (e0 : E k_math_bits_Mul64 = some f_math_bits_Mul64) (e : E k_wide_mulAdd = some f_wide_mulAdd) (n : Nat) (a b : Nat) (ha : a < 18446744073709551616) (hb : b < 18446744073709551616) (h : H) : callN E (n + 4) (.fn k_wide_mulAdd) [.int .u64 (a : Int), .int .u64 (b : Int), .int .u64 0, .int .u64 0] h = some (.tup [.int .u64 (mlo a b 0 0 : Int), .int .u64 (mhi a b 0 0 : Int)], h) := mA e0 e n a b 0 0 ha hb (by omega) (by omega) h
theorem v_beqi (k : IntKind) (n : Int) : V.beq (.int k n) (.int k n) = true := by
  have hi : ieq n n = true := by rw [ieq_dec]; simp
  simp only [V.beq, hi, kindEq_self, Bool.and_self]
theorem v_beqa (k : IntKind) (a b c d : Int) : V.beq (.agg [.int k a, .int k b, .int k c, .int k d]) (.agg [.int k a, .int k b, .int k c, .int k d]) = true := by
  have hi : ∀ n : Int, ieq n n = true := fun n => by rw [ieq_dec]; simp
  simp only [V.beq, V.beqs, hi, kindEq_self, Bool.and_self]
attribute [irreducible] mlo mhi
theorem rowVal (a b0 b1 b2 b3 p0 p1 p2 p3 : Nat) (A : a < 18446744073709551616) (B0 : b0 < 18446744073709551616) (B1 : b1 < 18446744073709551616) (B2 : b2 < 18446744073709551616) (B3 : b3 < 18446744073709551616) (P0 : p0 < 18446744073709551616) (P1 : p1 < 18446744073709551616) (P2 : p2 < 18446744073709551616) (P3 : p3 < 18446744073709551616) : ((mlo a b0 p0 0) + 18446744073709551616 * ((mlo a b1 p1 (mhi a b0 p0 0)) + 18446744073709551616 * ((mlo a b2 p2 (mhi a b1 p1 (mhi a b0 p0 0))) + 18446744073709551616 * ((mlo a b3 p3 (mhi a b2 p2 (mhi a b1 p1 (mhi a b0 p0 0)))) + 18446744073709551616 * (mhi a b3 p3 (mhi a b2 p2 (mhi a b1 p1 (mhi a b0 p0 0)))))))) = (p0 + 18446744073709551616 * (p1 + 18446744073709551616 * (p2 + 18446744073709551616 * p3))) + a * (b0 + 18446744073709551616 * (b1 + 18446744073709551616 * (b2 + 18446744073709551616 * b3))) := by
  have z : (0 : Nat) < 18446744073709551616 := Nat.succ_pos _
  have q0 := mlohi a b0 p0 0 A B0 P0 z
  have hc0 := mhi_lt a b0 p0 0
  generalize mlo a b0 p0 0 = l0 at *
  generalize mhi a b0 p0 0 = c0 at *
  have q1 := mlohi a b1 p1 c0 A B1 P1 hc0
  have hc1 := mhi_lt a b1 p1 c0
  generalize mlo a b1 p1 c0 = l1 at *
  generalize mhi a b1 p1 c0 = c1 at *
  have q2 := mlohi a b2 p2 c1 A B2 P2 hc1
  have hc2 := mhi_lt a b2 p2 c1
  generalize mlo a b2 p2 c1 = l2 at *
  generalize mhi a b2 p2 c1 = c2 at *
  have q3 := mlohi a b3 p3 c2 A B3 P3 hc2
  have hc3 := mhi_lt a b3 p3 c2
  generalize mlo a b3 p3 c2 = l3 at *
  generalize mhi a b3 p3 c2 = c3 at *
  have Y : a * (b0 + 18446744073709551616 * (b1 + 18446744073709551616 * (b2 + 18446744073709551616 * b3))) = (a * b0 + 18446744073709551616 * (a * b1 + 18446744073709551616 * (a * b2 + 18446744073709551616 * (a * b3)))) := by
    rw [Nat.mul_add, Nat.mul_left_comm a 18446744073709551616, Nat.mul_add a b1, Nat.mul_left_comm a 18446744073709551616, Nat.mul_add a b2, Nat.mul_left_comm a 18446744073709551616]
  rw [Y]
  generalize a * b0 = x0 at *
  generalize a * b1 = x1 at *
  generalize a * b2 = x2 at *
  generalize a * b3 = x3 at *
  clear hc0 hc1 hc2 hc3 A B0 B1 B2 B3 P0 P1 P2 P3 z Y
  omega
theorem mulVal (a0 a1 a2 a3 b0 b1 b2 b3 : Nat) (A0 : a0 < 18446744073709551616) (A1 : a1 < 18446744073709551616) (A2 : a2 < 18446744073709551616) (A3 : a3 < 18446744073709551616) (B0 : b0 < 18446744073709551616) (B1 : b1 < 18446744073709551616) (B2 : b2 < 18446744073709551616) (B3 : b3 < 18446744073709551616) : ((mlo a0 b0 0 0) + 18446744073709551616 * ((mlo a1 b0 (mlo a0 b1 0 (mhi a0 b0 0 0)) 0) + 18446744073709551616 * ((mlo a2 b0 (mlo a1 b1 (mlo a0 b2 0 (mhi a0 b1 0 (mhi a0 b0 0 0))) (mhi a1 b0 (mlo a0 b1 0 (mhi a0 b0 0 0)) 0)) 0) + 18446744073709551616 * ((mlo a3 b0 (mlo a2 b1 (mlo a1 b2 (mlo a0 b3 0 (mhi a0 b2 0 (mhi a0 b1 0 (mhi a0 b0 0 0)))) (mhi a1 b1 (mlo a0 b2 0 (mhi a0 b1 0 (mhi a0 b0 0 0))) (mhi a1 b0 (mlo a0 b1 0 (mhi a0 b0 0 0)) 0))) (mhi a2 b0 (mlo a1 b1 (mlo a0 b2 0 (mhi a0 b1 0 (mhi a0 b0 0 0))) (mhi a1 b0 (mlo a0 b1 0 (mhi a0 b0 0 0)) 0)) 0)) 0) + 18446744073709551616 * ((mlo a3 b1 (mlo a2 b2 (mlo a1 b3 (mhi a0 b3 0 (mhi a0 b2 0 (mhi a0 b1 0 (mhi a0 b0 0 0)))) (mhi a1 b2 (mlo a0 b3 0 (mhi a0 b2 0 (mhi a0 b1 0 (mhi a0 b0 0 0)))) (mhi a1 b1 (mlo a0 b2 0 (mhi a0 b1 0 (mhi a0 b0 0 0))) (mhi a1 b0 (mlo a0 b1 0 (mhi a0 b0 0 0)) 0)))) (mhi a2 b1 (mlo a1 b2 (mlo a0 b3 0 (mhi a0 b2 0 (mhi a0 b1 0 (mhi a0 b0 0 0)))) (mhi a1 b1 (mlo a0 b2 0 (mhi a0 b1 0 (mhi a0 b0 0 0))) (mhi a1 b0 (mlo a0 b1 0 (mhi a0 b0 0 0)) 0))) (mhi a2 b0 (mlo a1 b1 (mlo a0 b2 0 (mhi a0 b1 0 (mhi a0 b0 0 0))) (mhi a1 b0 (mlo a0 b1 0 (mhi a0 b0 0 0)) 0)) 0))) (mhi a3 b0 (mlo a2 b1 (mlo a1 b2 (mlo a0 b3 0 (mhi a0 b2 0 (mhi a0 b1 0 (mhi a0 b0 0 0)))) (mhi a1 b1 (mlo a0 b2 0 (mhi a0 b1 0 (mhi a0 b0 0 0))) (mhi a1 b0 (mlo a0 b1 0 (mhi a0 b0 0 0)) 0))) (mhi a2 b0 (mlo a1 b1 (mlo a0 b2 0 (mhi a0 b1 0 (mhi a0 b0 0 0))) (mhi a1 b0 (mlo a0 b1 0 (mhi a0 b0 0 0)) 0)) 0)) 0)) + 18446744073709551616 * ((mlo a3 b2 (mlo a2 b3 (mhi a1 b3 (mhi a0 b3 0 (mhi a0 b2 0 (mhi a0 b1 0 (mhi a0 b0 0 0)))) (mhi a1 b2 (mlo a0 b3 0 (mhi a0 b2 0 (mhi a0 b1 0 (mhi a0 b0 0 0)))) (mhi a1 b1 (mlo a0 b2 0 (mhi a0 b1 0 (mhi a0 b0 0 0))) (mhi a1 b0 (mlo a0 b1 0 (mhi a0 b0 0 0)) 0)))) (mhi a2 b2 (mlo a1 b3 (mhi a0 b3 0 (mhi a0 b2 0 (mhi a0 b1 0 (mhi a0 b0 0 0)))) (mhi a1 b2 (mlo a0 b3 0 (mhi a0 b2 0 (mhi a0 b1 0 (mhi a0 b0 0 0)))) (mhi a1 b1 (mlo a0 b2 0 (mhi a0 b1 0 (mhi a0 b0 0 0))) (mhi a1 b0 (mlo a0 b1 0 (mhi a0 b0 0 0)) 0)))) (mhi a2 b1 (mlo a1 b2 (mlo a0 b3 0 (mhi a0 b2 0 (mhi a0 b1 0 (mhi a0 b0 0 0)))) (mhi a1 b1 (mlo a0 b2 0 (mhi a0 b1 0 (mhi a0 b0 0 0))) (mhi a1 b0 (mlo a0 b1 0 (mhi a0 b0 0 0)) 0))) (mhi a2 b0 (mlo a1 b1 (mlo a0 b2 0 (mhi a0 b1 0 (mhi a0 b0 0 0))) (mhi a1 b0 (mlo a0 b1 0 (mhi a0 b0 0 0)) 0)) 0)))) (mhi a3 b1 (mlo a2 b2 (mlo a1 b3 (mhi a0 b3 0 (mhi a0 b2 0 (mhi a0 b1 0 (mhi a0 b0 0 0)))) (mhi a1 b2 (mlo a0 b3 0 (mhi a0 b2 0 (mhi a0 b1 0 (mhi a0 b0 0 0)))) (mhi a1 b1 (mlo a0 b2 0 (mhi a0 b1 0 (mhi a0 b0 0 0))) (mhi a1 b0 (mlo a0 b1 0 (mhi a0 b0 0 0)) 0)))) (mhi a2 b1 (mlo a1 b2 (mlo a0 b3 0 (mhi a0 b2 0 (mhi a0 b1 0 (mhi a0 b0 0 0)))) (mhi a1 b1 (mlo a0 b2 0 (mhi a0 b1 0 (mhi a0 b0 0 0))) (mhi a1 b0 (mlo a0 b1 0 (mhi a0 b0 0 0)) 0))) (mhi a2 b0 (mlo a1 b1 (mlo a0 b2 0 (mhi a0 b1 0 (mhi a0 b0 0 0))) (mhi a1 b0 (mlo a0 b1 0 (mhi a0 b0 0 0)) 0)) 0))) (mhi a3 b0 (mlo a2 b1 (mlo a1 b2 (mlo a0 b3 0 (mhi a0 b2 0 (mhi a0 b1 0 (mhi a0 b0 0 0)))) (mhi a1 b1 (mlo a0 b2 0 (mhi a0 b1 0 (mhi a0 b0 0 0))) (mhi a1 b0 (mlo a0 b1 0 (mhi a0 b0 0 0)) 0))) (mhi a2 b0 (mlo a1 b1 (mlo a0 b2 0 (mhi a0 b1 0 (mhi a0 b0 0 0))) (mhi a1 b0 (mlo a0 b1 0 (mhi a0 b0 0 0)) 0)) 0)) 0))) + 18446744073709551616 * ((mlo a3 b3 (mhi a2 b3 (mhi a1 b3 (mhi a0 b3 0 (mhi a0 b2 0 (mhi a0 b1 0 (mhi a0 b0 0 0)))) (mhi a1 b2 (mlo a0 b3 0 (mhi a0 b2 0 (mhi a0 b1 0 (mhi a0 b0 0 0)))) (mhi a1 b1 (mlo a0 b2 0 (mhi a0 b1 0 (mhi a0 b0 0 0))) (mhi a1 b0 (mlo a0 b1 0 (mhi a0 b0 0 0)) 0)))) (mhi a2 b2 (mlo a1 b3 (mhi a0 b3 0 (mhi a0 b2 0 (mhi a0 b1 0 (mhi a0 b0 0 0)))) (mhi a1 b2 (mlo a0 b3 0 (mhi a0 b2 0 (mhi a0 b1 0 (mhi a0 b0 0 0)))) (mhi a1 b1 (mlo a0 b2 0 (mhi a0 b1 0 (mhi a0 b0 0 0))) (mhi a1 b0 (mlo a0 b1 0 (mhi a0 b0 0 0)) 0)))) (mhi a2 b1 (mlo a1 b2 (mlo a0 b3 0 (mhi a0 b2 0 (mhi a0 b1 0 (mhi a0 b0 0 0)))) (mhi a1 b1 (mlo a0 b2 0 (mhi a0 b1 0 (mhi a0 b0 0 0))) (mhi a1 b0 (mlo a0 b1 0 (mhi a0 b0 0 0)) 0))) (mhi a2 b0 (mlo a1 b1 (mlo a0 b2 0 (mhi a0 b1 0 (mhi a0 b0 0 0))) (mhi a1 b0 (mlo a0 b1 0 (mhi a0 b0 0 0)) 0)) 0)))) (mhi a3 b2 (mlo a2 b3 (mhi a1 b3 (mhi a0 b3 0 (mhi a0 b2 0 (mhi a0 b1 0 (mhi a0 b0 0 0)))) (mhi a1 b2 (mlo a0 b3 0 (mhi a0 b2 0 (mhi a0 b1 0 (mhi a0 b0 0 0)))) (mhi a1 b1 (mlo a0 b2 0 (mhi a0 b1 0 (mhi a0 b0 0 0))) (mhi a1 b0 (mlo a0 b1 0 (mhi a0 b0 0 0)) 0)))) (mhi a2 b2 (mlo a1 b3 (mhi a0 b3 0 (mhi a0 b2 0 (mhi a0 b1 0 (mhi a0 b0 0 0)))) (mhi a1 b2 (mlo a0 b3 0 (mhi a0 b2 0 (mhi a0 b1 0 (mhi a0 b0 0 0)))) (mhi a1 b1 (mlo a0 b2 0 (mhi a0 b1 0 (mhi a0 b0 0 0))) (mhi a1 b0 (mlo a0 b1 0 (mhi a0 b0 0 0)) 0)))) (mhi a2 b1 (mlo a1 b2 (mlo a0 b3 0 (mhi a0 b2 0 (mhi a0 b1 0 (mhi a0 b0 0 0)))) (mhi a1 b1 (mlo a0 b2 0 (mhi a0 b1 0 (mhi a0 b0 0 0))) (mhi a1 b0 (mlo a0 b1 0 (mhi a0 b0 0 0)) 0))) (mhi a2 b0 (mlo a1 b1 (mlo a0 b2 0 (mhi a0 b1 0 (mhi a0 b0 0 0))) (mhi a1 b0 (mlo a0 b1 0 (mhi a0 b0 0 0)) 0)) 0)))) (mhi a3 b1 (mlo a2 b2 (mlo a1 b3 (mhi a0 b3 0 (mhi a0 b2 0 (mhi a0 b1 0 (mhi a0 b0 0 0)))) (mhi a1 b2 (mlo a0 b3 0 (mhi a0 b2 0 (mhi a0 b1 0 (mhi a0 b0 0 0)))) (mhi a1 b1 (mlo a0 b2 0 (mhi a0 b1 0 (mhi a0 b0 0 0))) (mhi a1 b0 (mlo a0 b1 0 (mhi a0 b0 0 0)) 0)))) (mhi a2 b1 (mlo a1 b2 (mlo a0 b3 0 (mhi a0 b2 0 (mhi a0 b1 0 (mhi a0 b0 0 0)))) (mhi a1 b1 (mlo a0 b2 0 (mhi a0 b1 0 (mhi a0 b0 0 0))) (mhi a1 b0 (mlo a0 b1 0 (mhi a0 b0 0 0)) 0))) (mhi a2 b0 (mlo a1 b1 (mlo a0 b2 0 (mhi a0 b1 0 (mhi a0 b0 0 0))) (mhi a1 b0 (mlo a0 b1 0 (mhi a0 b0 0 0)) 0)) 0))) (mhi a3 b0 (mlo a2 b1 (mlo a1 b2 (mlo a0 b3 0 (mhi a0 b2 0 (mhi a0 b1 0 (mhi a0 b0 0 0)))) (mhi a1 b1 (mlo a0 b2 0 (mhi a0 b1 0 (mhi a0 b0 0 0))) (mhi a1 b0 (mlo a0 b1 0 (mhi a0 b0 0 0)) 0))) (mhi a2 b0 (mlo a1 b1 (mlo a0 b2 0 (mhi a0 b1 0 (mhi a0 b0 0 0))) (mhi a1 b0 (mlo a0 b1 0 (mhi a0 b0 0 0)) 0)) 0)) 0)))) + 18446744073709551616 * (mhi a3 b3 (mhi a2 b3 (mhi a1 b3 (mhi a0 b3 0 (mhi a0 b2 0 (mhi a0 b1 0 (mhi a0 b0 0 0)))) (mhi a1 b2 (mlo a0 b3 0 (mhi a0 b2 0 (mhi a0 b1 0 (mhi a0 b0 0 0)))) (mhi a1 b1 (mlo a0 b2 0 (mhi a0 b1 0 (mhi a0 b0 0 0))) (mhi a1 b0 (mlo a0 b1 0 (mhi a0 b0 0 0)) 0)))) (mhi a2 b2 (mlo a1 b3 (mhi a0 b3 0 (mhi a0 b2 0 (mhi a0 b1 0 (mhi a0 b0 0 0)))) (mhi a1 b2 (mlo a0 b3 0 (mhi a0 b2 0 (mhi a0 b1 0 (mhi a0 b0 0 0)))) (mhi a1 b1 (mlo a0 b2 0 (mhi a0 b1 0 (mhi a0 b0 0 0))) (mhi a1 b0 (mlo a0 b1 0 (mhi a0 b0 0 0)) 0)))) (mhi a2 b1 (mlo a1 b2 (mlo a0 b3 0 (mhi a0 b2 0 (mhi a0 b1 0 (mhi a0 b0 0 0)))) (mhi a1 b1 (mlo a0 b2 0 (mhi a0 b1 0 (mhi a0 b0 0 0))) (mhi a1 b0 (mlo a0 b1 0 (mhi a0 b0 0 0)) 0))) (mhi a2 b0 (mlo a1 b1 (mlo a0 b2 0 (mhi a0 b1 0 (mhi a0 b0 0 0))) (mhi a1 b0 (mlo a0 b1 0 (mhi a0 b0 0 0)) 0)) 0)))) (mhi a3 b2 (mlo a2 b3 (mhi a1 b3 (mhi a0 b3 0 (mhi a0 b2 0 (mhi a0 b1 0 (mhi a0 b0 0 0)))) (mhi a1 b2 (mlo a0 b3 0 (mhi a0 b2 0 (mhi a0 b1 0 (mhi a0 b0 0 0)))) (mhi a1 b1 (mlo a0 b2 0 (mhi a0 b1 0 (mhi a0 b0 0 0))) (mhi a1 b0 (mlo a0 b1 0 (mhi a0 b0 0 0)) 0)))) (mhi a2 b2 (mlo a1 b3 (mhi a0 b3 0 (mhi a0 b2 0 (mhi a0 b1 0 (mhi a0 b0 0 0)))) (mhi a1 b2 (mlo a0 b3 0 (mhi a0 b2 0 (mhi a0 b1 0 (mhi a0 b0 0 0)))) (mhi a1 b1 (mlo a0 b2 0 (mhi a0 b1 0 (mhi a0 b0 0 0))) (mhi a1 b0 (mlo a0 b1 0 (mhi a0 b0 0 0)) 0)))) (mhi a2 b1 (mlo a1 b2 (mlo a0 b3 0 (mhi a0 b2 0 (mhi a0 b1 0 (mhi a0 b0 0 0)))) (mhi a1 b1 (mlo a0 b2 0 (mhi a0 b1 0 (mhi a0 b0 0 0))) (mhi a1 b0 (mlo a0 b1 0 (mhi a0 b0 0 0)) 0))) (mhi a2 b0 (mlo a1 b1 (mlo a0 b2 0 (mhi a0 b1 0 (mhi a0 b0 0 0))) (mhi a1 b0 (mlo a0 b1 0 (mhi a0 b0 0 0)) 0)) 0)))) (mhi a3 b1 (mlo a2 b2 (mlo a1 b3 (mhi a0 b3 0 (mhi a0 b2 0 (mhi a0 b1 0 (mhi a0 b0 0 0)))) (mhi a1 b2 (mlo a0 b3 0 (mhi a0 b2 0 (mhi a0 b1 0 (mhi a0 b0 0 0)))) (mhi a1 b1 (mlo a0 b2 0 (mhi a0 b1 0 (mhi a0 b0 0 0))) (mhi a1 b0 (mlo a0 b1 0 (mhi a0 b0 0 0)) 0)))) (mhi a2 b1 (mlo a1 b2 (mlo a0 b3 0 (mhi a0 b2 0 (mhi a0 b1 0 (mhi a0 b0 0 0)))) (mhi a1 b1 (mlo a0 b2 0 (mhi a0 b1 0 (mhi a0 b0 0 0))) (mhi a1 b0 (mlo a0 b1 0 (mhi a0 b0 0 0)) 0))) (mhi a2 b0 (mlo a1 b1 (mlo a0 b2 0 (mhi a0 b1 0 (mhi a0 b0 0 0))) (mhi a1 b0 (mlo a0 b1 0 (mhi a0 b0 0 0)) 0)) 0))) (mhi a3 b0 (mlo a2 b1 (mlo a1 b2 (mlo a0 b3 0 (mhi a0 b2 0 (mhi a0 b1 0 (mhi a0 b0 0 0)))) (mhi a1 b1 (mlo a0 b2 0 (mhi a0 b1 0 (mhi a0 b0 0 0))) (mhi a1 b0 (mlo a0 b1 0 (mhi a0 b0 0 0)) 0))) (mhi a2 b0 (mlo a1 b1 (mlo a0 b2 0 (mhi a0 b1 0 (mhi a0 b0 0 0))) (mhi a1 b0 (mlo a0 b1 0 (mhi a0 b0 0 0)) 0)) 0)) 0))))))))))) = (a0 + 18446744073709551616 * (a1 + 18446744073709551616 * (a2 + 18446744073709551616 * a3))) * (b0 + 18446744073709551616 * (b1 + 18446744073709551616 * (b2 + 18446744073709551616 * b3))) := by
  have z : (0 : Nat) < 18446744073709551616 := Nat.succ_pos _
  have R0 := rowVal a0 b0 b1 b2 b3 0 0 0 0 A0 B0 B1 B2 B3 z z z z
  have bl00 := mlo_lt a0 b0 0 0
  have bh00 := mhi_lt a0 b0 0 0
  generalize mlo a0 b0 0 0 = l00 at R0 bl00 ⊢
  generalize mhi a0 b0 0 0 = h00 at R0 bh00 ⊢
  have bl01 := mlo_lt a0 b1 0 h00
  have bh01 := mhi_lt a0 b1 0 h00
  generalize mlo a0 b1 0 h00 = l01 at R0 bl01 ⊢
  generalize mhi a0 b1 0 h00 = h01 at R0 bh01 ⊢
  have bl02 := mlo_lt a0 b2 0 h01
  have bh02 := mhi_lt a0 b2 0 h01
  generalize mlo a0 b2 0 h01 = l02 at R0 bl02 ⊢
  generalize mhi a0 b2 0 h01 = h02 at R0 bh02 ⊢
  have bl03 := mlo_lt a0 b3 0 h02
  have bh03 := mhi_lt a0 b3 0 h02
  generalize mlo a0 b3 0 h02 = l03 at R0 bl03 ⊢
  generalize mhi a0 b3 0 h02 = h03 at R0 bh03 ⊢
  have R1 := rowVal a1 b0 b1 b2 b3 l01 l02 l03 h03 A1 B0 B1 B2 B3 bl01 bl02 bl03 bh03
  have bl10 := mlo_lt a1 b0 l01 0
  have bh10 := mhi_lt a1 b0 l01 0
  generalize mlo a1 b0 l01 0 = l10 at R1 bl10 ⊢
  generalize mhi a1 b0 l01 0 = h10 at R1 bh10 ⊢
  have bl11 := mlo_lt a1 b1 l02 h10
  have bh11 := mhi_lt a1 b1 l02 h10
  generalize mlo a1 b1 l02 h10 = l11 at R1 bl11 ⊢
  generalize mhi a1 b1 l02 h10 = h11 at R1 bh11 ⊢
  have bl12 := mlo_lt a1 b2 l03 h11
  have bh12 := mhi_lt a1 b2 l03 h11
  generalize mlo a1 b2 l03 h11 = l12 at R1 bl12 ⊢
  generalize mhi a1 b2 l03 h11 = h12 at R1 bh12 ⊢
  have bl13 := mlo_lt a1 b3 h03 h12
  have bh13 := mhi_lt a1 b3 h03 h12
  generalize mlo a1 b3 h03 h12 = l13 at R1 bl13 ⊢
  generalize mhi a1 b3 h03 h12 = h13 at R1 bh13 ⊢
  have R2 := rowVal a2 b0 b1 b2 b3 l11 l12 l13 h13 A2 B0 B1 B2 B3 bl11 bl12 bl13 bh13
  have bl20 := mlo_lt a2 b0 l11 0
  have bh20 := mhi_lt a2 b0 l11 0
  generalize mlo a2 b0 l11 0 = l20 at R2 bl20 ⊢
  generalize mhi a2 b0 l11 0 = h20 at R2 bh20 ⊢
  have bl21 := mlo_lt a2 b1 l12 h20
  have bh21 := mhi_lt a2 b1 l12 h20
  generalize mlo a2 b1 l12 h20 = l21 at R2 bl21 ⊢
  generalize mhi a2 b1 l12 h20 = h21 at R2 bh21 ⊢
  have bl22 := mlo_lt a2 b2 l13 h21
  have bh22 := mhi_lt a2 b2 l13 h21
  generalize mlo a2 b2 l13 h21 = l22 at R2 bl22 ⊢
  generalize mhi a2 b2 l13 h21 = h22 at R2 bh22 ⊢
  have bl23 := mlo_lt a2 b3 h13 h22
  have bh23 := mhi_lt a2 b3 h13 h22
  generalize mlo a2 b3 h13 h22 = l23 at R2 bl23 ⊢
  generalize mhi a2 b3 h13 h22 = h23 at R2 bh23 ⊢
  have R3 := rowVal a3 b0 b1 b2 b3 l21 l22 l23 h23 A3 B0 B1 B2 B3 bl21 bl22 bl23 bh23
  have bl30 := mlo_lt a3 b0 l21 0
  have bh30 := mhi_lt a3 b0 l21 0
  generalize mlo a3 b0 l21 0 = l30 at R3 bl30 ⊢
  generalize mhi a3 b0 l21 0 = h30 at R3 bh30 ⊢
  have bl31 := mlo_lt a3 b1 l22 h30
  have bh31 := mhi_lt a3 b1 l22 h30
  generalize mlo a3 b1 l22 h30 = l31 at R3 bl31 ⊢
  generalize mhi a3 b1 l22 h30 = h31 at R3 bh31 ⊢
  have bl32 := mlo_lt a3 b2 l23 h31
  have bh32 := mhi_lt a3 b2 l23 h31
  generalize mlo a3 b2 l23 h31 = l32 at R3 bl32 ⊢
  generalize mhi a3 b2 l23 h31 = h32 at R3 bh32 ⊢
  have bl33 := mlo_lt a3 b3 h23 h32
  have bh33 := mhi_lt a3 b3 h23 h32
  generalize mlo a3 b3 h23 h32 = l33 at R3 bl33 ⊢
  generalize mhi a3 b3 h23 h32 = h33 at R3 bh33 ⊢
  rw [Nat.add_mul, Nat.mul_assoc, Nat.add_mul a1, Nat.mul_assoc, Nat.add_mul a2, Nat.mul_assoc]
  generalize (b0 + 18446744073709551616 * (b1 + 18446744073709551616 * (b2 + 18446744073709551616 * b3))) = y at *
  generalize a0 * y = y0 at *
  generalize a1 * y = y1 at *
  generalize a2 * y = y2 at *
  generalize a3 * y = y3 at *
  clear bl00 bh00 bl01 bh01 bl02 bh02 bl03 bh03 bl10 bh10 bl11 bh11 bl12 bh12 bl13 bh13 bl20 bh20 bl21 bh21 bl22 bh22 bl23 bh23 bl30 bh30 bl31 bh31 bl32 bh32 bl33 bh33 A0 A1 A2 A3 B0 B1 B2 B3 z
  omega
set_option maxHeartbeats 8000000 in
set_option maxRecDepth 20000 in
theorem sp_Mul4 (e0 : E k_math_bits_Mul64 = some f_math_bits_Mul64) (e1 : E k_wide_mulAdd = some f_wide_mulAdd) (e : E k_wide_Mul = some f_wide_Mul) (n : Nat) (a0 a1 a2 a3 b0 b1 b2 b3 : Nat) (A0 : a0 < 18446744073709551616) (A1 : a1 < 18446744073709551616) (A2 : a2 < 18446744073709551616) (A3 : a3 < 18446744073709551616) (B0 : b0 < 18446744073709551616) (B1 : b1 < 18446744073709551616) (B2 : b2 < 18446744073709551616) (B3 : b3 < 18446744073709551616) (h : H) :
   ∃ h', callN E (n + 14) (.fn k_wide_Mul) [W4 a0 a1 a2 a3, W4 b0 b1 b2 b3] h = some (.tup [W4 (mlo a0 b0 0 0) (mlo a1 b0 (mlo a0 b1 0 (mhi a0 b0 0 0)) 0) (mlo a2 b0 (mlo a1 b1 (mlo a0 b2 0 (mhi a0 b1 0 (mhi a0 b0 0 0))) (mhi a1 b0 (mlo a0 b1 0 (mhi a0 b0 0 0)) 0)) 0) (mlo a3 b0 (mlo a2 b1 (mlo a1 b2 (mlo a0 b3 0 (mhi a0 b2 0 (mhi a0 b1 0 (mhi a0 b0 0 0)))) (mhi a1 b1 (mlo a0 b2 0 (mhi a0 b1 0 (mhi a0 b0 0 0))) (mhi a1 b0 (mlo a0 b1 0 (mhi a0 b0 0 0)) 0))) (mhi a2 b0 (mlo a1 b1 (mlo a0 b2 0 (mhi a0 b1 0 (mhi a0 b0 0 0))) (mhi a1 b0 (mlo a0 b1 0 (mhi a0 b0 0 0)) 0)) 0)) 0), W4 (mlo a3 b1 (mlo a2 b2 (mlo a1 b3 (mhi a0 b3 0 (mhi a0 b2 0 (mhi a0 b1 0 (mhi a0 b0 0 0)))) (mhi a1 b2 (mlo a0 b3 0 (mhi a0 b2 0 (mhi a0 b1 0 (mhi a0 b0 0 0)))) (mhi a1 b1 (mlo a0 b2 0 (mhi a0 b1 0 (mhi a0 b0 0 0))) (mhi a1 b0 (mlo a0 b1 0 (mhi a0 b0 0 0)) 0)))) (mhi a2 b1 (mlo a1 b2 (mlo a0 b3 0 (mhi a0 b2 0 (mhi a0 b1 0 (mhi a0 b0 0 0)))) (mhi a1 b1 (mlo a0 b2 0 (mhi a0 b1 0 (mhi a0 b0 0 0))) (mhi a1 b0 (mlo a0 b1 0 (mhi a0 b0 0 0)) 0))) (mhi a2 b0 (mlo a1 b1 (mlo a0 b2 0 (mhi a0 b1 0 (mhi a0 b0 0 0))) (mhi a1 b0 (mlo a0 b1 0 (mhi a0 b0 0 0)) 0)) 0))) (mhi a3 b0 (mlo a2 b1 (mlo a1 b2 (mlo a0 b3 0 (mhi a0 b2 0 (mhi a0 b1 0 (mhi a0 b0 0 0)))) (mhi a1 b1 (mlo a0 b2 0 (mhi a0 b1 0 (mhi a0 b0 0 0))) (mhi a1 b0 (mlo a0 b1 0 (mhi a0 b0 0 0)) 0))) (mhi a2 b0 (mlo a1 b1 (mlo a0 b2 0 (mhi a0 b1 0 (mhi a0 b0 0 0))) (mhi a1 b0 (mlo a0 b1 0 (mhi a0 b0 0 0)) 0)) 0)) 0)) (mlo a3 b2 (mlo a2 b3 (mhi a1 b3 (mhi a0 b3 0 (mhi a0 b2 0 (mhi a0 b1 0 (mhi a0 b0 0 0)))) (mhi a1 b2 (mlo a0 b3 0 (mhi a0 b2 0 (mhi a0 b1 0 (mhi a0 b0 0 0)))) (mhi a1 b1 (mlo a0 b2 0 (mhi a0 b1 0 (mhi a0 b0 0 0))) (mhi a1 b0 (mlo a0 b1 0 (mhi a0 b0 0 0)) 0)))) (mhi a2 b2 (mlo a1 b3 (mhi a0 b3 0 (mhi a0 b2 0 (mhi a0 b1 0 (mhi a0 b0 0 0)))) (mhi a1 b2 (mlo a0 b3 0 (mhi a0 b2 0 (mhi a0 b1 0 (mhi a0 b0 0 0)))) (mhi a1 b1 (mlo a0 b2 0 (mhi a0 b1 0 (mhi a0 b0 0 0))) (mhi a1 b0 (mlo a0 b1 0 (mhi a0 b0 0 0)) 0)))) (mhi a2 b1 (mlo a1 b2 (mlo a0 b3 0 (mhi a0 b2 0 (mhi a0 b1 0 (mhi a0 b0 0 0)))) (mhi a1 b1 (mlo a0 b2 0 (mhi a0 b1 0 (mhi a0 b0 0 0))) (mhi a1 b0 (mlo a0 b1 0 (mhi a0 b0 0 0)) 0))) (mhi a2 b0 (mlo a1 b1 (mlo a0 b2 0 (mhi a0 b1 0 (mhi a0 b0 0 0))) (mhi a1 b0 (mlo a0 b1 0 (mhi a0 b0 0 0)) 0)) 0)))) (mhi a3 b1 (mlo a2 b2 (mlo a1 b3 (mhi a0 b3 0 (mhi a0 b2 0 (mhi a0 b1 0 (mhi a0 b0 0 0)))) (mhi a1 b2 (mlo a0 b3 0 (mhi a0 b2 0 (mhi a0 b1 0 (mhi a0 b0 0 0)))) (mhi a1 b1 (mlo a0 b2 0 (mhi a0 b1 0 (mhi a0 b0 0 0))) (mhi a1 b0 (mlo a0 b1 0 (mhi a0 b0 0 0)) 0)))) (mhi a2 b1 (mlo a1 b2 (mlo a0 b3 0 (mhi a0 b2 0 (mhi a0 b1 0 (mhi a0 b0 0 0)))) (mhi a1 b1 (mlo a0 b2 0 (mhi a0 b1 0 (mhi a0 b0 0 0))) (mhi a1 b0 (mlo a0 b1 0 (mhi a0 b0 0 0)) 0))) (mhi a2 b0 (mlo a1 b1 (mlo a0 b2 0 (mhi a0 b1 0 (mhi a0 b0 0 0))) (mhi a1 b0 (mlo a0 b1 0 (mhi a0 b0 0 0)) 0)) 0))) (mhi a3 b0 (mlo a2 b1 (mlo a1 b2 (mlo a0 b3 0 (mhi a0 b2 0 (mhi a0 b1 0 (mhi a0 b0 0 0)))) (mhi a1 b1 (mlo a0 b2 0 (mhi a0 b1 0 (mhi a0 b0 0 0))) (mhi a1 b0 (mlo a0 b1 0 (mhi a0 b0 0 0)) 0))) (mhi a2 b0 (mlo a1 b1 (mlo a0 b2 0 (mhi a0 b1 0 (mhi a0 b0 0 0))) (mhi a1 b0 (mlo a0 b1 0 (mhi a0 b0 0 0)) 0)) 0)) 0))) (mlo a3 b3 (mhi a2 b3 (mhi a1 b3 (mhi a0 b3 0 (mhi a0 b2 0 (mhi a0 b1 0 (mhi a0 b0 0 0)))) (mhi a1 b2 (mlo a0 b3 0 (mhi a0 b2 0 (mhi a0 b1 0 (mhi a0 b0 0 0)))) (mhi a1 b1 (mlo a0 b2 0 (mhi a0 b1 0 (mhi a0 b0 0 0))) (mhi a1 b0 (mlo a0 b1 0 (mhi a0 b0 0 0)) 0)))) (mhi a2 b2 (mlo a1 b3 (mhi a0 b3 0 (mhi a0 b2 0 (mhi a0 b1 0 (mhi a0 b0 0 0)))) (mhi a1 b2 (mlo a0 b3 0 (mhi a0 b2 0 (mhi a0 b1 0 (mhi a0 b0 0 0)))) (mhi a1 b1 (mlo a0 b2 0 (mhi a0 b1 0 (mhi a0 b0 0 0))) (mhi a1 b0 (mlo a0 b1 0 (mhi a0 b0 0 0)) 0)))) (mhi a2 b1 (mlo a1 b2 (mlo a0 b3 0 (mhi a0 b2 0 (mhi a0 b1 0 (mhi a0 b0 0 0)))) (mhi a1 b1 (mlo a0 b2 0 (mhi a0 b1 0 (mhi a0 b0 0 0))) (mhi a1 b0 (mlo a0 b1 0 (mhi a0 b0 0 0)) 0))) (mhi a2 b0 (mlo a1 b1 (mlo a0 b2 0 (mhi a0 b1 0 (mhi a0 b0 0 0))) (mhi a1 b0 (mlo a0 b1 0 (mhi a0 b0 0 0)) 0)) 0)))) (mhi a3 b2 (mlo a2 b3 (mhi a1 b3 (mhi a0 b3 0 (mhi a0 b2 0 (mhi a0 b1 0 (mhi a0 b0 0 0)))) (mhi a1 b2 (mlo a0 b3 0 (mhi a0 b2 0 (mhi a0 b1 0 (mhi a0 b0 0 0)))) (mhi a1 b1 (mlo a0 b2 0 (mhi a0 b1 0 (mhi a0 b0 0 0))) (mhi a1 b0 (mlo a0 b1 0 (mhi a0 b0 0 0)) 0)))) (mhi a2 b2 (mlo a1 b3 (mhi a0 b3 0 (mhi a0 b2 0 (mhi a0 b1 0 (mhi a0 b0 0 0)))) (mhi a1 b2 (mlo a0 b3 0 (mhi a0 b2 0 (mhi a0 b1 0 (mhi a0 b0 0 0)))) (mhi a1 b1 (mlo a0 b2 0 (mhi a0 b1 0 (mhi a0 b0 0 0))) (mhi a1 b0 (mlo a0 b1 0 (mhi a0 b0 0 0)) 0)))) (mhi a2 b1 (mlo a1 b2 (mlo a0 b3 0 (mhi a0 b2 0 (mhi a0 b1 0 (mhi a0 b0 0 0)))) (mhi a1 b1 (mlo a0 b2 0 (mhi a0 b1 0 (mhi a0 b0 0 0))) (mhi a1 b0 (mlo a0 b1 0 (mhi a0 b0 0 0)) 0))) (mhi a2 b0 (mlo a1 b1 (mlo a0 b2 0 (mhi a0 b1 0 (mhi a0 b0 0 0))) (mhi a1 b0 (mlo a0 b1 0 (mhi a0 b0 0 0)) 0)) 0)))) (mhi a3 b1 (mlo a2 b2 (mlo a1 b3 (mhi a0 b3 0 (mhi a0 b2 0 (mhi a0 b1 0 (mhi a0 b0 0 0)))) (mhi a1 b2 (mlo a0 b3 0 (mhi a0 b2 0 (mhi a0 b1 0 (mhi a0 b0 0 0)))) (mhi a1 b1 (mlo a0 b2 0 (mhi a0 b1 0 (mhi a0 b0 0 0))) (mhi a1 b0 (mlo a0 b1 0 (mhi a0 b0 0 0)) 0)))) (mhi a2 b1 (mlo a1 b2 (mlo a0 b3 0 (mhi a0 b2 0 (mhi a0 b1 0 (mhi a0 b0 0 0)))) (mhi a1 b1 (mlo a0 b2 0 (mhi a0 b1 0 (mhi a0 b0 0 0))) (mhi a1 b0 (mlo a0 b1 0 (mhi a0 b0 0 0)) 0))) (mhi a2 b0 (mlo a1 b1 (mlo a0 b2 0 (mhi a0 b1 0 (mhi a0 b0 0 0))) (mhi a1 b0 (mlo a0 b1 0 (mhi a0 b0 0 0)) 0)) 0))) (mhi a3 b0 (mlo a2 b1 (mlo a1 b2 (mlo a0 b3 0 (mhi a0 b2 0 (mhi a0 b1 0 (mhi a0 b0 0 0)))) (mhi a1 b1 (mlo a0 b2 0 (mhi a0 b1 0 (mhi a0 b0 0 0))) (mhi a1 b0 (mlo a0 b1 0 (mhi a0 b0 0 0)) 0))) (mhi a2 b0 (mlo a1 b1 (mlo a0 b2 0 (mhi a0 b1 0 (mhi a0 b0 0 0))) (mhi a1 b0 (mlo a0 b1 0 (mhi a0 b0 0 0)) 0)) 0)) 0)))) (mhi a3 b3 (mhi a2 b3 (mhi a1 b3 (mhi a0 b3 0 (mhi a0 b2 0 (mhi a0 b1 0 (mhi a0 b0 0 0)))) (mhi a1 b2 (mlo a0 b3 0 (mhi a0 b2 0 (mhi a0 b1 0 (mhi a0 b0 0 0)))) (mhi a1 b1 (mlo a0 b2 0 (mhi a0 b1 0 (mhi a0 b0 0 0))) (mhi a1 b0 (mlo a0 b1 0 (mhi a0 b0 0 0)) 0)))) (mhi a2 b2 (mlo a1 b3 (mhi a0 b3 0 (mhi a0 b2 0 (mhi a0 b1 0 (mhi a0 b0 0 0)))) (mhi a1 b2 (mlo a0 b3 0 (mhi a0 b2 0 (mhi a0 b1 0 (mhi a0 b0 0 0)))) (mhi a1 b1 (mlo a0 b2 0 (mhi a0 b1 0 (mhi a0 b0 0 0))) (mhi a1 b0 (mlo a0 b1 0 (mhi a0 b0 0 0)) 0)))) (mhi a2 b1 (mlo a1 b2 (mlo a0 b3 0 (mhi a0 b2 0 (mhi a0 b1 0 (mhi a0 b0 0 0)))) (mhi a1 b1 (mlo a0 b2 0 (mhi a0 b1 0 (mhi a0 b0 0 0))) (mhi a1 b0 (mlo a0 b1 0 (mhi a0 b0 0 0)) 0))) (mhi a2 b0 (mlo a1 b1 (mlo a0 b2 0 (mhi a0 b1 0 (mhi a0 b0 0 0))) (mhi a1 b0 (mlo a0 b1 0 (mhi a0 b0 0 0)) 0)) 0)))) (mhi a3 b2 (mlo a2 b3 (mhi a1 b3 (mhi a0 b3 0 (mhi a0 b2 0 (mhi a0 b1 0 (mhi a0 b0 0 0)))) (mhi a1 b2 (mlo a0 b3 0 (mhi a0 b2 0 (mhi a0 b1 0 (mhi a0 b0 0 0)))) (mhi a1 b1 (mlo a0 b2 0 (mhi a0 b1 0 (mhi a0 b0 0 0))) (mhi a1 b0 (mlo a0 b1 0 (mhi a0 b0 0 0)) 0)))) (mhi a2 b2 (mlo a1 b3 (mhi a0 b3 0 (mhi a0 b2 0 (mhi a0 b1 0 (mhi a0 b0 0 0)))) (mhi a1 b2 (mlo a0 b3 0 (mhi a0 b2 0 (mhi a0 b1 0 (mhi a0 b0 0 0)))) (mhi a1 b1 (mlo a0 b2 0 (mhi a0 b1 0 (mhi a0 b0 0 0))) (mhi a1 b0 (mlo a0 b1 0 (mhi a0 b0 0 0)) 0)))) (mhi a2 b1 (mlo a1 b2 (mlo a0 b3 0 (mhi a0 b2 0 (mhi a0 b1 0 (mhi a0 b0 0 0)))) (mhi a1 b1 (mlo a0 b2 0 (mhi a0 b1 0 (mhi a0 b0 0 0))) (mhi a1 b0 (mlo a0 b1 0 (mhi a0 b0 0 0)) 0))) (mhi a2 b0 (mlo a1 b1 (mlo a0 b2 0 (mhi a0 b1 0 (mhi a0 b0 0 0))) (mhi a1 b0 (mlo a0 b1 0 (mhi a0 b0 0 0)) 0)) 0)))) (mhi a3 b1 (mlo a2 b2 (mlo a1 b3 (mhi a0 b3 0 (mhi a0 b2 0 (mhi a0 b1 0 (mhi a0 b0 0 0)))) (mhi a1 b2 (mlo a0 b3 0 (mhi a0 b2 0 (mhi a0 b1 0 (mhi a0 b0 0 0)))) (mhi a1 b1 (mlo a0 b2 0 (mhi a0 b1 0 (mhi a0 b0 0 0))) (mhi a1 b0 (mlo a0 b1 0 (mhi a0 b0 0 0)) 0)))) (mhi a2 b1 (mlo a1 b2 (mlo a0 b3 0 (mhi a0 b2 0 (mhi a0 b1 0 (mhi a0 b0 0 0)))) (mhi a1 b1 (mlo a0 b2 0 (mhi a0 b1 0 (mhi a0 b0 0 0))) (mhi a1 b0 (mlo a0 b1 0 (mhi a0 b0 0 0)) 0))) (mhi a2 b0 (mlo a1 b1 (mlo a0 b2 0 (mhi a0 b1 0 (mhi a0 b0 0 0))) (mhi a1 b0 (mlo a0 b1 0 (mhi a0 b0 0 0)) 0)) 0))) (mhi a3 b0 (mlo a2 b1 (mlo a1 b2 (mlo a0 b3 0 (mhi a0 b2 0 (mhi a0 b1 0 (mhi a0 b0 0 0)))) (mhi a1 b1 (mlo a0 b2 0 (mhi a0 b1 0 (mhi a0 b0 0 0))) (mhi a1 b0 (mlo a0 b1 0 (mhi a0 b0 0 0)) 0))) (mhi a2 b0 (mlo a1 b1 (mlo a0 b2 0 (mhi a0 b1 0 (mhi a0 b0 0 0))) (mhi a1 b0 (mlo a0 b1 0 (mhi a0 b0 0 0)) 0)) 0)) 0))))], h') ∧ Keep h h' := by
  rw [s_cfn e _ _ (Nat.le_of_ble_eq_true rfl)]
  simp (config := {maxSteps := 4000000}) (disch := first | assumption | with_reducible exact mlo_lt _ _ _ _ | with_reducible exact mhi_lt _ _ _ _ | omega | (simp only [List.length_cons, List.length_nil, List.length_append, List.length_drop]; omega)) only [W4, mA e0 e1, mA0 e0 e1, mA1 e0 e1, mA2 e0 e1, wr_i64, ne_dec, v_beqi, v_beqa, ↓s_box, c_agg, ↓s_evD, ↓s_dnil, ↓s_dL, ↓s_dLg, ↓s_dR, ↓s_dRg, ↓s_dRj, ↓s_dRjg, ↓s_dB, ↓s_dBg, ↓s_dAlloc, ↓s_bindD, s_bindD, s_finD, s_finDx, s_addP0, s_addP1, s_addB, s_lookP, ↓s_bump0, ↓s_bump_get, s_bump_next, s_ok0, ↓s_ok1, s_okR0, ↓s_okR1, ↓s_okE, s_okE, s_okE1, s_nth0, s_nthS, Nat.add_zero, Bool.and_self, Bool.and_true, Bool.true_and, ↓l_loop, ↓l_succ, ↓l_normal, l_normal, l_exit, l_ret, l_iteN, ↓h_put_get, ↓h_new_get, ↓h_del_get, h_next_put, h_next_new, h_next_del, Nat.add_assoc, Nat.add_eq_left, Nat.left_eq_add, Nat.add_left_cancel_iff, ↓s_load, m_load, ↓m_load1, m_load1, ↓m_st, m_stE, m_storeI, m_storeE, w_zero, w_succ, ↓s_alloc, ↓x_idxA, ↓x_idxS, x_idxAE, x_idxSE, x_addrE, x_idx, x_lenS, ↓s_len, ↓x_buildS, x_buildE, ↓x_P0, ↓x_P1, x_fill0, x_filli, x_fills, x_fillb, c_int, List.length_cons, List.length_nil, List.cons_append, List.drop_succ_cons, List.drop_zero, List.drop_nil, List.nil_append, Int.reduceAdd, Int.reduceToNat, Int.reduceLT, Int.reduceLE, Nat.reduceAdd, Nat.reduceMul, Nat.reduceLeDiff, Int.reduceEq, Int.reduceSub, Int.cast_ofNat_Int, s_resc, s_consR, m_load4, m_store4, s_res0, ↓s_skip, ↓s_ops, ↓s_dops, ↓s_seq, ↓s_cond, ↓s_block, ↓s_exit, ↓s_ret, ↓s_scope, ↓s_nil, ↓s_op, ↓s_opg, ↓s_wanted', ↓s_wantV, s_wantV, s_wantV0, beq_true, beq_false, ↓s_bindS, s_bindS, ↓s_bindE, s_bindE, s_bindE_ret, s_bindE_exit, s_bindE_iteN, s_norm, ↓s_condV, s_condV, s_block_ret, s_block_normal, s_block_exit, s_block_iteN, ↓s_getp, ↓s_getp0, ↓s_get, s_get0, ↓s_con, ↓s_fn, ↓s_os0, ↓s_os1, ↓s_list0, ↓s_list1, ↓s_mov, ↓s_pick, ↓s_pickE, s_pickE, ↓s_bin, ↓s_un, ↓s_minmax, ↓s_call, ↓s_callv, ↓s_callV, ↓s_ext, s_same, b_eql, b_neq, b_lss, b_leq, b_gtr, b_geq, b_add, b_sub, b_mul, b_eqlb, b_neqb, b_fnil, b_fnil', b_fnil2, b_fnil2', u_neg, u_not, m_two, s_end, s_end', s_end_iteN, s_res0, s_res1, s_tup1, s_tup2, ↓iteN_true, ↓iteN_false, iteN_true, iteN_false, Nat.zero_add, List.nil_append, List.append_nil, Nat.reduceEqDiff, reduceIte, decide_true, decide_false, Bool.not_true, Bool.not_false, List.getElem?_cons_zero, List.getElem?_cons_succ, Bool.false_eq_true, if_true, if_false, beq_self_eq_true]
  refine ⟨_, rfl, ?_⟩
  repeat (first | exact Keep.refl _ | refine Keep.put ?_ _ (by omega) | refine Keep.trans ?_ (Keep.new _ _))
theorem dig4 (x : Nat) (hx : x < 115792089237316195423570985008687907853269984665640564039457584007913129639936) : ((x % 18446744073709551616) + 18446744073709551616 * ((x / 18446744073709551616 % 18446744073709551616) + 18446744073709551616 * ((x / 18446744073709551616 / 18446744073709551616 % 18446744073709551616) + 18446744073709551616 * (x / 18446744073709551616 / 18446744073709551616 / 18446744073709551616 % 18446744073709551616)))) = x := by omega
theorem W4_Wd (P r0 r1 r2 r3 r4 r5 r6 r7 : Nat) (h0 : r0 < 18446744073709551616) (h1 : r1 < 18446744073709551616) (h2 : r2 < 18446744073709551616) (h3 : r3 < 18446744073709551616) (h4 : r4 < 18446744073709551616) (h5 : r5 < 18446744073709551616) (h6 : r6 < 18446744073709551616) (h7 : r7 < 18446744073709551616) (e : (r0 + 18446744073709551616 * (r1 + 18446744073709551616 * (r2 + 18446744073709551616 * (r3 + 18446744073709551616 * (r4 + 18446744073709551616 * (r5 + 18446744073709551616 * (r6 + 18446744073709551616 * r7))))))) = P) : W4 r0 r1 r2 r3 = Wd (P % 115792089237316195423570985008687907853269984665640564039457584007913129639936) ∧ W4 r4 r5 r6 r7 = Wd (P / 115792089237316195423570985008687907853269984665640564039457584007913129639936) := by
  have eL : P % 115792089237316195423570985008687907853269984665640564039457584007913129639936 = (r0 + 18446744073709551616 * (r1 + 18446744073709551616 * (r2 + 18446744073709551616 * r3))) := by omega
  have eH : P / 115792089237316195423570985008687907853269984665640564039457584007913129639936 = (r4 + 18446744073709551616 * (r5 + 18446744073709551616 * (r6 + 18446744073709551616 * r7))) := by omega
  rw [eL, eH]
  clear e eL eH
  have t : ∀ s0 s1 s2 s3 : Nat, s0 < 18446744073709551616 → s1 < 18446744073709551616 → s2 < 18446744073709551616 → s3 < 18446744073709551616 → W4 s0 s1 s2 s3 = Wd (s0 + 18446744073709551616 * (s1 + 18446744073709551616 * (s2 + 18446744073709551616 * s3))) := by
    intro s0 s1 s2 s3 g0 g1 g2 g3
    unfold Wd
    have a1 : (s0 + 18446744073709551616 * (s1 + 18446744073709551616 * (s2 + 18446744073709551616 * s3))) / 18446744073709551616 = (s1 + 18446744073709551616 * (s2 + 18446744073709551616 * s3)) := by omega
    have a2 : (s1 + 18446744073709551616 * (s2 + 18446744073709551616 * s3)) / 18446744073709551616 = (s2 + 18446744073709551616 * s3) := by omega
    have a3 : (s2 + 18446744073709551616 * s3) / 18446744073709551616 = s3 := by omega
    rw [a1, a2, a3]
    have b0 : (s0 + 18446744073709551616 * (s1 + 18446744073709551616 * (s2 + 18446744073709551616 * s3))) % 18446744073709551616 = s0 := by omega
    have b1 : (s1 + 18446744073709551616 * (s2 + 18446744073709551616 * s3)) % 18446744073709551616 = s1 := by omega
    have b2 : (s2 + 18446744073709551616 * s3) % 18446744073709551616 = s2 := by omega
    have b3 : s3 % 18446744073709551616 = s3 := by omega
    rw [b0, b1, b2, b3]
  exact ⟨t r0 r1 r2 r3 h0 h1 h2 h3, t r4 r5 r6 r7 h4 h5 h6 h7⟩
theorem sp_Mul (e0 : E k_math_bits_Mul64 = some f_math_bits_Mul64) (e1 : E k_wide_mulAdd = some f_wide_mulAdd) (e : E k_wide_Mul = some f_wide_Mul) (n x y : Nat) (hx : x < 115792089237316195423570985008687907853269984665640564039457584007913129639936) (hy : y < 115792089237316195423570985008687907853269984665640564039457584007913129639936) (h : H) :
   ∃ h', callN E (n + 14) (.fn k_wide_Mul) [Wd x, Wd y] h = some (.tup [Wd (x * y % 115792089237316195423570985008687907853269984665640564039457584007913129639936), Wd (x * y / 115792089237316195423570985008687907853269984665640564039457584007913129639936)], h') ∧ Keep h h' := by
  have z : (0 : Nat) < 18446744073709551616 := Nat.succ_pos _
  obtain ⟨h', c, k⟩ := sp_Mul4 e0 e1 e n (x % 18446744073709551616) (x / 18446744073709551616 % 18446744073709551616) (x / 18446744073709551616 / 18446744073709551616 % 18446744073709551616) (x / 18446744073709551616 / 18446744073709551616 / 18446744073709551616 % 18446744073709551616) (y % 18446744073709551616) (y / 18446744073709551616 % 18446744073709551616) (y / 18446744073709551616 / 18446744073709551616 % 18446744073709551616) (y / 18446744073709551616 / 18446744073709551616 / 18446744073709551616 % 18446744073709551616) (by omega) (by omega) (by omega) (by omega) (by omega) (by omega) (by omega) (by omega) h
  have v := mulVal (x % 18446744073709551616) (x / 18446744073709551616 % 18446744073709551616) (x / 18446744073709551616 / 18446744073709551616 % 18446744073709551616) (x / 18446744073709551616 / 18446744073709551616 / 18446744073709551616 % 18446744073709551616) (y % 18446744073709551616) (y / 18446744073709551616 % 18446744073709551616) (y / 18446744073709551616 / 18446744073709551616 % 18446744073709551616) (y / 18446744073709551616 / 18446744073709551616 / 18446744073709551616 % 18446744073709551616) (by omega) (by omega) (by omega) (by omega) (by omega) (by omega) (by omega) (by omega)
  rw [dig4 x hx, dig4 y hy] at v
  obtain ⟨w1, w2⟩ := W4_Wd (x * y) _ _ _ _ _ _ _ _ (mlo_lt _ _ _ _) (mlo_lt _ _ _ _) (mlo_lt _ _ _ _) (mlo_lt _ _ _ _) (mlo_lt _ _ _ _) (mlo_lt _ _ _ _) (mlo_lt _ _ _ _) (mhi_lt _ _ _ _) v
  refine ⟨h', ?_, k⟩
  unfold Wd
  rw [c, w1, w2]; rfl
end Go.Eng
