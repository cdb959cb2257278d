/- What the functions of package wide come to: own work. -/
import Derived.Test.YtpmbepldakjkkaaWdC
import Derived.Test.YtpmbepldakjkkaaEngI
import Derived.OpenShut
namespace Go.Eng
open Go
variable {E : Nat → Option Fn}
set_option linter.unusedSimpArgs false
set_option linter.unusedVariables false
/-- the calls of package wide, as equations -/
structure WQ (Q : Orc) : Prop where
  Add : ∀ (h : H) (x y : Nat), x < M256 → y < M256 → Q (.fn k_wide_Add) [Wd x, Wd y] h = some (.tup [Wd (x + y), .bool (decide (115792089237316195423570985008687907853269984665640564039457584007913129639936 ≤ x + y))], h)
  Sub : ∀ (h : H) (x y : Nat), x < M256 → y < M256 → Q (.fn k_wide_Sub) [Wd x, Wd y] h = some (.tup [Wd (x + 115792089237316195423570985008687907853269984665640564039457584007913129639936 - y), .bool (decide (x < y))], h)
  Not : ∀ (h : H) (x : Nat), x < M256 → Q (.fn k_wide_Not) [Wd x] h = some (Wd (115792089237316195423570985008687907853269984665640564039457584007913129639936 - 1 - x), h)
  Of : ∀ (h : H) (n : Int), Q (.fn k_wide_Of) [.int .u64 n] h = some (.agg [.int .u64 n, .int .u64 0, .int .u64 0, .int .u64 0], h)
  Cmp : ∀ (h : H) (x y : Nat), x < M256 → y < M256 → Q (.fn k_wide_Compare) [Wd x, Wd y] h = some (.int .i64 (cmpW x y), h)
  Mul : ∀ (h : H) (x y : Nat), x < M256 → y < M256 → Q (.fn k_wide_Mul) [Wd x, Wd y] h = some (.tup [Wd (x * y % 115792089237316195423570985008687907853269984665640564039457584007913129639936), Wd (x * y / 115792089237316195423570985008687907853269984665640564039457584007913129639936)], h)
  Left : ∀ (h : H) (x : Nat) (n : Int), x < M256 → Q (.fn k_wide_Left) [Wd x, .int .i64 n] h = some (Wd (shL x n), h)
  Right : ∀ (h : H) (x : Nat) (n : Int), x < M256 → Q (.fn k_wide_Right) [Wd x, .int .i64 n] h = some (Wd (shR x n), h)
  Len : ∀ (h : H) (x : Nat), x < M256 → Q (.fn k_wide_Len) [Wd x] h = some (.int .i64 (blen x : Int), h)
  Div : ∀ (h : H) (x y : Nat), x < M256 → y < M256 → Q (.fn k_wide_Div) [Wd x, Wd y] h = some (if y = 0 then .tup [Wd 0, Wd 0, .int .i64 30] else .tup [Wd (x / y), Wd (x % y), .int .i64 0], h)
/-- a call without arguments that answers true -/
def aliveS : List V → Option V
  | [] => some (.bool true)
  | _ => none
def lawX (k : Nat) : Orc := orX (pureX k aliveS) wideXD
theorem lawX_ok {P : Program} {g : Gn} {k N : Nat} (hE : Link P g E) (F : WideFE E) (h : isTrue (callX E wideXD N (.fn k) [] H.empty) = true) : QOk P g (lawX k) := by
  refine orX_ok (pureX_ok (callX_ok hE (wideXD_ok hE F) N) fun args v hs => ?_) (wideXD_ok hE F)
  unfold aliveS at hs
  split at hs
  · cases hs
    exact ⟨rfl, rfl, isTrue_some h⟩
  · cases hs
theorem lawX_alive (k : Nat) (h : H) : lawX k (.fn k) [] h = some (.bool true, h) := orX_l (pureX_yes h rfl)
/-- no function of package wide -/
def offW (k : Nat) : Bool := Nat.beq k_wide_Add k || (Nat.beq k_wide_Sub k || (Nat.beq k_wide_Not k || (Nat.beq k_wide_Of k || (Nat.beq k_wide_Compare k || (Nat.beq k_wide_Mul k || (Nat.beq k_wide_Left k || (Nat.beq k_wide_Right k || (Nat.beq k_wide_Len k || Nat.beq k_wide_Div k))))))))
theorem lawX_WQ {k n : Nat} (hk : offW k = false) : WQ (callX E (lawX k) (n + 1)) := by
  simp only [offW, Bool.or_eq_false_iff] at hk
  obtain ⟨e1, e2, e3, e4, e5, e6, e7, e8, e9, e10⟩ := hk
  exact ⟨fun h x y hx hy => x_known ((orX_r (pureX_no h e1)).trans ((XD_wide h rfl).trans (X_Add h hx hy))), fun h x y hx hy => x_known ((orX_r (pureX_no h e2)).trans ((XD_wide h rfl).trans (X_Sub h hx hy))), fun h x hx => x_known ((orX_r (pureX_no h e3)).trans ((XD_wide h rfl).trans (X_Not h hx))),
    fun h n => x_known ((orX_r (pureX_no h e4)).trans ((XD_wide h rfl).trans (X_Of h n))), fun h x y hx hy => x_known ((orX_r (pureX_no h e5)).trans ((XD_wide h rfl).trans (X_Compare h hx hy))), fun h x y hx hy => x_known ((orX_r (pureX_no h e6)).trans ((XD_wide h rfl).trans (X_Mul h hx hy))),
    fun h x n hx => x_known ((orX_r (pureX_no h e7)).trans ((XD_wide h rfl).trans (X_Left h n hx))), fun h x n hx => x_known ((orX_r (pureX_no h e8)).trans ((XD_wide h rfl).trans (X_Right h n hx))), fun h x hx => x_known ((orX_r (pureX_no h e9)).trans ((XD_wide h rfl).trans (X_Len h hx))),
    fun h x y hx hy => x_known ((orX_r (pureX_no h e10)).trans (XD_Div h hx hy))⟩
theorem w_beqn (n : Nat) : V.beq (Wd n) (Wd n) = true := w_beq n
theorem Wd0 : V.agg [.int .u64 0, .int .u64 0, .int .u64 0, .int .u64 0] = Wd 0 := rfl
theorem b_eqW0 (h : H) (x : Nat) (hx : x < M256) : binV .eql (.flat [.i, .i, .i, .i]) h (Wd x) (.agg [.int .u64 0, .int .u64 0, .int .u64 0, .int .u64 0]) = some (.bool (decide (x = 0))) := b_eqW h x 0 hx (by decide)
theorem b_neW (h : H) (x y : Nat) (hx : x < M256) (hy : y < M256) : binV .neq (.flat [.i, .i, .i, .i]) h (Wd x) (Wd y) = some (.bool (!decide (x = y))) := by
  have e := b_eqW h x y hx hy
  have e1 : binV .eql (.flat [.i, .i, .i, .i]) h (Wd x) (Wd y) = (match eqlV (.flat [.i, .i, .i, .i]) h (Wd x) (Wd y) with | some b => some (.bool b) | none => none) := rfl
  have e2 : binV .neq (.flat [.i, .i, .i, .i]) h (Wd x) (Wd y) = (match eqlV (.flat [.i, .i, .i, .i]) h (Wd x) (Wd y) with | some b => some (.bool !b) | none => none) := rfl
  rw [e1] at e
  rw [e2]
  cases hq : eqlV (.flat [.i, .i, .i, .i]) h (Wd x) (Wd y) with
  | none => rw [hq] at e; cases e
  | some b => rw [hq] at e; cases e; rfl
theorem b_neW0 (h : H) (x : Nat) (hx : x < M256) : binV .neq (.flat [.i, .i, .i, .i]) h (Wd x) (.agg [.int .u64 0, .int .u64 0, .int .u64 0, .int .u64 0]) = some (.bool (!decide (x = 0))) := b_neW h x 0 hx (by decide)
theorem w_cmp_lt {x y : Nat} (h : x < y) : cmpW x y = -1 := by unfold cmpW; rw [if_neg (by omega), if_pos h]
end Go.Eng
namespace Go.Eng
open Go Go.ChangeShapes
/-- an array of four numbers, as an argument -/
theorem trod_arr4 {H : Type} {enc : TypeId × Value → H} {P : Program} {W : World} {spare : Nat → Bool} {held : Bool} {base : Nat} {t e : TypeId} (ht : P.underlying t = some (.array 4 e)) (he : P.underlying e = some (.int .u64)) {v : Value} {d : DataW H} {p : List MemPlace} (h : DataW.Trod enc P W base spare held t v d p) : ∃ N : Nat, N < 115792089237316195423570985008687907853269984665640564039457584007913129639936 ∧ ∃ n0 n1 n2 n3 : Int, d = .agg [.lit (.int .u64 n0), .lit (.int .u64 n1), .lit (.int .u64 n2), .lit (.int .u64 n3)] ∧ V.agg [.int .u64 n0, .int .u64 n1, .int .u64 n2, .int .u64 n3] = Wd N := by
  obtain ⟨f, hf⟩ := h
  obtain ⟨xs, m, _, hx, _, hl, hi⟩ := DataW.trod_array ht hf
  have go : ∀ i x, i < 4 → xs[i]? = some x → ∃ n : Int, x.1 = .lit (.int .u64 n) ∧ 0 ≤ n ∧ n < 18446744073709551616 := by
    intro i x h4 hxi
    obtain ⟨n, _, e1, w⟩ := DataW.trod_int he ((hi i h4).trans hxi)
    simp [Lit.wf, IntKind.min, IntKind.max, IntKind.signed, IntKind.bits] at w
    exact ⟨n, by rw [e1], by omega, by omega⟩
  obtain ⟨x0, x1, x2, x3, rfl⟩ : ∃ x0 x1 x2 x3, xs = [x0, x1, x2, x3] := by
    match xs, hl with
    | [x0, x1, x2, x3], _ => exact ⟨x0, x1, x2, x3, rfl⟩
  · obtain ⟨n0, e0, l0, u0⟩ := go 0 x0 (by omega) rfl
    obtain ⟨n1, e1, l1, u1⟩ := go 1 x1 (by omega) rfl
    obtain ⟨n2, e2, l2, u2⟩ := go 2 x2 (by omega) rfl
    obtain ⟨n3, e3, l3, u3⟩ := go 3 x3 (by omega) rfl
    refine ⟨(n0 + 18446744073709551616 * (n1 + 18446744073709551616 * (n2 + 18446744073709551616 * n3))).toNat, by omega, n0, n1, n2, n3, ?_, ?_⟩
    · simp only [Prod.mk.injEq] at hx
      rw [hx.1]
      simp only [List.map_cons, List.map_nil, e0, e1, e2, e3]
    · unfold Wd W4
      congr 1
      obtain ⟨m0, rfl⟩ := Int.eq_ofNat_of_zero_le l0
      obtain ⟨m1, rfl⟩ := Int.eq_ofNat_of_zero_le l1
      obtain ⟨m2, rfl⟩ := Int.eq_ofNat_of_zero_le l2
      obtain ⟨m3, rfl⟩ := Int.eq_ofNat_of_zero_le l3
      have : ((m0 : Int) + 18446744073709551616 * ((m1 : Int) + 18446744073709551616 * ((m2 : Int) + 18446744073709551616 * (m3 : Int)))).toNat = m0 + 18446744073709551616 * (m1 + 18446744073709551616 * (m2 + 18446744073709551616 * m3)) := by omega
      rw [this]
      have q0 : (m0 + 18446744073709551616 * (m1 + 18446744073709551616 * (m2 + 18446744073709551616 * m3))) / 18446744073709551616 = m1 + 18446744073709551616 * (m2 + 18446744073709551616 * m3) := by omega
      have q1 : (m1 + 18446744073709551616 * (m2 + 18446744073709551616 * m3)) / 18446744073709551616 = m2 + 18446744073709551616 * m3 := by omega
      have q2 : (m2 + 18446744073709551616 * m3) / 18446744073709551616 = m3 := by omega
      rw [q0, q1, q2]
      have r0 : (m0 + 18446744073709551616 * (m1 + 18446744073709551616 * (m2 + 18446744073709551616 * m3))) % 18446744073709551616 = m0 := by omega
      have r1 : (m1 + 18446744073709551616 * (m2 + 18446744073709551616 * m3)) % 18446744073709551616 = m1 := by omega
      have r2 : (m2 + 18446744073709551616 * m3) % 18446744073709551616 = m2 := by omega
      have r3 : m3 % 18446744073709551616 = m3 := by omega
      rw [r0, r1, r2, r3]
end Go.Eng
