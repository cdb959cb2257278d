/- What functions of the program come to: own work. -/
import Derived.Test.YtfopajklnakmpaaBxH
namespace Go.Eng
open Go
variable {E : Nat → Option Fn} {X : Orc}
set_option linter.unusedSimpArgs false
set_option linter.unusedVariables false
end Go.Eng
namespace Go.Eng
open Go
variable {E : Nat → Option Fn} {X : Orc}
set_option linter.unusedSimpArgs false
set_option linter.unusedVariables false
/-! blocks' bytes, there and back -/
end Go.Eng
namespace Go.Eng
open Go
variable {E : Nat → Option Fn} {X : Orc}
set_option linter.unusedSimpArgs false
set_option linter.unusedVariables false
structure NoBc (X : Orc) : Prop where
  be : NoBe X
  bd : NoBd X
  g6 : ∀ a h, X (.fn k_purserref06_Great) a h = none
  g7 : ∀ a h, X (.fn k_purserref07_Great) a h = none
theorem NoBc.al : NoBc (alT k_purserlaw07_alive) := by repeat' (first | exact fun _ _ => rfl | exact fun _ _ _ => rfl | exact fun _ => rfl | constructor)
end Go.Eng
namespace Go.Eng
open Go
variable {E : Nat → Option Fn} {X : Orc}
set_option linter.unusedSimpArgs false
set_option linter.unusedVariables false
theorem xs6 {α : Type} {xs : List α} (h : xs.length = 6) : ∃ a b c d e f, xs = [a, b, c, d, e, f] := by
  match xs, h with
  | [a, b, c, d, e, f], _ => exact ⟨a, b, c, d, e, f, rfl⟩
def BkAt (h : H) (x : BkQ) (vs : List V) : Prop := ∃ a, vs = hdV x.hd ++ [.slice a x.txs.length none 4] ∧ ∃ parts, Al2 (TxAt h) x.txs parts ∧ (x.txs = [] ∨ ∃ k md, a = some (k, 0) ∧ k < h.next ∧ h.get k = some (.cells parts.flatten md))
theorem BkAt.row {h : H} {txs : List TxQ} {a : Option (Nat × Nat)} (ok : ∀ t ∈ txs, t.ok) (r : ∃ parts, Al2 (TxAt h) txs parts ∧ (txs = [] ∨ ∃ k md, a = some (k, 0) ∧ k < h.next ∧ h.get k = some (.cells parts.flatten md))) : RowG (fun j => j < h.next) 4 TxC h txs a 4 := by
  obtain ⟨parts, al, t⟩ := r
  have al2 : Al2 (TxC (fun j => j < h.next) h) txs parts := by
    clear t
    induction al with
    | nil => exact .nil
    | cons h1 _ ih =>
      obtain ⟨a, b, e, s1, s2⟩ := h1
      exact .cons ⟨a, b, none, none, 35, 2, e, s1.row (ok _ (List.mem_cons_self ..)).io, s2.row⟩ (ih (fun t ht => ok t (List.mem_cons_of_mem _ ht)))
  exact rowG_of (fun o p h => h.fit.1) al2 a t
section
variable {Hh : Type} {enc : TypeId × Value → Hh} {P : Program} {W : World} {spare : Nat → Bool} {held : Bool} {base : Nat}
theorem trod_hd {e ub : TypeId} {f0 f1 f2 f3 f4 f5 : Field} (he : P.underlying e = some (.struct #[f0, f1, f2, f3, f4, f5])) (h0 : P.underlying f0.type = some (.int .u32)) (h1 : P.underlying f1.type = some (.array 32 ub)) (h2 : P.underlying f2.type = some (.array 32 ub)) (h3 : P.underlying f3.type = some (.int .u32)) (h4 : P.underlying f4.type = some (.int .u32)) (h5 : P.underlying f5.type = some (.int .u32)) (hu : P.underlying ub = some (.int .u8))
    {g : Nat} {cs : List Value} {x : DataW Hh × List MemPlace} (hx : DataW.trod enc P W base spare held g e cs = some x) :
    ∃ d : HdQ, d.ok ∧ ∀ n, Rd (absD P (n + 3) e x.1) (fun _ vs => vs = hdV d) := by
  obtain ⟨xs, m, _, rfl, _, hl, hf⟩ := DataW.trod_struct he hx
  obtain ⟨x0, x1, x2, x3, x4, x5, rfl⟩ := xs6 hl
  obtain ⟨d1, p1⟩ := x1
  obtain ⟨d2, p2⟩ := x2
  obtain ⟨v0, _, e0, w0⟩ := DataW.trod_int h0 (hf 0 f0 rfl)
  obtain ⟨s1, l1, b1, r1⟩ := trod_hash' h1 hu (hf 1 f1 rfl)
  obtain ⟨s2, l2, b2, r2⟩ := trod_hash' h2 hu (hf 2 f2 rfl)
  obtain ⟨v3, _, e3, w3⟩ := DataW.trod_int h3 (hf 3 f3 rfl)
  obtain ⟨v4, _, e4, w4⟩ := DataW.trod_int h4 (hf 4 f4 rfl)
  obtain ⟨v5, _, e5, w5⟩ := DataW.trod_int h5 (hf 5 f5 rfl)
  simp [Lit.wf, IntKind.min, IntKind.max, IntKind.signed, IntKind.bits] at w0 w3 w4 w5
  obtain ⟨n0, rfl⟩ := Int.eq_ofNat_of_zero_le w0.1
  obtain ⟨n3, rfl⟩ := Int.eq_ofNat_of_zero_le w3.1
  obtain ⟨n4, rfl⟩ := Int.eq_ofNat_of_zero_le w4.1
  obtain ⟨n5, rfl⟩ := Int.eq_ofNat_of_zero_le w5.1
  refine ⟨⟨n0, s1, s2, n3, n4, n5⟩, ⟨by show n0 < _; omega, l1, b1, l2, b2, by show n3 < _; omega, by show n4 < _; omega, by show n5 < _; omega⟩, fun j => ?_⟩
  have hz := rd_struct (Hh := Hh) (j + 2) he [x0.1, d1, d2, x3.1, x4.1, x5.1] rfl (Rs := [_, _, _, _, _, _]) (.cons (by rw [e0]; exact rd_int (j + 1) h0 (n0 : Int)) (.cons (rd_hash j r1) (.cons (rd_hash j r2) (.cons (by rw [e3]; exact rd_int (j + 1) h3 (n3 : Int)) (.cons (by rw [e4]; exact rd_int (j + 1) h4 (n4 : Int)) (.cons (by rw [e5]; exact rd_int (j + 1) h5 (n5 : Int)) .nil))))))
  intro nx
  obtain ⟨vs, bls, n1, q1, q2, q3⟩ := hz nx
  refine ⟨vs, bls, n1, q1, q2, fun h hh => ?_⟩
  obtain ⟨parts, rfl, al⟩ := q3 h hh
  cases al with | cons a0 al => cases al with | cons a1 al => cases al with | cons a2 al => cases al with | cons a3 al => cases al with | cons a4 al => cases al with | cons a5 al =>
  cases al
  rw [a0, a1, a2, a3, a4, a5]
  unfold hdV
  simp
end
end Go.Eng
