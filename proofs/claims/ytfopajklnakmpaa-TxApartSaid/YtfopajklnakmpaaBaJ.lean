/- What functions of the program come to: own work. -/
import Derived.Test.YtfopajklnakmpaaBaI
namespace Go.Eng
open Go
variable {E : Nat → Option Fn} {X : Orc}
set_option linter.unusedSimpArgs false
set_option linter.unusedVariables false
/-! the document's own answers of layer 1 -/
structure NoRf (X : Orc) : Prop where
  pw : ∀ a h, X (.fn k_purserref01_power) a h = none
  fx : ∀ a h, X (.fn k_purserref01_Fixed) a h = none
  sz : ∀ a h, X (.fn k_purserref01_Size) a h = none
  by_ : ∀ a h, X (.fn k_purserref01_Bytes) a h = none
  tw : ∀ a h, X (.fn k_purserref01_Twin) a h = none
end Go.Eng
namespace Go.Eng
open Go
variable {E : Nat → Option Fn} {X : Orc}
set_option linter.unusedSimpArgs false
set_option linter.unusedVariables false
/-- what Size of the document answers: a slice that is its own, or a row of one -/
def SzH (h : H) (w : List Nat) (a : Option (Nat × Nat)) (c : Option Nat) (e : Nat) : Prop := Wb h w a c e ∨ ∃ y q, w = [y] ∧ a = some (q, 0) ∧ c = some 1 ∧ e = 1 ∧ h.get q = some (.cells (ofI .u8 w) .rw) ∧ q < h.next
theorem SzH.src {h : H} {w : List Nat} {a : Option (Nat × Nat)} {c : Option Nat} {e : Nat} (s : SzH h w a c e) : SrcH h a e w := by
  rcases s with s | ⟨y, q, rfl, rfl, rfl, rfl, g, hq⟩
  · exact s.src
  · exact .inr ⟨q, 0, _, .rw, rfl, rfl, hq, g, by rw [ofI_len]; omega, by rw [List.drop_zero]; exact List.take_of_length_le (by rw [ofI_len]; exact Nat.le_refl _)⟩
end Go.Eng
namespace Go.Eng
open Go
variable {E : Nat → Option Fn} {X : Orc}
set_option linter.unusedSimpArgs false
set_option linter.unusedVariables false
/-! the document's bytes of a transaction -/
theorem Nw.ap {h0 h : H} {w : List Nat} {a : Option (Nat × Nat)} {c : Option Nat} {e : Nat} (nw : Nw h0 h w a c e) (l : List Nat) (hl : w.length + l.length ≤ 100000000) :
    ∃ a' c' e' h', appendC h 1 1 (.slice a w.length c e) (some (l.length, ofI .u8 l)) = some (.slice a' (w ++ l).length c' e', h') ∧ Nw h0 h' (w ++ l) a' c' e' ∧ h.next ≤ h'.next ∧ (∀ i, i < h.next → a ≠ some (i, 0) → h'.get i = h.get i) ∧ ∀ q o, a' = some (q, o) → a = some (q, o) ∨ h.next ≤ q := by
  obtain ⟨a', c', e', h', r, wb, hn, fr, ow⟩ := ap_wb h w l a c e nw.wb hl
  have k0 := nw.kp.1
  refine ⟨a', c', e', h', r, ⟨⟨by omega, fun i hi => ?_⟩, wb, fun q o eq => ?_⟩, hn, fr, fun q o eq => ?_⟩
  · rw [fr i (by omega) (fun e => by have := nw.ge _ _ e; omega), nw.kp.2 _ hi]
  · rcases ow with ow | ow
    · rw [ow] at eq; exact nw.ge _ _ eq
    · rw [ow] at eq; cases eq; omega
  · rcases ow with ow | ow
    · rw [ow] at eq; exact .inl eq
    · rw [ow] at eq; cases eq; exact .inr (Nat.le_refl _)
theorem Nw.k {h0 h h' : H} {w : List Nat} {a : Option (Nat × Nat)} {c : Option Nat} {e : Nat} (nw : Nw h0 h w a c e) (k : Kp h h') : Nw h0 h' w a c e := ⟨nw.kp.trans k, nw.wb.kp k, nw.ge⟩
structure NoDb (X : Orc) : Prop where
  rf : NoRf X
  nu : ∀ a h, X (.fn k_purserref06_num) a h = none
  by_ : ∀ a h, X (.fn k_purserref06_Bytes) a h = none
  sa : ∀ a h, X (.fn k_purserref06_Same) a h = none
end Go.Eng
namespace Go.Eng
open Go
variable {E : Nat → Option Fn} {X : Orc}
set_option linter.unusedSimpArgs false
set_option linter.unusedVariables false
end Go.Eng
