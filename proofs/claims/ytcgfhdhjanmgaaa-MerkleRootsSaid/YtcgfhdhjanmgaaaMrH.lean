/- What functions of the program come to: own work. -/
import Derived.Test.YtcgfhdhjanmgaaaMrE
namespace Go.Eng
open Go
variable {E : Nat → Option Fn} {X : Orc}
set_option linter.unusedSimpArgs false
set_option linter.unusedVariables false
theorem RowB.flat {k : Nat} : ∀ (L : List (List Nat)) (vs : List V), RowB k vs L → vs.take (L.length * k) = ofI .u8 L.flatten := by
  intro L
  induction L with
  | nil => intro vs _; rw [List.length_nil, Nat.zero_mul]; rfl
  | cons x L ih =>
    intro vs r
    obtain ⟨h1, h2⟩ := r.2 0 x rfl
    rw [Nat.zero_mul, List.drop_zero] at h1
    have rd : RowB k (vs.drop k) L := by
      have := RowB.dropL (off := 0) (by rw [List.drop_zero]; exact r) 1 (by simp)
      rw [Nat.zero_add, Nat.one_mul] at this
      exact this
    rw [List.length_cons, Nat.succ_mul, Nat.add_comm, List.take_add, h1, ih _ rd, List.flatten_cons, ofI_app]
theorem flatRow {k : Nat} : ∀ (L : List (List Nat)), (∀ o ∈ L, o.length = k) → RowB k (ofI .u8 L.flatten) L := by
  intro L
  induction L with
  | nil => intro _; exact RowB.nil _ _
  | cons x L ih =>
    intro h
    rw [List.flatten_cons, ofI_app]
    exact (ih (fun o ho => h o (List.mem_cons_of_mem _ ho))).cons (h x List.mem_cons_self)
theorem src_n (h : H) {sz q off n : Nat} {vs : List V} {md : Md} (g : h.get q = some (.cells vs md)) (hl : off + n * sz ≤ vs.length) (hn : 0 < n) (c : Option Nat) : srcCells h sz (.slice (some (q, off)) n c sz) = some (n, (vs.drop off).take (n * sz)) := by
  obtain ⟨n, rfl⟩ : ∃ m, n = m + 1 := ⟨n - 1, by omega⟩
  rw [m_src, g]
  show (match readN vs off ((n + 1) * sz) with | some l => some (n + 1, l) | none => none) = _
  rw [readN_of _ _ _ hl]
theorem app_new (h : H) (i n : Nat) (l : List Nat) (hn : 0 < n) (hn2 : n ≤ 100000) (g : h.get i = some (.cells [] .rw)) : appendC h 32 32 (.slice (some (i, 0)) 0 (some 0) 32) (some (n, ofI .u8 l)) = some (.slice (some (h.next, 0)) n none 32, h.new (.cells (ofI .u8 l) .rw)) := by
  obtain ⟨n, rfl⟩ : ∃ m, n = m + 1 := ⟨n - 1, by omega⟩
  unfold appendC
  simp only
  have r : (roomy (0 + (n + 1)) 32 && (Nat.beq 32 32 || (some (i, 0) : Option (Nat × Nat)).isNone) && (ofI .u8 l).all plainV) = true := by
    rw [plain_ofI]; have : roomy (0 + (n + 1)) 32 = true := by simp [roomy]; omega
    rw [this]; rfl
  have f : fullC (some 0) (0 + (n + 1)) = true := by
    show Nat.blt 0 (0 + (n + 1)) = true
    simp
  rw [r]
  simp only [_root_.cond_true, g, f]
  have rd : readN ([] : List V) 0 (0 * 32) = some [] := rfl
  simp only [rd, List.nil_append, Nat.zero_add]
end Go.Eng
namespace Go.Eng
open Go
variable {E : Nat → Option Fn} {X : Orc}
set_option linter.unusedSimpArgs false
set_option linter.unusedVariables false
end Go.Eng
