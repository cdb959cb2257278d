/- What functions of the program come to: own work. -/
import Derived.Test.YtfopajklnakmpaaBtO
import Derived.Test.YtfopajklnakmpaaBtP
namespace Go.Eng
open Go
variable {E : Nat → Option Fn} {X : Orc}
set_option linter.unusedSimpArgs false
set_option linter.unusedVariables false
theorem SrcH.toS {h : H} {a : Option (Nat × Nat)} {e : Nat} {l : List Nat} (s : SrcH h a e l) (S : Nat → Prop) (w : ∀ q z, a = some (q, z) → S q) : SrcS S h a e l := by
  rcases s with s | ⟨bi, off, vs, m, e1, e2, hb, g, hl, hv⟩
  · exact .inl s
  · exact .inr ⟨bi, off, vs, m, e1, e2, w _ _ e1, hb, g, hl, hv⟩
theorem app_row (h : H) (sz bts n : Nat) (cs : List V) (hn : 0 < n) (ro : roomy (0 + n) bts = true) (pl : cs.all plainV = true) : appendC (h.new (.cells [] .rw)) sz bts (.slice (some (h.next, 0)) 0 (some 0) sz) (some (n, cs)) = some (.slice (some (h.next + 1, 0)) n none sz, (h.new (.cells [] .rw)).new (.cells cs .rw)) := by
  obtain ⟨n, rfl⟩ : ∃ m, n = m + 1 := ⟨n - 1, by omega⟩
  have g1 : (h.new (.cells [] .rw)).get h.next = some (.cells [] .rw) := h_new_same _ _
  have nx : (h.new (.cells [] .rw)).next = h.next + 1 := rfl
  obtain ⟨h1, e1⟩ : ∃ h1, h.new (.cells [] .rw) = h1 := ⟨_, rfl⟩
  rw [e1] at g1 nx ⊢
  unfold appendC
  simp only
  have r : (roomy (0 + (n + 1)) bts && (Nat.beq sz sz || (some (h.next, 0) : Option (Nat × Nat)).isNone) && cs.all plainV) = true := by
    rw [pl, ro]; simp
  have f : fullC (some 0) (0 + (n + 1)) = true := by
    show Nat.blt 0 (0 + (n + 1)) = true
    simp
  rw [r]
  simp only [_root_.cond_true, g1, f]
  have rd : readN ([] : List V) 0 (0 * sz) = some [] := by rw [Nat.zero_mul]; rfl
  simp only [rd, List.nil_append, Nat.zero_add, nx]

theorem part35 (cs : List V) (i j : Nat) (v : V) (f : Nat) (hf : f < 35) : ((cs.set (i * 35 + f) v).drop (j * 35)).take 35 = if j = i then ((cs.drop (j * 35)).take 35).set f v else (cs.drop (j * 35)).take 35 := by
  apply List.ext_getElem?
  intro k
  by_cases hk : k < 35
  · rw [List.getElem?_take_of_lt hk, List.getElem?_drop, List.getElem?_set]
    by_cases hj : j = i
    · rw [if_pos hj, List.getElem?_set, List.getElem?_take_of_lt hk, List.getElem?_drop, List.length_take, List.length_drop]
      subst hj
      by_cases hk2 : f = k
      · subst hk2
        rw [if_pos rfl, if_pos rfl]
        by_cases hl : j * 35 + f < cs.length
        · rw [if_pos hl, if_pos (by omega)]
        · rw [if_neg hl, if_neg (by omega)]
      · rw [if_neg (by omega), if_neg hk2]
    · rw [if_neg hj, if_neg (by omega), List.getElem?_take_of_lt hk, List.getElem?_drop]
  · have h1 : ((List.take 35 (List.drop (j * 35) (cs.set (i * 35 + f) v)))).length ≤ k := by rw [List.length_take]; omega
    rw [List.getElem?_eq_none h1]
    split
    · rw [List.getElem?_eq_none (by rw [List.length_set, List.length_take]; omega)]
    · rw [List.getElem?_eq_none (by rw [List.length_take]; omega)]
end Go.Eng
namespace Go.Eng
open Go
variable {E : Nat → Option Fn} {X : Orc}
set_option linter.unusedSimpArgs false
set_option linter.unusedVariables false
theorem inV_33 (o : InQ) (b : Option (Nat × Nat)) (cb : Option Nat) (eb : Nat) (l : o.tx.length = 32) : (inV o b cb eb)[33]? = some (.slice b o.l.length cb eb) := by
  unfold inV
  rw [List.getElem?_append_right (by rw [ofI_len]; omega), ofI_len, l]; rfl
theorem SrcS.nil {S : Nat → Prop} {h : H} {e : Nat} {l : List Nat} {a : Option (Nat × Nat)} (s : SrcS S h a e l) : a = none → l = [] := by
  intro h0
  rcases s with s | ⟨bi, off, vs, m, e1, _⟩
  · exact s
  · rw [h0] at e1; cases e1

end Go.Eng
namespace Go.Eng
open Go
variable {E : Nat → Option Fn} {X : Orc}
set_option linter.unusedSimpArgs false
set_option linter.unusedVariables false
structure NoCp (X : Orc) : Prop where
  cp : ∀ a h, X (.fn k_tx_Copy) a h = none
  ci : ∀ a h, X (.fn k_slices_Clone_api_In_api_In) a h = none
  co : ∀ a h, X (.fn k_slices_Clone_api_Out_api_Out) a h = none
  cl : ∀ a h, X (.fn k_bytes_Clone) a h = none
structure CpH (h h' : H) (t : TxQ) (q r : Nat) (cs ds : List V) : Prop where
  q1 : h.next ≤ q
  r1 : h.next ≤ r
  qr : q ≠ r
  q2 : q < h'.next
  r2 : r < h'.next
  gq : h'.get q = some (.cells cs .rw)
  gr : h'.get r = some (.cells ds .rw)
  lc : cs.length = t.ins.length * 35
  ld : ds.length = t.outs.length * 2
  ai : ∀ i o, t.ins[i]? = some o → InC (fun j => h.next ≤ j ∧ j ≠ q ∧ j ≠ r) h' o ((cs.drop (i * 35)).take 35)
  ao : ∀ i o, t.outs[i]? = some o → OutC (fun j => h.next ≤ j ∧ j ≠ q ∧ j ≠ r) h' o ((ds.drop (i * 2)).take 2)
end Go.Eng
