/- What functions of the program come to: own work. -/
import Derived.Test.YtfopajklnakmpaaBxU
namespace Go.Eng
open Go
variable {E : Nat → Option Fn} {X : Orc}
set_option linter.unusedSimpArgs false
set_option linter.unusedVariables false
theorem byt_shaV (l : List Nat) : byt (shaV l) = true := shaV_byt _
theorem rtw2_go (e : EnRo E) (x : NoRo X) (et : E k_purserref04_Twice = some f_purserref04_Twice) (xt : ∀ a h, X (.fn k_purserref04_Twice) a h = none) (K : Nat) (hK : 8000 < K) (l : List Nat) (bl : byt l = true) (hl2 : l.length ≤ 400000) (a : Option (Nat × Nat)) (c : Option Nat) (ez : Nat) (h : H) (src : SrcH h a ez l) :
    ∃ h', callX E X (K + 301) (.fn k_purserref04_Twice) [.slice a l.length c ez] h = some (.agg (ofI .u8 (shaV (shaV l))), h') ∧ Kp h h' := by
  rw [x_cfn et _ _ (Nat.le_of_ble_eq_true rfl) (xt _ _)]
  rw [← z32e]
  obtain ⟨Z, eZ⟩ : ∃ Z, ofI .u8 (List.replicate 32 0) = Z := ⟨_, rfl⟩
  rw [eZ]
  obtain ⟨hA, eA⟩ : ∃ hA, h.new (.cells Z .rw) = hA := ⟨_, rfl⟩
  have kA : Kp h hA := by rw [← eA]; exact Kp.new _ _
  have nA : hA.next = h.next + 1 := by rw [← eA]; rfl
  have g0 : hA.get h.next = some (.cells Z .rw) := by rw [← eA]; exact h_new_same _ _
  obtain ⟨h1, r1, k1⟩ := rof_goz e x K l bl (by omega) (by omega) a c ez hA (src.mono kA)
  have kn1 := k1.1
  obtain ⟨s, es⟩ : ∃ s, shaV l = s := ⟨_, rfl⟩
  have hs : s.length = 32 := by rw [← es]; exact shaV_len l
  obtain ⟨st, pu, ld⟩ := z32_st s hs Z eZ
  rw [es] at r1 ⊢
  obtain ⟨h2, eh2⟩ : ∃ h2, (h1.new (.cells Z .rw)).put h1.next (.cells (ofI .u8 s) .rw) = h2 := ⟨_, rfl⟩
  have k2 : Kp h1 h2 := by rw [← eh2]; (repeat (first | exact Kp.refl _ | refine Kp.put ?_ _ (by first | omega | (simp only [h_next_put, h_next_new, h_next_del]; omega)) | refine Kp.del ?_ (by first | omega | (simp only [h_next_put, h_next_new, h_next_del]; omega)) | refine Kp.trans ?_ (Kp.new _ _)))
  have n2 : h2.next = h1.next + 1 := by rw [← eh2]; rfl
  have gz : (h1.new (.cells Z .rw)).get h1.next = some (.cells Z .rw) := h_new_same _ _
  have g2 : h2.get h1.next = some (.cells (ofI .u8 s) .rw) := by rw [← eh2]; exact h_put_same _ _ _
  obtain ⟨h3, r3, k3⟩ := rof_goz e x K s (by rw [← es]; exact byt_shaV l) (by omega) (by omega) (some (h1.next, 0)) (some 32) 1 h2 (.inr ⟨h1.next, 0, ofI .u8 s, .rw, rfl, rfl, by omega, g2, by rw [ofI_len]; omega, by rw [List.drop_zero]; exact List.take_of_length_le (by rw [ofI_len]; omega)⟩)
  rw [hs] at r3
  have kn3 := k3.1
  obtain ⟨s2, es2⟩ : ∃ s2, shaV s = s2 := ⟨_, rfl⟩
  have hs2 : s2.length = 32 := by rw [← es2]; exact shaV_len s
  obtain ⟨st2, pu2, ld2⟩ := z32_st s2 hs2 Z eZ
  rw [es2] at r3 ⊢
  have g3 : h3.get h.next = some (.cells Z .rw) := by rw [k3.2 _ (by omega), k2.2 _ (by omega), k1.2 _ (by omega), g0]
  refine ⟨h3.put h.next (.cells (ofI .u8 s2) .rw), ?_, ⟨by show h.next ≤ h3.next; omega, fun j hj => by rw [h_put_ne _ _ (by omega), k3.2 _ (by omega), k2.2 _ (by omega), k1.2 _ (by omega), kA.2 _ hj]⟩⟩
  have sB : ∀ h i, slcB (some (.cells (ofI .u8 s) .rw)) 32 1 i 0 none none h = some (.slice (some (i, 0)) 32 (some 32) 1, h) := fun h i => slcB_nn _ _ _ _ _ _ (by rw [ofI_len]; omega)
  generalize ofI .u8 s2 = S2 at *
  generalize ofI .u8 s = S1 at *
  generalize l.length = n at *
  simp (config := {maxSteps := 2000000}) (disch := first | omega | (simp only [List.length_cons, List.length_nil, List.length_append, List.length_drop]; omega)) only [eA, r1, st, pu, eh2, g2, r3, g3, st2, pu2, ld2, ↓x_slcA, x_slcAE, sB, x_M0, ↓h_put_get, ↓h_new_get, m_load, ↓m_st, m_stE, ↓s_alloc, s_resc, s_consR, s_res0, ↓s_ops, ↓s_seq, ↓s_ret, ↓s_nil, ↓s_op, ↓s_bindS, s_bindS, ↓s_bindE, s_bindE, s_norm, ↓s_getp, ↓s_getp0, ↓s_get, ↓s_os0, ↓s_os1, ↓s_list0, ↓s_list1, ↓s_mov, ↓s_call, s_end, s_res0, s_tup1, ↓iteN_true, ↓iteN_false, iteN_true, iteN_false, Nat.reduceEqDiff, decide_true, decide_false]
  try rfl
end Go.Eng
namespace Go.Eng
open Go
variable {E : Nat → Option Fn} {X : Orc}
set_option linter.unusedSimpArgs false
set_option linter.unusedVariables false
end Go.Eng
