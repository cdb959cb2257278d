/- What functions of the program come to: own work. -/
import Derived.Test.YtfopajklnakmpaaBaR
import Derived.Shelf.Abstract
import Derived.Lib.Repeat
import Derived.Lib.Bytealg
import Derived.Below
/-
  ENGINE, part 30: calls of the library that a contract is known of. Own work.
-/
namespace Go.Eng
open Go Go.RowKit Go.Proofs

variable {P : Program}
abbrev g0 : Gn := ⟨id, id, fun _ _ h => h⟩

theorem sz_below {w w' : World} (hb : Below w.heap.size w w') : Sz.le (szOf w) (szOf w') := by
  intro b n h
  unfold szOf at *
  have hlt : b < w.heap.size := by
    rcases Nat.lt_or_ge b w.heap.size with h1 | h1
    · exact h1
    · rw [Array.getElem?_eq_none h1] at h; cases h
  rw [hb.block b hlt]; exact h
/-- what a contract says, as a call of the evaluator -/
theorem callOk_of_calls {f : Nat} (he : Enters P f) {args : List V} {h : H} {v : V}
    (hc : ∀ (μ : Mu) (w : World) (xs : Array Value), HR P g0 μ h w → VRs g0 μ (szOf w) args xs.toList → ∃ x, (∀ μ' sz', VR g0 μ' sz' v x) ∧ Calls P f xs w (fun e w' => e = .returned x ∧ Below w.heap.size w w')) : CallOk P g0 (.fn f) args h v h := by
  intro μ w hr xs hxs f' hf'
  have hf' : f' = f := hf'
  subst hf'
  obtain ⟨x, hx, hcs⟩ := hc μ w xs hr hxs
  refine ⟨he xs w, fun cs => ?_⟩
  obtain ⟨e, w1, fr, ⟨rfl, hb⟩, r1, r2, r3⟩ := hcs cs
  refine ⟨fr, μ, w1, x, r1, r2, r3, ⟨hr.fresh, fun i b hb' => ?_, hr.inj⟩, ⟨Mu.le_refl _, hb.size, sz_below hb, fun b hb' _ => hb.block b hb', fun i blk b base h1 h3 _ => ⟨i, blk, base, h1, id, h3⟩, Nat.le_refl _, ⟨hb.os, hb.output⟩, fun _ _ => rfl⟩, hx _ _⟩
  obtain ⟨a, base, hm, hbr⟩ := hr.blk i b hb'
  exact ⟨a, base, hm, hbr.mono (Mu.le_refl _) (sz_below hb) (hb.block a hbr.lt)⟩
theorem pureX_calls {f : Nat} (he : Enters P f) {s : List V → Option V} (hs : ∀ args v, s args = some v → dataV v = true ∧ ∀ (μ : Mu) (sz : Sz) (xs : Array Value), VRs g0 μ sz args xs.toList → ∃ x, (∀ μ' sz', VR g0 μ' sz' v x) ∧ ∀ w, Calls P f xs w (fun e w' => e = .returned x ∧ Below w.heap.size w w')) : QOk P g0 (pureX f s) := by
  intro t args h v h1 hc
  unfold pureX at hc
  cases t with
  | yld l => cases hc
  | fn f' =>
    simp only at hc
    cases hb : Nat.beq f' f with
    | false => rw [hb] at hc; cases hc
    | true =>
      rw [hb] at hc
      obtain rfl := Nat.eq_of_beq_eq_true hb
      cases hl : s args with
      | none => simp only [hl] at hc; cases hc
      | some v' =>
        simp only [hl] at hc
        cases hc
        obtain ⟨d2, hq⟩ := hs args _ hl
        exact callOk_of_calls he fun μ w xs _ hx => by
          obtain ⟨x, h1, h2⟩ := hq μ (szOf w) xs hx
          exact ⟨x, h1, h2 w⟩

/-! ### strings.Repeat -/
def repN (s : List Nat) : Nat → List Nat
  | 0 => []
  | c + 1 => s ++ repN s c
theorem repN_map (l : List UInt8) (c : Nat) : (Lib.repeatL l c).map (·.toNat) = repN (l.map (·.toNat)) c := by
  induction c with
  | zero => rfl
  | succ c ih => simp only [Lib.repeatL, repN, List.map_append, ih]
def repS : List V → Option V
  | [.str s, .int .i64 (.ofNat c)] => match Nat.ble (s.length * c) 4294967296 && Nat.ble c 4294967296 with
    | true => some (.str (repN s c))
    | false => none
  | _ => none
theorem repX_ok {f : Nat} (he : Enters P f) (hc : ∀ (s : ByteArray) (c : Nat) (w : World), c ≤ 9223372036854775807 → s.size * c ≤ 140737488355328 → Calls P f #[.string s, .int .i64 c] w fun e w' => e = .returned (.string ⟨(Lib.repeatL s.data.toList c).toArray⟩) ∧ Below w.heap.size w w') : QOk P g0 (pureX f repS) := by
  refine pureX_calls he fun args v hs => ?_
  unfold repS at hs
  split at hs
  · rename_i s c
    split at hs
    · rename_i hb
      simp only [Bool.and_eq_true] at hb
      have b1 := Nat.le_of_ble_eq_true hb.1
      have b2 := Nat.le_of_ble_eq_true hb.2
      cases hs
      refine ⟨rfl, fun μ sz xs hx => ?_⟩
      obtain ⟨xs⟩ := xs
      cases hx with
      | cons _ x1 _ m1 h1 h2 =>
        cases h2 with
        | cons _ x2 _ m2 h3 h4 =>
          cases h4
          cases h1 with
          | str _ bs hbs =>
            cases h3
            have hlen : bs.size = s.length := by rw [← hbs, List.length_map, Array.length_toList]; rfl
            refine ⟨_, fun μ' sz' => ?_, fun w => hc bs c w (by omega) (by rw [hlen]; omega)⟩
            refine .str _ _ ?_
            rw [← hbs]
            simpa using repN_map bs.data.toList c
    · cases hs
  · cases hs

/-! ### comparisons -/
end Go.Eng
