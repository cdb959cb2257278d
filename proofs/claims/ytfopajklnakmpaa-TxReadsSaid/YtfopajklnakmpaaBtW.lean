/- What functions of the program come to: own work. -/
import Derived.Test.YtfopajklnakmpaaBtV
namespace Go.Eng
open Go
variable {E : Nat → Option Fn} {X : Orc}
set_option linter.unusedSimpArgs false
set_option linter.unusedVariables false
/-! data that may be written over -/
def SrcW (S : Nat → Prop) (h : H) (a : Option (Nat × Nat)) (e : Nat) (l : List Nat) : Prop := l = [] ∨ ∃ bi off vs m, a = some (bi, off) ∧ e = 1 ∧ S bi ∧ bi < h.next ∧ h.get bi = some (.cells vs m) ∧ off + l.length ≤ vs.length ∧ (vs.drop off).take l.length = ofI .u8 l ∧ isRo m = false
theorem SrcW.s {S : Nat → Prop} {h : H} {a : Option (Nat × Nat)} {e : Nat} {l : List Nat} (s : SrcW S h a e l) : SrcS S h a e l := by
  rcases s with s | ⟨bi, off, vs, m, e1, e2, hk, hb, g, hl, hv, _⟩
  · exact .inl s
  · exact .inr ⟨bi, off, vs, m, e1, e2, hk, hb, g, hl, hv⟩
theorem SrcW.mono2 {S S' : Nat → Prop} {h h' : H} {a : Option (Nat × Nat)} {e : Nat} {l : List Nat} (s : SrcW S h a e l) (hn : h.next ≤ h'.next) (k : ∀ j, S j → j < h.next → h'.get j = h.get j) (w : ∀ j, S j → j < h.next → S' j) : SrcW S' h' a e l := by
  rcases s with s | ⟨bi, off, vs, m, e1, e2, hk, hb, g, hl, hv, hm⟩
  · exact .inl s
  · exact .inr ⟨bi, off, vs, m, e1, e2, w _ hk hb, by omega, by rw [k _ hk hb, g], hl, hv, hm⟩
def InW (S : Nat → Prop) (h : H) (o : InQ) (p : List V) : Prop := ∃ b cb eb, p = inV o b cb eb ∧ SrcW S h b eb o.l ∧ o.tx.length = 32
def OutW (S : Nat → Prop) (h : H) (o : OutQ) (p : List V) : Prop := ∃ b cb eb, p = [.int .i64 o.v, .slice b o.l.length cb eb] ∧ SrcW S h b eb o.l
theorem InW.c {S : Nat → Prop} {h : H} {o : InQ} {p : List V} (r : InW S h o p) : InC S h o p := by
  obtain ⟨b, cb, eb, e, s, l⟩ := r
  exact ⟨b, cb, eb, e, s.s, l⟩
theorem OutW.c {S : Nat → Prop} {h : H} {o : OutQ} {p : List V} (r : OutW S h o p) : OutC S h o p := by
  obtain ⟨b, cb, eb, e, s⟩ := r
  exact ⟨b, cb, eb, e, s.s⟩
theorem InW.mono2 {S S' : Nat → Prop} {h h' : H} {o : InQ} {p : List V} (r : InW S h o p) (hn : h.next ≤ h'.next) (k : ∀ j, S j → j < h.next → h'.get j = h.get j) (w : ∀ j, S j → j < h.next → S' j) : InW S' h' o p := by
  obtain ⟨b, cb, eb, e, s, l⟩ := r
  exact ⟨b, cb, eb, e, s.mono2 hn k w, l⟩
theorem OutW.mono2 {S S' : Nat → Prop} {h h' : H} {o : OutQ} {p : List V} (r : OutW S h o p) (hn : h.next ≤ h'.next) (k : ∀ j, S j → j < h.next → h'.get j = h.get j) (w : ∀ j, S j → j < h.next → S' j) : OutW S' h' o p := by
  obtain ⟨b, cb, eb, e, s⟩ := r
  exact ⟨b, cb, eb, e, s.mono2 hn k w⟩
end Go.Eng
namespace Go.Eng
open Go
variable {E : Nat → Option Fn} {X : Orc}
set_option linter.unusedSimpArgs false
set_option linter.unusedVariables false
end Go.Eng
namespace Go.Eng
open Go
variable {E : Nat → Option Fn} {X : Orc}
set_option linter.unusedSimpArgs false
set_option linter.unusedVariables false
end Go.Eng
