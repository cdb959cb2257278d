/- What functions of the program come to: own work. -/
import Derived.Test.YtfopajklnakmpaaBxD
namespace Go.Eng
open Go
variable {E : Nat → Option Fn} {X : Orc}
set_option linter.unusedSimpArgs false
set_option linter.unusedVariables false
end Go.Eng
namespace Go.Eng
open Go
variable {E : Nat → Option Fn} {X : Orc}
set_option linter.unusedSimpArgs false
set_option linter.unusedVariables false
end Go.Eng
namespace Go.Eng
open Go
variable {E : Nat → Option Fn} {X : Orc}
set_option linter.unusedSimpArgs false
set_option linter.unusedVariables false
theorem RdH.put {ep rp : Nat} {l : List Nat} {a : Option (Nat × Nat)} {s : Nat × Bool} {h : H} (r : RdH ep rp l a s h) (q : Nat) (b : Blk) (h1 : q ≠ ep) (h2 : q ≠ rp) (h3 : ∀ o, a ≠ some (q, o)) : RdH ep rp l a s (h.put q b) :=
  ⟨r.y.mono (Nat.le_refl _) (h_put_ne _ _ h1) (fun q' hq eq => h_put_ne _ _ (fun e => h3 0 (by rw [eq, e]))), by rw [h_put_ne _ _ h2]; exact r.g, r.lt, r.ne, r.na⟩
theorem RowF.put {α : Type} {sz : Nat} {A : (Nat → Prop) → H → α → List V → Prop} (it : ItA sz A) {lo : Nat} {h : H} {ops : List α} {a : Option (Nat × Nat)} {c : Option Nat} {e : Nat} (r : RowF (fun j => lo ≤ j) lo sz A h ops a c e) (q : Nat) (hq : q < lo) (b : Blk) : RowF (fun j => lo ≤ j) lo sz A (h.put q b) ops a c e :=
  r.mono it (Nat.le_refl _) (fun i hk _ => h_put_ne _ _ (by have : lo ≤ i := hk; omega)) (fun q' o eq => h_put_ne _ _ (by have := r.lt eq; omega))
theorem RowF.kr {α : Type} {sz : Nat} {A : (Nat → Prop) → H → α → List V → Prop} (it : ItA sz A) {lo ep rp : Nat} {h h' : H} {ops : List α} {a : Option (Nat × Nat)} {c : Option Nat} {e : Nat} (r : RowF (fun j => lo ≤ j) lo sz A h ops a c e) (k : Kr ep rp h h') (h1 : ep < lo) (h2 : rp < lo) : RowF (fun j => lo ≤ j) lo sz A h' ops a c e :=
  r.mono it k.1 (fun i hk hi => k.2 _ hi (by have : lo ≤ i := hk; omega) (by have : lo ≤ i := hk; omega)) (fun q' o eq => by have := r.lt eq; exact k.2 _ (by omega) (by omega) (by omega))
end Go.Eng
namespace Go.Eng
open Go
variable {E : Nat → Option Fn} {X : Orc}
set_option linter.unusedSimpArgs false
set_option linter.unusedVariables false
/-- bytes stand at a reader's place -/
def At (l : List Nat) (s : Nat × Bool) (b : List Nat) : Prop := s.2 = false ∧ ∃ r, l.drop s.1 = b ++ r
theorem At.left {l : List Nat} {s : Nat × Bool} {a b : List Nat} (h : At l s (a ++ b)) : At l s a := by
  obtain ⟨h1, r, h2⟩ := h
  exact ⟨h1, b ++ r, by rw [h2, List.append_assoc]⟩
theorem At.right {l : List Nat} {s : Nat × Bool} {a b : List Nat} (h : At l s (a ++ b)) : At l (s.1 + a.length, false) b := by
  obtain ⟨h1, r, h2⟩ := h
  exact ⟨rfl, r, by show l.drop (s.1 + a.length) = _; rw [← List.drop_drop, h2, List.append_assoc, List.drop_left]⟩
theorem At.app {l : List Nat} {s : Nat × Bool} {a b : List Nat} (h : At l s a) (h' : At l (s.1 + a.length, false) b) : At l s (a ++ b) := by
  obtain ⟨h1, r, h2⟩ := h
  obtain ⟨_, r', h3⟩ := h'
  refine ⟨h1, r', ?_⟩
  have h3' : l.drop (s.1 + a.length) = b ++ r' := h3
  rw [← List.drop_drop, h2, List.drop_left] at h3'
  rw [h2, h3', List.append_assoc]
theorem At.nil {l : List Nat} {s : Nat × Bool} (h : s.2 = false) : At l s [] := ⟨h, _, rfl⟩
theorem At.le {l : List Nat} {s : Nat × Bool} {b : List Nat} (h : At l s b) (hb : 0 < b.length) : s.1 + b.length ≤ l.length := by
  obtain ⟨_, r, h2⟩ := h
  have := congrArg List.length h2
  rw [List.length_drop, List.length_append] at this; omega
theorem At.take {l : List Nat} {s : Nat × Bool} {b : List Nat} (h : At l s b) : (l.drop s.1).take b.length = b := by
  obtain ⟨_, r, h2⟩ := h
  rw [h2, List.take_left]
end Go.Eng
namespace Go.Eng
open Go
variable {E : Nat → Option Fn} {X : Orc}
set_option linter.unusedSimpArgs false
set_option linter.unusedVariables false
/-! lists of items -/
end Go.Eng
namespace Go.Eng
open Go
variable {E : Nat → Option Fn} {X : Orc}
set_option linter.unusedSimpArgs false
set_option linter.unusedVariables false
def pw (i : Nat) : Nat := 512 * 2 ^ i
end Go.Eng
namespace Go.Eng
open Go
variable {E : Nat → Option Fn} {X : Orc}
set_option linter.unusedSimpArgs false
set_option linter.unusedVariables false
theorem Wb.hc {h : H} {w : List Nat} {a : Option (Nat × Nat)} {c : Option Nat} {e : Nat} (s : Wb h w a c e) : w ≠ [] → c = none ∧ e = 1 := by
  rcases s with ⟨h1, _⟩ | ⟨_, q, md, _, h3, h4, _⟩
  · intro h; exact absurd h1 h
  · intro _; exact ⟨h3, h4⟩
structure NoTb (X : Orc) : Prop where
  te : NoTe X
  tc : NoTc X
  gr : ∀ a h, X (.fn k_purserref06_Great) a h = none
  rr : NoRr X
  ts : NoTs X
theorem NoTb.al : NoTb (alT k_purserlaw06_alive) := by repeat' (first | exact fun _ _ => rfl | exact fun _ _ _ => rfl | exact fun _ => rfl | constructor)
end Go.Eng
