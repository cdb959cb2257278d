/- What functions of the program come to: own work. -/
import Derived.Test.YtfopajklnakmpaaBxK
namespace Go.Eng
open Go
variable {E : Nat → Option Fn} {X : Orc}
set_option linter.unusedSimpArgs false
set_option linter.unusedVariables false
theorem fleql (h : H) (L : List Lf) (a b : List V) (x : Bool) (e : eqAll L a b = some x) : binV .eql (.flat L) h (.agg a) (.agg b) = some (.bool x) := by
  show (match eqAll L a b with | some b => some (V.bool b) | none => none) = _
  rw [e]
theorem eqAll_self : ∀ (l : List V) (L : List Lf), L = List.replicate l.length .i → (∀ v ∈ l, ∃ k n, v = .int k n) → eqAll L l l = some true := by
  intro l
  induction l with
  | nil => intro L hL _; rw [hL]; rfl
  | cons a r ih =>
    intro L hL hv
    obtain ⟨k, n, rfl⟩ := hv a List.mem_cons_self
    have := ih _ rfl (fun v h => hv v (List.mem_cons_of_mem _ h))
    rw [hL]
    simp only [List.length_cons, List.replicate_succ, eqAll, this, eqLf, kindEq_self, _root_.cond_true, ieq_dec, decide_true, Bool.and_self]
theorem ofI_int (k : IntKind) (l : List Nat) : ∀ v ∈ ofI k l, ∃ k n, v = V.int k n := by
  induction l with
  | nil => intro v hv; cases hv
  | cons n r ih =>
    intro v hv
    rcases List.mem_cons.1 hv with rfl | hv
    · exact ⟨_, _, rfl⟩
    · exact ih v hv
theorem hdV_int (x : HdQ) : ∀ v ∈ hdV x, ∃ k n, v = V.int k n := by
  intro v hv
  unfold hdV at hv
  simp only [List.mem_append, List.mem_cons, List.not_mem_nil, or_false] at hv
  rcases hv with ((rfl | hv) | hv) | rfl | rfl | rfl
  · exact ⟨_, _, rfl⟩
  · exact ofI_int _ _ v hv
  · exact ofI_int _ _ v hv
  · exact ⟨_, _, rfl⟩
  · exact ⟨_, _, rfl⟩
  · exact ⟨_, _, rfl⟩
theorem hd_self (x : HdQ) (ok : x.ok) (L : List Lf) (hL : L = List.replicate 68 .i) : eqAll L (hdV x) (hdV x) = some true :=
  eqAll_self _ L (by rw [hL, hdV_len x ok]) (hdV_int x)
theorem hash_self (s : List Nat) (hs : s.length = 32) (L : List Lf) (hL : L = List.replicate 32 .i) : eqAll L (ofI .u8 s) (ofI .u8 s) = some true :=
  eqAll_self _ L (by rw [hL, ofI_len, hs]) (ofI_int _ s)
end Go.Eng
namespace Go.Eng
open Go
variable {E : Nat → Option Fn} {X : Orc}
set_option linter.unusedSimpArgs false
set_option linter.unusedVariables false
structure NoBb (X : Orc) : Prop where
  bc : NoBc X
  bs : NoBs X
  db : NoDb X
  s7 : ∀ a h, X (.fn k_purserref07_Same) a h = none
theorem NoBb.al : NoBb (alT k_purserlaw07_alive) := by repeat' (first | exact fun _ _ => rfl | exact fun _ _ _ => rfl | exact fun _ => rfl | constructor)
end Go.Eng
