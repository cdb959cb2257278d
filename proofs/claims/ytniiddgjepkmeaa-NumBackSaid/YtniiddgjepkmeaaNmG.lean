/- What functions of the program come to: own work. -/
import Derived.Test.YtniiddgjepkmeaaNmE
import Derived.OpenShut
import Derived.ChangeSame
import Derived.ChangeArms
namespace Go.Eng
open Go
variable {E : Nat → Option Fn}
noncomputable def backX : Orc := orX (pureX k_purserlaw11_alive aliveS) (orX (newX k_num_Encode encS) (orX (bytesX k_num_True truS) (bytesX k_num_Decode decS)))
theorem backX_ok {P : Program} {g : Gn} (hE : Link P g E) (A : NumX E noX) (eT : E k_num_True = some f_num_True) (eD : E k_num_Decode = some f_num_Decode) (eN : E k_num_number = some f_num_number) (eB : E k_bytes_Equal = some f_bytes_Equal) (al : isTrue (callN E 1999 (.fn k_purserlaw11_alive) [] H.empty) = true) : QOk P g backX := by
  refine orX_ok (pureX_ok (callN_ok hE 1999) ?_) (orX_ok (encX_ok hE A) (orX_ok (truX_ok hE eT) (decX_ok hE A eD eN eB)))
  intro args v h
  unfold aliveS at h
  split at h
  · cases h
    obtain ⟨h1, e⟩ := isTrue_some al
    exact ⟨rfl, rfl, h1, e⟩
  · cases h
theorem backX_is : BackX backX where
  al h := orX_l (pureX_yes h rfl)
  enc n h hn := (orX_r (pureX_no h rfl)).trans (orX_l (newX_yes h (by unfold encS; simp only [hn, if_true])))
  encNo n h hn := (orX_r (pureX_no h rfl)).trans (orX_l (newX_yes h (c := []) (e := .int .i64 110) (by unfold encS; simp only [hn, Bool.false_eq_true, if_false])))
  tru x l v h h1 h2 := (orX_r (pureX_no h rfl)).trans ((orX_r (newX_no h rfl)).trans (orX_l (bytesX_yes h h1 h2)))
  dec x l h h1 h2 := (orX_r (pureX_no h rfl)).trans ((orX_r (newX_no h rfl)).trans ((orX_r (bytesX_no h rfl)).trans (bytesX_yes h h1 (by unfold decS; simp only [h2, if_true]))))
  law args h := (orX_r (pureX_no h rfl)).trans ((orX_r (newX_no h rfl)).trans ((orX_r (bytesX_no h rfl)).trans (bytesX_no h rfl)))
end Go.Eng
namespace Go.Eng
open Go
theorem absL_byt {H : Type} (P : Program) (e k : Nat) (he : P.underlying e = some (.int .u8)) (nx : Nat) : ∀ (s : List Nat), absL (absD (H := H) P (k + 1) e) (s.map fun (x : Nat) => .lit (.int .u8 (x : Int))) nx = some (ofBytes s, [], nx) := by
  intro s
  induction s with
  | nil => rfl
  | cons a r ih =>
    simp only [List.map_cons, absL]
    have : absD (H := H) P (k + 1) e (.lit (.int .u8 (a : Int))) nx = some ([.int .u8 (a : Int)], [], nx) := by simp only [absD, he]
    rw [this]
    simp only [ih]
    rfl
theorem absD_slc {H : Type} (P : Program) (n : Nat) {t e : TypeId} (ht : P.underlying t = some (.slice e)) (A B : List (DataW H)) (nx : Nat) : absD P (n + 1) t (.slice A B) nx = (match absL (absD P n e) A (nx + 1) with
    | none => none
    | some (vs, bl, n1) => match A.length + B.length with
      | 0 => some ([.slice (some (nx, 0)) 0 none (P.cellsOf e)], [], n1)
      | _ + 1 => some ([.slice (some (nx, 0)) A.length none (P.cellsOf e)], (nx, vs) :: bl, n1)) := by
  unfold absD
  rw [ht]
  rfl
theorem absD_int {H : Type} (P : Program) (n : Nat) {t : TypeId} {k : IntKind} (hu : P.underlying t = some (.int k)) (x : Int) (nx : Nat) : absD (H := H) P (n + 1) t (.lit (.int k x)) nx = some ([.int k x], [], nx) := by simp only [absD, hu]
/-- bytes, as they lie at the call -/
def BytesAt (h : H) (a : Option (Nat × Nat)) (l : List Nat) : Prop := l = [] ∨ (a = some (0, 0) ∧ h.get 0 = some (.cells (ofBytes l) .ro) ∧ 1 ≤ h.next)
theorem trod_bytes {H : Type} {enc : TypeId × Value → H} {P : Program} {W : World} {spare : Nat → Bool} {held : Bool} {base : Nat} {t e : TypeId} (ht : P.underlying t = some (.slice e)) (he : P.underlying e = some (.int .u8)) (hc : P.cellsOf e = 1)
    {v : Value} {d : DataW H} {p : List MemPlace} (h : DataW.Trod enc P W base spare held t v d p) : ∃ (l : List Nat) (a : Option (Nat × Nat)) (bl : List (Nat × List V)) (n1 : Nat), (∀ x ∈ l, x < 256) ∧ (∀ k, absD P (k + 2) t d 0 = some ([.slice a l.length none 1], bl, n1)) ∧ BytesAt (mkH bl n1) a l := by
  obtain ⟨f, hf⟩ := h
  rcases DataW.trod_slice ht hf with ⟨_, hx⟩ | ⟨ad, len, cap, elems, rest, n, _, _, hx, _, _, _, hl, hi, _, _⟩
  · have hd : d = .nil := congrArg Prod.fst hx
    subst hd
    refine ⟨[], none, [], 0, by simp, fun k => ?_, .inl rfl⟩
    simp only [absD, ht, hc, List.length_nil]
  · have hd : d = .slice (elems.map (·.1)) (rest.map (·.1)) := congrArg Prod.fst hx
    have go : ∀ x ∈ elems, ∃ b : Nat, x.1 = .lit (.int .u8 (b : Int)) ∧ b < 256 := by
      intro x hxm
      obtain ⟨i, hi1, hi2⟩ := List.getElem_of_mem hxm
      have hi3 : elems[i]? = some x := by rw [List.getElem?_eq_getElem hi1, hi2]
      have h4 := (hi i (by omega)).trans hi3
      simp only [Option.bind_eq_some_iff] at h4
      obtain ⟨cs, _, h5⟩ := h4
      obtain ⟨n, _, e1, w⟩ := DataW.trod_int he h5
      simp [Lit.wf, IntKind.min, IntKind.max, IntKind.signed, IntKind.bits] at w
      obtain ⟨b, rfl⟩ := Int.eq_ofNat_of_zero_le w.1
      exact ⟨b, by rw [e1], by omega⟩
    have lst : ∃ s : List Nat, elems.map (·.1) = s.map (fun (x : Nat) => DataW.lit (.int .u8 (x : Int))) ∧ (∀ x ∈ s, x < 256) := by
      clear hx hl hi hd
      induction elems with
      | nil => exact ⟨[], rfl, by simp⟩
      | cons x r ih =>
        obtain ⟨s, q1, q2⟩ := ih (fun y hy => go y (List.mem_cons_of_mem _ hy))
        obtain ⟨b, b1, b2⟩ := go x (List.mem_cons_self ..)
        refine ⟨b :: s, by simp only [List.map_cons, b1, q1], fun y hy => ?_⟩
        rcases List.mem_cons.1 hy with rfl | hy
        · exact b2
        · exact q2 y hy
    obtain ⟨s, s1, s2⟩ := lst
    have sl : (elems.map (·.1)).length = s.length := by rw [s1, List.length_map]
    have hab : ∀ k, absL (absD (H := H) P (k + 1) e) (elems.map (·.1)) 1 = some (ofBytes s, [], 1) := fun k => by rw [s1]; exact absL_byt P e k he 1 s
    subst hd
    cases hn : (elems.map (·.1)).length + (rest.map (·.1)).length with
    | zero =>
      have h0 : s.length = 0 := by omega
      refine ⟨s, some (0, 0), [], 1, s2, fun k => ?_, .inl (List.length_eq_zero_iff.1 h0)⟩
      rw [absD_slc P (k + 1) ht, hab k]
      simp only [hc, hn, h0]
    | succ m =>
      refine ⟨s, some (0, 0), [(0, ofBytes s)], 1, s2, fun k => ?_, .inr ⟨rfl, rfl, Nat.le_refl _⟩⟩
      rw [absD_slc P (k + 1) ht, hab k]
      simp only [hc, hn]
      rw [sl]
theorem bytes_rd {h : H} {a : Option (Nat × Nat)} {l : List Nat} (B : BytesAt h a l) (hb : ∀ x ∈ l, x < 256) (cp : Option Nat) (h' : H) (hg : h'.get 0 = h.get 0) : rdB h' (.slice a l.length cp 1) = some l ∧ b2sV h' (.slice a l.length cp 1) = some (.str l) := by
  rcases B with rfl | ⟨rfl, h0, _⟩
  · exact ⟨rfl, by cases a <;> rfl⟩
  · cases hl : l.length with
    | zero =>
      have : l = [] := List.length_eq_zero_iff.1 hl
      subst this
      exact ⟨rfl, rfl⟩
    | succ K =>
      refine ⟨?_, ?_⟩
      · show rdC (K + 1) 0 (h'.get 0) = _
        rw [hg, h0]
        exact rdC_of l .ro (K + 1) hl
      · rw [nx_bs1, hg, h0]
        exact nsE_of l hb .ro (K + 1) hl
theorem BytesAt.new1 {h : H} {a : Option (Nat × Nat)} {l : List Nat} (B : BytesAt h a l) (b : Blk) (hne : l ≠ []) : (h.new b).get 0 = h.get 0 := by
  rcases B with rfl | ⟨_, _, hn⟩
  · exact absurd rfl hne
  · rw [H.get_new, if_neg (by omega)]
variable {E : Nat → Option Fn}
theorem law_NumBack' {X : Orc} (M : BackX X) (e : E k_purserlaw11_NumBack = some f_purserlaw11_NumBack) (n : Int) (l : List Nat) (hb : ∀ x ∈ l, x < 256) (a : Option (Nat × Nat)) (cp : Option Nat) (h : H) (B : BytesAt h a l) :
    ∃ h', callX E X 2000 (.fn k_purserlaw11_NumBack) [.int .i64 n, .slice a l.length cp 1] h = some (.bool true, h') := by
  by_cases hne : l = []
  · subst hne
    refine law_NumBack M e n [] hb a 0 rfl cp 1 h rfl (fun _ => rfl) (fun _ _ => rfl) ?_ ?_ ?_ <;> (try intro _) <;> (try intro _) <;> cases a <;> rfl
  · have g1 : ∀ b, (h.new b).get 0 = h.get 0 := fun b => B.new1 b hne
    have g2 : ∀ b b', ((h.new b).new b').get 0 = h.get 0 := fun b b' => by
      have hn : 1 ≤ h.next := by
        rcases B with h0 | ⟨_, _, hn⟩
        · exact absurd h0 hne
        · exact hn
      rw [H.get_new, if_neg (by rw [h_next_new]; omega), g1]
    exact law_NumBack M e n l hb a l.length rfl cp 1 h (bytes_rd B hb cp h rfl).1 (fun b => (bytes_rd B hb cp _ (g1 b)).1) (fun b b' => (bytes_rd B hb cp _ (g2 b b')).1) (bytes_rd B hb cp h rfl).2 (fun b => (bytes_rd B hb cp _ (g1 b)).2) (fun b b' => (bytes_rd B hb cp _ (g2 b b')).2)
end Go.Eng
