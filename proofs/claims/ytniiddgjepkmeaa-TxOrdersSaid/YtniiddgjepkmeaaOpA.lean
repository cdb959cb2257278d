/- What functions of the program come to: own work. -/
import Derived.Test.YtniiddgjepkmeaaEngI
import Derived.Test.YtniiddgjepkmeaaExt
import Derived.Test.YtniiddgjepkmeaaOpF
import Derived.OpenShut
import Derived.ChangeSame
namespace Go.Eng
open Go Go.ChangeShapes
set_option linter.unusedSimpArgs false
set_option linter.unusedVariables false
/-! ### an outpoint -/
def opC (s : List Nat) (n : Nat) : List V := ofBytes s ++ [.int .u32 (n : Int)]
def OP (s : List Nat) (n : Nat) : V := .agg (opC s n)
structure OpOk (s : List Nat) (n : Nat) : Prop where
  len : s.length = 32
  lt : ∀ x ∈ s, x < 256
  nlt : n < 4294967296
theorem ofBytes_length (s : List Nat) : (ofBytes s).length = s.length := by
  induction s with
  | nil => rfl
  | cons a r ih => simp only [ofBytes, List.length_cons, ih]
theorem ofBytes_map (s : List Nat) : ofBytes s = s.map (fun (n : Nat) => V.int .u8 (n : Int)) := by
  induction s with
  | nil => rfl
  | cons a r ih => simp only [ofBytes, List.map_cons, ih]; rfl
theorem bytesOf_ofBytes (s : List Nat) (h : ∀ x ∈ s, x < 256) : Eng.bytesOf (ofBytes s) = some s := by
  induction s with
  | nil => rfl
  | cons a r ih =>
    have ha := h a (List.mem_cons_self ..)
    simp only [ofBytes, Eng.bytesOf, ih (fun x hx => h x (List.mem_cons_of_mem _ hx)), Nat.mod_eq_of_lt ha]
theorem takeN_append : ∀ (a b : List V), takeN a.length (a ++ b) = some a := by
  intro a
  induction a with
  | nil => intro b; rfl
  | cons x r ih => intro b; simp only [List.length_cons, List.cons_append, takeN, ih b]
theorem opC_length {s : List Nat} {n : Nat} (h : OpOk s n) : (opC s n).length = 33 := by
  unfold opC; rw [List.length_append, ofBytes_length, h.len]; rfl
theorem opC_tx {s : List Nat} {n : Nat} (h : OpOk s n) : readN (opC s n) 0 32 = some (ofBytes s) := by
  unfold readN opC
  rw [List.drop_zero, show 32 = (ofBytes s).length from by rw [ofBytes_length, h.len]]
  exact takeN_append _ _
theorem opC_all {s : List Nat} {n : Nat} (h : OpOk s n) : readN (opC s n) 0 33 = some (opC s n) := x_readAll _ _ (opC_length h)
theorem opC_n {s : List Nat} {n : Nat} (h : OpOk s n) : (opC s n)[32]? = some (.int .u32 (n : Int)) := by
  unfold opC
  rw [List.getElem?_append_right (by rw [ofBytes_length, h.len]; omega), ofBytes_length, h.len]; rfl
theorem opC_b {s : List Nat} {n : Nat} (h : OpOk s n) {i : Nat} (hi : i < 32) : (opC s n)[i]? = some (.int .u8 ((s[i]?.getD 0 : Nat) : Int)) := by
  unfold opC
  rw [List.getElem?_append_left (by rw [ofBytes_length, h.len]; omega), ofBytes_map, List.getElem?_map]
  have : i < s.length := by rw [h.len]; exact hi
  rw [List.getElem?_eq_getElem this]; rfl
/-- the value of an outpoint, as a number: order and equality are the numbers' -/
def valB : List Nat → Nat
  | [] => 0
  | a :: r => a * 256 ^ r.length + valB r
theorem valB_lt : ∀ (s : List Nat), (∀ x ∈ s, x < 256) → valB s < 256 ^ s.length := by
  intro s
  induction s with
  | nil => intro _; decide
  | cons a r ih =>
    intro h
    have h1 := ih (fun x hx => h x (List.mem_cons_of_mem _ hx))
    have h2 := h a (List.mem_cons_self ..)
    simp only [valB, List.length_cons, Nat.pow_succ]
    have : a * 256 ^ r.length + 256 ^ r.length ≤ 256 * 256 ^ r.length := by
      have : (a + 1) * 256 ^ r.length ≤ 256 * 256 ^ r.length := Nat.mul_le_mul_right _ (by omega)
      rw [Nat.add_mul, Nat.one_mul] at this; exact this
    rw [Nat.mul_comm (256 ^ r.length)]; omega
def cmpK (x y : Nat) : Int := if x = y then 0 else if x < y then -1 else 1
theorem cmpN_val : ∀ (s t : List Nat), s.length = t.length → (∀ x ∈ s, x < 256) → (∀ x ∈ t, x < 256) → cmpN s t = cmpK (valB s) (valB t) := by
  intro s
  induction s with
  | nil => intro t hl _ _; cases t with | nil => rfl | cons => simp at hl
  | cons a r ih =>
    intro t hl hs ht
    cases t with
    | nil => simp at hl
    | cons b u =>
      simp only [List.length_cons, Nat.add_right_cancel_iff] at hl
      have e := ih u hl (fun x hx => hs x (List.mem_cons_of_mem _ hx)) (fun x hx => ht x (List.mem_cons_of_mem _ hx))
      have l1 := valB_lt r (fun x hx => hs x (List.mem_cons_of_mem _ hx))
      have l2 := valB_lt u (fun x hx => ht x (List.mem_cons_of_mem _ hx))
      simp only [cmpN, valB, blt_dec', hl] at l1 ⊢
      obtain ⟨p, ep⟩ : ∃ p, 256 ^ u.length = p := ⟨_, rfl⟩
      rw [ep] at l1 l2 ⊢
      have up : ∀ x y : Nat, x < y → x * p + p ≤ y * p := fun x y h => by
        have : (x + 1) * p ≤ y * p := Nat.mul_le_mul_right _ h
        rw [Nat.add_mul, Nat.one_mul] at this; exact this
      rcases Nat.lt_trichotomy a b with h | h | h
      · rw [decide_eq_true h]
        have := up a b h
        unfold cmpK
        rw [if_neg (by omega), if_pos (by omega)]
      · subst h
        rw [decide_eq_false (Nat.lt_irrefl a)]
        simp only [e]
        unfold cmpK
        by_cases h1 : valB r = valB u
        · rw [if_pos h1, if_pos (show a * p + valB r = a * p + valB u by omega)]
        · by_cases h2 : valB r < valB u
          · rw [if_neg h1, if_pos h2, if_neg (show ¬ (a * p + valB r = a * p + valB u) by omega), if_pos (show a * p + valB r < a * p + valB u by omega)]
          · rw [if_neg h1, if_neg h2, if_neg (show ¬ (a * p + valB r = a * p + valB u) by omega), if_neg (show ¬ (a * p + valB r < a * p + valB u) by omega)]
      · rw [decide_eq_false (by omega), decide_eq_true h]
        have := up b a h
        unfold cmpK
        rw [if_neg (by omega), if_neg (by omega)]
theorem valB_inj : ∀ (s t : List Nat), s.length = t.length → (∀ x ∈ s, x < 256) → (∀ x ∈ t, x < 256) → valB s = valB t → s = t := by
  intro s
  induction s with
  | nil => intro t hl _ _ _; cases t with | nil => rfl | cons => simp at hl
  | cons a r ih =>
    intro t hl hs ht he
    cases t with
    | nil => simp at hl
    | cons b u =>
      simp only [List.length_cons, Nat.add_right_cancel_iff] at hl
      have l1 := valB_lt r (fun x hx => hs x (List.mem_cons_of_mem _ hx))
      have l2 := valB_lt u (fun x hx => ht x (List.mem_cons_of_mem _ hx))
      simp only [valB, hl] at he l1
      obtain ⟨p, ep⟩ : ∃ p, 256 ^ u.length = p := ⟨_, rfl⟩
      rw [ep] at l1 l2 he
      have up : ∀ x y : Nat, x < y → x * p + p ≤ y * p := fun x y h => by
        have : (x + 1) * p ≤ y * p := Nat.mul_le_mul_right _ h
        rw [Nat.add_mul, Nat.one_mul] at this; exact this
      have hab : a = b := by
        rcases Nat.lt_trichotomy a b with h | h | h
        · have := up a b h; omega
        · exact h
        · have := up b a h; omega
      subst hab
      rw [ih u hl (fun x hx => hs x (List.mem_cons_of_mem _ hx)) (fun x hx => ht x (List.mem_cons_of_mem _ hx)) (by omega)]
def opK (s : List Nat) (n : Nat) : Nat := valB s * 4294967296 + n
theorem opK_inj {s t : List Nat} {n m : Nat} (h : OpOk s n) (k : OpOk t m) : opK s n = opK t m ↔ s = t ∧ n = m := by
  constructor
  · intro e
    unfold opK at e
    have := h.nlt
    have := k.nlt
    have e1 : valB s = valB t := by omega
    exact ⟨valB_inj s t (by rw [h.len, k.len]) h.lt k.lt e1, by omega⟩
  · rintro ⟨rfl, rfl⟩; rfl

theorem eqAll_bytes : ∀ (k : Nat) (s t : List Nat), s.length = k → t.length = k → eqAll (List.replicate k Lf.i) (ofBytes s) (ofBytes t) = some (decide (s = t)) := by
  intro k
  induction k with
  | zero => intro s t hs ht; cases s <;> cases t <;> simp_all [ofBytes, eqAll]
  | succ k ih =>
    intro s t hs ht
    cases s with
    | nil => simp at hs
    | cons a r =>
      cases t with
      | nil => simp at ht
      | cons b u =>
        simp only [List.replicate_succ, ofBytes, eqAll, eqLf, kindEq_self, _root_.cond_true, ih r u (by simpa using hs) (by simpa using ht), ieq_dec]
        congr 1
        rw [Bool.eq_iff_iff]
        simp only [Bool.and_eq_true, decide_eq_true_eq, List.cons.injEq, Int.ofNat_eq_natCast, Int.natCast_inj]
theorem eqAll_cat : ∀ (l : List Lf) (a b : List V), l.length = a.length → l.length = b.length → ∀ (l' : List Lf) (a' b' : List V) (x y : Bool), eqAll l a b = some x → eqAll l' a' b' = some y → eqAll (l ++ l') (a ++ a') (b ++ b') = some (x && y) := by
  intro l
  induction l with
  | nil =>
    intro a b ha hb l' a' b' x y h1 h2
    cases a with
    | nil =>
      cases b with
      | nil => cases h1; simpa using h2
      | cons => simp at hb
    | cons => simp at ha
  | cons k ks ih =>
    intro a b ha hb l' a' b' x y h1 h2
    cases a with
    | nil => simp at ha
    | cons u r =>
      cases b with
      | nil => simp at hb
      | cons v w =>
        simp only [eqAll] at h1
        simp only [List.cons_append, eqAll]
        cases hk : eqLf k u v with
        | none => rw [hk] at h1; cases h1
        | some p =>
          cases hr : eqAll ks r w with
          | none => simp only [hk, hr] at h1; cases h1
          | some q =>
            simp only [hk, hr, Option.some.injEq] at h1
            subst h1
            rw [ih r w (by simpa using ha) (by simpa using hb) l' a' b' q y hr h2]
            simp only [Bool.and_assoc]
theorem b_eqOP (h : H) {s t : List Nat} {n m : Nat} (hs : OpOk s n) (ht : OpOk t m) : binV .eql (.flat [.i, .i, .i, .i, .i, .i, .i, .i, .i, .i, .i, .i, .i, .i, .i, .i, .i, .i, .i, .i, .i, .i, .i, .i, .i, .i, .i, .i, .i, .i, .i, .i, .i]) h (OP s n) (OP t m) = some (.bool (decide (opK s n = opK t m))) := by
  have e1 : binV .eql (.flat (List.replicate 32 Lf.i ++ [.i])) h (OP s n) (OP t m) = (match eqAll (List.replicate 32 Lf.i ++ [.i]) (opC s n) (opC t m) with | some b => some (.bool b) | none => none) := rfl
  have e2 : eqAll [Lf.i] [.int .u32 (n : Int)] [.int .u32 (m : Int)] = some (decide (n = m)) := by
    simp only [eqAll, eqLf, kindEq_self, _root_.cond_true, ieq_dec, Bool.and_true, Int.natCast_inj]
  show binV .eql (.flat (List.replicate 32 Lf.i ++ [.i])) h (OP s n) (OP t m) = _
  rw [e1]
  unfold opC
  rw [eqAll_cat _ _ _ (by rw [ofBytes_length, hs.len]; rfl) (by rw [ofBytes_length, ht.len]; rfl) _ _ _ _ _ (eqAll_bytes 32 s t hs.len ht.len) e2]
  have : (decide (s = t) && decide (n = m)) = decide (opK s n = opK t m) := by
    rw [Bool.eq_iff_iff]
    simp only [Bool.and_eq_true, decide_eq_true_eq]
    exact (opK_inj hs ht).symm
  rw [this]
theorem b_neTx (h : H) {s t : List Nat} (hs : s.length = 32) (ht : t.length = 32) : binV .neq (.flat [.i, .i, .i, .i, .i, .i, .i, .i, .i, .i, .i, .i, .i, .i, .i, .i, .i, .i, .i, .i, .i, .i, .i, .i, .i, .i, .i, .i, .i, .i, .i, .i]) h (.agg (ofBytes s)) (.agg (ofBytes t)) = some (.bool (!decide (s = t))) := by
  have e1 : binV .neq (.flat (List.replicate 32 Lf.i)) h (.agg (ofBytes s)) (.agg (ofBytes t)) = (match eqAll (List.replicate 32 Lf.i) (ofBytes s) (ofBytes t) with | some b => some (.bool !b) | none => none) := rfl
  show binV .neq (.flat (List.replicate 32 Lf.i)) h (.agg (ofBytes s)) (.agg (ofBytes t)) = _
  rw [e1, eqAll_bytes 32 s t hs ht]
theorem beqs_bytes (s : List Nat) (r : List V) (hr : V.beqs r r = true) : V.beqs (ofBytes s ++ r) (ofBytes s ++ r) = true := by
  induction s with
  | nil => exact hr
  | cons a u ih =>
    simp only [ofBytes, List.cons_append, V.beqs, V.beq, kindEq_self, ih, ieq_dec, decide_true, Bool.and_self]
theorem OP_beq (s : List Nat) (n : Nat) : V.beq (OP s n) (OP s n) = true := by
  show V.beqs (opC s n) (opC s n) = true
  exact beqs_bytes s _ (by simp only [V.beqs, V.beq, kindEq_self, ieq_dec, decide_true, Bool.and_self])
theorem OP_cells (s : List Nat) (n : Nat) : V.cells (OP s n) = opC s n := _root_.id rfl
theorem OP_data (s : List Nat) (n : Nat) : dataV (OP s n) = true := by
  unfold OP opC
  simp only [dataV]
  induction s with
  | nil => rfl
  | cons a r ih => simp only [ofBytes, List.cons_append, datas, dataV, Bool.true_and]; exact ih
theorem OP_load {s : List Nat} {n : Nat} (h : OpOk s n) (m : Md) : loadE (some (.cells (opC s n) m)) (some 33) 0 = some (OP s n) := by
  show (match readN (opC s n) 0 33 with | some l => some (V.agg l) | none => none) = _
  rw [opC_all h]; rfl
theorem OP_loadTx {s : List Nat} {n : Nat} (h : OpOk s n) (m : Md) : loadE (some (.cells (opC s n) m)) (some 32) 0 = some (.agg (ofBytes s)) := by
  show (match readN (opC s n) 0 32 with | some l => some (V.agg l) | none => none) = _
  rw [opC_tx h]
/-- slices of an outpoint's hash -/
def slcAE (n esz : Nat) (x : V) (lo hi : Option V) (b : Option Blk) (h : H) : Option (V × H) := match x with
  | .ptr (some (i, off)) => match b with
    | some (.cells vs _) => bif Nat.ble (off + n * esz) vs.length then
        match bnd hi n n with
        | some b => match bnd lo 0 b with
          | some l => some (.slice (some (i, off + l * esz)) (b - l) (some (n - l)) esz, h)
          | none => none
        | none => none
      else none
    | _ => none
  | _ => none
@[congr] theorem slcAE_congr {n esz : Nat} {x : V} {lo hi : Option V} {b b' : Option Blk} {h : H} (e : b = b') : slcAE n esz x lo hi b h = slcAE n esz x lo hi b' h := by rw [e]
def slcP (n esz : Nat) (x : V) (lo hi : Option V) (h : H) : Option (V × H) := match x with
  | .ptr (some (i, off)) => none
  | _ => none
noncomputable def slcQ (n esz : Nat) (x : V) (h : H) : Option (V × H) := match x with
  | .ptr (some (i, off)) => slcAE n esz (.ptr (some (i, off))) none none (h.get i) h
  | _ => none
theorem s_slcA (Q : Orc) (T : Tr V) (h : H) (n esz : Nat) (x : O) : Eng.step (.slcA n esz x none none none) Q T h = slcQ n esz (evO T x) h := by
  show o_slcA n esz x none none none Q T h = _
  unfold o_slcA slcQ
  cases evO T x <;> try rfl
  rename_i a
  cases a with
  | none => rfl
  | some p => rfl
theorem s_slcQ (n esz i off : Nat) (h : H) : slcQ n esz (.ptr (some (i, off))) h = slcAE n esz (.ptr (some (i, off))) none none (h.get i) h := _root_.id rfl
theorem OP_slice {s : List Nat} {n : Nat} (hs : OpOk s n) (i : Nat) (m : Md) (h : H) : slcAE 32 1 (.ptr (some (i, 0))) none none (some (.cells (opC s n) m)) h = some (.slice (some (i, 0)) 32 (some 32) 1, h) := by
  show (bif Nat.ble (0 + 32 * 1) (opC s n).length then some (V.slice (some (i, 0 + 0 * 1)) (32 - 0) (some (32 - 0)) 1, h) else none) = _
  rw [opC_length hs]; rfl
/-- an outpoint, as an argument -/
theorem absL_lits {H : Type} (P : Program) (e k : Nat) (he : P.underlying e = some (.int .u8)) (nx : Nat) : ∀ (s : List Nat), absL (absD (H := H) P (k + 1) e) (s.map fun (x : Nat) => .lit (.int .u8 (x : Int))) nx = some (ofBytes s, [], nx) := by
  intro s
  induction s with
  | nil => rfl
  | cons a r ih =>
    simp only [List.map_cons, absL]
    have : absD (H := H) P (k + 1) e (.lit (.int .u8 (a : Int))) nx = some ([.int .u8 (a : Int)], [], nx) := by simp only [absD, he]
    rw [this]
    simp only [ih]
    rfl
theorem trod_op {H : Type} {enc : TypeId × Value → H} {P : Program} {W : World} {spare : Nat → Bool} {held : Bool} {base : Nat} {t a e u : TypeId} {f0 f1 : Field} (ht : P.underlying t = some (.struct #[f0, f1])) (h0 : f0.type = a) (h1 : f1.type = u) (ha : P.underlying a = some (.array 32 e)) (he : P.underlying e = some (.int .u8)) (hu : P.underlying u = some (.int .u32))
    {v : Value} {d : DataW H} {p : List MemPlace} (h : DataW.Trod enc P W base spare held t v d p) : ∃ (s : List Nat) (n : Nat), OpOk s n ∧ ∀ (k nx : Nat), absD P (k + 3) t d nx = some (opC s n, [], nx) := by
  obtain ⟨f, hf⟩ := h
  obtain ⟨y0, y1, m, e1, _, t0, t1⟩ := trod_struct2 ht hf
  rw [h0] at t0
  rw [h1] at t1
  obtain ⟨xs, m2, _, hx, _, hl, hi⟩ := DataW.trod_array ha t0
  obtain ⟨nn, _, e2, wf⟩ := DataW.trod_int hu t1
  have go : ∀ x ∈ xs, ∃ b : Nat, x.1 = .lit (.int .u8 (b : Int)) ∧ b < 256 := by
    intro x hxm
    obtain ⟨i, hi1, hi2⟩ := List.getElem_of_mem hxm
    have hi3 : xs[i]? = some x := by rw [List.getElem?_eq_getElem hi1, hi2]
    obtain ⟨n, _, e1, w⟩ := DataW.trod_int he ((hi i (by omega)).trans hi3)
    simp [Lit.wf, IntKind.min, IntKind.max, IntKind.signed, IntKind.bits] at w
    obtain ⟨b, rfl⟩ := Int.eq_ofNat_of_zero_le w.1
    exact ⟨b, by rw [e1], by omega⟩
  have lst : ∃ s : List Nat, xs.map (·.1) = s.map (fun (x : Nat) => DataW.lit (.int .u8 (x : Int))) ∧ (∀ x ∈ s, x < 256) := by
    clear hx hl hi t0
    induction xs with
    | nil => exact ⟨[], rfl, by simp⟩
    | cons x r ih =>
      obtain ⟨s, q1, q2⟩ := ih (fun y hy => go y (List.mem_cons_of_mem _ hy))
      obtain ⟨b, b1, b2⟩ := go x (List.mem_cons_self ..)
      refine ⟨b :: s, by simp only [List.map_cons, b1, q1], fun y hy => ?_⟩
      rcases List.mem_cons.1 hy with rfl | hy
      · exact b2
      · exact q2 y hy
  obtain ⟨s, s1, s2⟩ := lst
  simp [Lit.wf, IntKind.min, IntKind.max, IntKind.signed, IntKind.bits] at wf
  obtain ⟨b, rfl⟩ := Int.eq_ofNat_of_zero_le wf.1
  have sl : s.length = 32 := by
    have := congrArg List.length s1
    rw [List.length_map, List.length_map, hl] at this
    exact this.symm
  refine ⟨s, b, ⟨sl, s2, by omega⟩, fun k nx => ?_⟩
  have ey0 : y0.1 = .agg (s.map fun (x : Nat) => .lit (.int .u8 (x : Int))) := by rw [hx, s1]
  have ey1 : y1.1 = .lit (.int .u32 (b : Int)) := by rw [e2]
  have ed : d = .agg [y0.1, y1.1] := by
    have := congrArg Prod.fst e1
    exact this
  rw [ed, ey0, ey1]
  have a1 : absD (H := H) P (k + 2) a (.agg (s.map fun (x : Nat) => .lit (.int .u8 (x : Int)))) nx = some (ofBytes s, [], nx) := by
    simp only [absD, ha]
    exact absL_lits P e k he nx s
  have a2 : absD (H := H) P (k + 2) u (.lit (.int .u32 (b : Int))) nx = some ([.int .u32 (b : Int)], [], nx) := by simp only [absD, hu]
  unfold absD
  rw [ht]
  simp only [List.length_cons, List.length_nil]
  rw [if_pos (show #[f0, f1].size = 0 + 1 + 1 from rfl)]
  show absL (fun (x : Field × DataW H) => absD P (k + 2) x.1.type x.2) [(f0, DataW.agg (s.map fun (x : Nat) => DataW.lit (.int .u8 (x : Int)))), (f1, DataW.lit (.int .u32 (b : Int)))] nx = _
  simp only [absL, h0, h1, a1, a2]
  rfl
end Go.Eng
namespace Go.Eng
open Go
variable {E : Nat → Option Fn} {P : Program}
set_option linter.unusedSimpArgs false
set_option linter.unusedVariables false
theorem cmpK_cases (x y : Nat) : (x < y ∧ cmpK x y = -1) ∨ (x = y ∧ cmpK x y = 0) ∨ (y < x ∧ cmpK x y = 1) := by
  unfold cmpK
  rcases Nat.lt_trichotomy x y with h | h | h
  · left; exact ⟨h, by rw [if_neg (by omega), if_pos h]⟩
  · right; left; exact ⟨h, by rw [if_pos h]⟩
  · right; right; exact ⟨h, by rw [if_neg (by omega), if_neg (by omega)]⟩
structure TxE (E : Nat → Option Fn) : Prop where
  C : E k_tx_Compare = some f_tx_Compare
  K : E k_cmp_Compare_uint32 = some f_cmp_Compare_uint32
  N : E k_cmp_isNaN_uint32 = some f_cmp_isNaN_uint32
theorem sp_NaN {X : Orc} (e : E k_cmp_isNaN_uint32 = some f_cmp_isNaN_uint32) (hx : ∀ args h, X (.fn k_cmp_isNaN_uint32) args h = none) (N : Nat) (x : Int) (h : H) : callX E X (N + 1) (.fn k_cmp_isNaN_uint32) [.int .u32 x] h = some (.bool false, h) := by
  rw [x_cfn e _ _ (Nat.le_of_ble_eq_true rfl) (hx _ _)]
  have c1 : decide (x = x) = true := decide_eq_true rfl
  simp (config := {maxSteps := 1000000}) (disch := first | omega | (simp only [List.length_cons, List.length_nil, List.length_append, List.length_drop]; omega)) only [c1, ↓s_skip, ↓s_ops, ↓s_dops, ↓s_seq, ↓s_cond, ↓s_block, ↓s_exit, ↓s_ret, ↓s_scope, ↓s_nil, ↓s_op, ↓s_opg, ↓s_wanted', ↓s_wantV, s_wantV, s_wantV0, beq_true, beq_false, ↓s_bindS, s_bindS, ↓s_bindE, s_bindE, s_bindE_ret, s_bindE_exit, s_bindE_iteN, s_norm, ↓s_condV, s_condV, s_block_ret, s_block_normal, s_block_exit, s_block_iteN, ↓s_getp, ↓s_getp0, ↓s_get, s_get0, ↓s_con, ↓s_fn, ↓s_os0, ↓s_os1, ↓s_list0, ↓s_list1, ↓s_mov, ↓s_pick, ↓s_pickE, s_pickE, ↓s_bin, ↓s_un, ↓s_minmax, ↓s_call, ↓s_callv, ↓s_callV, ↓s_ext, s_same, b_eql, b_neq, b_lss, b_leq, b_gtr, b_geq, b_add, b_sub, b_mul, b_eqlb, b_neqb, b_fnil, b_fnil', b_fnil2, b_fnil2', u_neg, u_not, m_two, s_end, s_end', s_end_iteN, s_res0, s_res1, s_tup1, s_tup2, ↓iteN_true, ↓iteN_false, iteN_true, iteN_false, Nat.zero_add, List.nil_append, List.append_nil, Nat.reduceEqDiff, reduceIte, decide_true, decide_false, Bool.not_true, Bool.not_false, List.getElem?_cons_zero, List.getElem?_cons_succ, Bool.false_eq_true, if_true, if_false, beq_self_eq_true]
theorem sp_cmp32 {X : Orc} (F : TxE E) (hx : ∀ args h, X (.fn k_cmp_isNaN_uint32) args h = none) (hx2 : ∀ args h, X (.fn k_cmp_Compare_uint32) args h = none) (N x y : Nat) (h : H) : callX E X (N + 2) (.fn k_cmp_Compare_uint32) [.int .u32 (x : Int), .int .u32 (y : Int)] h = some (.int .i64 (cmpK x y), h) := by
  rw [x_cfn F.K _ _ (Nat.le_of_ble_eq_true rfl) (hx2 _ _)]
  have hn := fun z h => sp_NaN (X := X) F.N hx N z h
  rcases cmpK_cases x y with ⟨c, e⟩ | ⟨c, e⟩ | ⟨c, e⟩
  · have c1 : decide ((x : Int) < (y : Int)) = true := decide_eq_true (by omega)
    simp (config := {maxSteps := 1000000}) (disch := first | omega | (simp only [List.length_cons, List.length_nil, List.length_append, List.length_drop]; omega)) only [e, c1, hn, ↓s_skip, ↓s_ops, ↓s_dops, ↓s_seq, ↓s_cond, ↓s_block, ↓s_exit, ↓s_ret, ↓s_scope, ↓s_nil, ↓s_op, ↓s_opg, ↓s_wanted', ↓s_wantV, s_wantV, s_wantV0, beq_true, beq_false, ↓s_bindS, s_bindS, ↓s_bindE, s_bindE, s_bindE_ret, s_bindE_exit, s_bindE_iteN, s_norm, ↓s_condV, s_condV, s_block_ret, s_block_normal, s_block_exit, s_block_iteN, ↓s_getp, ↓s_getp0, ↓s_get, s_get0, ↓s_con, ↓s_fn, ↓s_os0, ↓s_os1, ↓s_list0, ↓s_list1, ↓s_mov, ↓s_pick, ↓s_pickE, s_pickE, ↓s_bin, ↓s_un, ↓s_minmax, ↓s_call, ↓s_callv, ↓s_callV, ↓s_ext, s_same, b_eql, b_neq, b_lss, b_leq, b_gtr, b_geq, b_add, b_sub, b_mul, b_eqlb, b_neqb, b_fnil, b_fnil', b_fnil2, b_fnil2', u_neg, u_not, m_two, s_end, s_end', s_end_iteN, s_res0, s_res1, s_tup1, s_tup2, ↓iteN_true, ↓iteN_false, iteN_true, iteN_false, Nat.zero_add, List.nil_append, List.append_nil, Nat.reduceEqDiff, reduceIte, decide_true, decide_false, Bool.not_true, Bool.not_false, List.getElem?_cons_zero, List.getElem?_cons_succ, Bool.false_eq_true, if_true, if_false, beq_self_eq_true]
  · have c1 : decide ((x : Int) < (y : Int)) = false := decide_eq_false (by omega)
    have c2 : decide ((y : Int) < (x : Int)) = false := decide_eq_false (by omega)
    simp (config := {maxSteps := 1000000}) (disch := first | omega | (simp only [List.length_cons, List.length_nil, List.length_append, List.length_drop]; omega)) only [e, c1, c2, hn, ↓s_skip, ↓s_ops, ↓s_dops, ↓s_seq, ↓s_cond, ↓s_block, ↓s_exit, ↓s_ret, ↓s_scope, ↓s_nil, ↓s_op, ↓s_opg, ↓s_wanted', ↓s_wantV, s_wantV, s_wantV0, beq_true, beq_false, ↓s_bindS, s_bindS, ↓s_bindE, s_bindE, s_bindE_ret, s_bindE_exit, s_bindE_iteN, s_norm, ↓s_condV, s_condV, s_block_ret, s_block_normal, s_block_exit, s_block_iteN, ↓s_getp, ↓s_getp0, ↓s_get, s_get0, ↓s_con, ↓s_fn, ↓s_os0, ↓s_os1, ↓s_list0, ↓s_list1, ↓s_mov, ↓s_pick, ↓s_pickE, s_pickE, ↓s_bin, ↓s_un, ↓s_minmax, ↓s_call, ↓s_callv, ↓s_callV, ↓s_ext, s_same, b_eql, b_neq, b_lss, b_leq, b_gtr, b_geq, b_add, b_sub, b_mul, b_eqlb, b_neqb, b_fnil, b_fnil', b_fnil2, b_fnil2', u_neg, u_not, m_two, s_end, s_end', s_end_iteN, s_res0, s_res1, s_tup1, s_tup2, ↓iteN_true, ↓iteN_false, iteN_true, iteN_false, Nat.zero_add, List.nil_append, List.append_nil, Nat.reduceEqDiff, reduceIte, decide_true, decide_false, Bool.not_true, Bool.not_false, List.getElem?_cons_zero, List.getElem?_cons_succ, Bool.false_eq_true, if_true, if_false, beq_self_eq_true]
  · have c1 : decide ((x : Int) < (y : Int)) = false := decide_eq_false (by omega)
    have c2 : decide ((y : Int) < (x : Int)) = true := decide_eq_true (by omega)
    simp (config := {maxSteps := 1000000}) (disch := first | omega | (simp only [List.length_cons, List.length_nil, List.length_append, List.length_drop]; omega)) only [e, c1, c2, hn, ↓s_skip, ↓s_ops, ↓s_dops, ↓s_seq, ↓s_cond, ↓s_block, ↓s_exit, ↓s_ret, ↓s_scope, ↓s_nil, ↓s_op, ↓s_opg, ↓s_wanted', ↓s_wantV, s_wantV, s_wantV0, beq_true, beq_false, ↓s_bindS, s_bindS, ↓s_bindE, s_bindE, s_bindE_ret, s_bindE_exit, s_bindE_iteN, s_norm, ↓s_condV, s_condV, s_block_ret, s_block_normal, s_block_exit, s_block_iteN, ↓s_getp, ↓s_getp0, ↓s_get, s_get0, ↓s_con, ↓s_fn, ↓s_os0, ↓s_os1, ↓s_list0, ↓s_list1, ↓s_mov, ↓s_pick, ↓s_pickE, s_pickE, ↓s_bin, ↓s_un, ↓s_minmax, ↓s_call, ↓s_callv, ↓s_callV, ↓s_ext, s_same, b_eql, b_neq, b_lss, b_leq, b_gtr, b_geq, b_add, b_sub, b_mul, b_eqlb, b_neqb, b_fnil, b_fnil', b_fnil2, b_fnil2', u_neg, u_not, m_two, s_end, s_end', s_end_iteN, s_res0, s_res1, s_tup1, s_tup2, ↓iteN_true, ↓iteN_false, iteN_true, iteN_false, Nat.zero_add, List.nil_append, List.append_nil, Nat.reduceEqDiff, reduceIte, decide_true, decide_false, Bool.not_true, Bool.not_false, List.getElem?_cons_zero, List.getElem?_cons_succ, Bool.false_eq_true, if_true, if_false, beq_self_eq_true]
theorem bcmp_OP {s t : List Nat} {n m : Nat} (hs : OpOk s n) (ht : OpOk t m) (h : H) (i j : Nat) (mi mj : Md) (hi : h.get i = some (.cells (opC s n) mi)) (hj : h.get j = some (.cells (opC t m) mj)) :
    bcmpX k_bytes_Compare (.fn k_bytes_Compare) [.slice (some (i, 0)) 32 (some 32) 1, .slice (some (j, 0)) 32 (some 32) 1] h = some (.int .i64 (cmpK (valB s) (valB t)), h) := by
  have go : ∀ (i : Nat) (s : List Nat) (n : Nat) (m : Md), OpOk s n → h.get i = some (.cells (opC s n) m) → b2sV h (.slice (some (i, 0)) 32 (some 32) 1) = some (.str s) := by
    intro i s n m hs hi
    show (match cellsAt h i with | some vs => (match readN vs 0 32 with | some l => strO (Eng.bytesOf l) | none => none) | none => none) = _
    have : cellsAt h i = some (opC s n) := by unfold cellsAt; rw [hi]
    rw [this]
    simp only
    rw [opC_tx hs]
    simp only
    rw [bytesOf_ofBytes s hs.lt]; rfl
  show (match Nat.beq k_bytes_Compare k_bytes_Compare with | true => (match b2sV h (.slice (some (i, 0)) 32 (some 32) 1) with | some (.str a) => (match b2sV h (.slice (some (j, 0)) 32 (some 32) 1) with | some (.str b) => some (V.int .i64 (cmpN a b), h) | _ => none) | _ => none) | false => none) = _
  rw [show Nat.beq k_bytes_Compare k_bytes_Compare = true from rfl, go i s n mi hs hi, go j t m mj ht hj]
  simp only
  rw [cmpN_val s t (by rw [hs.len, ht.len]) hs.lt ht.lt]
theorem sp_txCompare {X : Orc} (F : TxE E) (hb : ∀ args h, X (.fn k_bytes_Compare) args h = bcmpX k_bytes_Compare (.fn k_bytes_Compare) args h) (x1 : ∀ args h, X (.fn k_cmp_isNaN_uint32) args h = none) (x2 : ∀ args h, X (.fn k_cmp_Compare_uint32) args h = none) (x3 : ∀ args h, X (.fn k_tx_Compare) args h = none)
    (N : Nat) {s t : List Nat} {n m : Nat} (hs : OpOk s n) (ht : OpOk t m) : ∃ h1, callX E X (N + 3) (.fn k_tx_Compare) [OP s n, OP t m] H.empty = some (.int .i64 (cmpK (opK s n) (opK t m)), h1) := by
  rw [x_cfn F.C _ _ (Nat.le_of_ble_eq_true rfl) (x3 _ _)]
  have n0 : H.empty.next = 0 := rfl
  have b1 : callX E X (N + 2) (.fn k_bytes_Compare) [.slice (some (0, 0)) 32 (some 32) 1, .slice (some (1, 0)) 32 (some 32) 1] ((H.empty.new (.cells (opC s n) .rw)).new (.cells (opC t m) .rw)) = some (.int .i64 (cmpK (valB s) (valB t)), (H.empty.new (.cells (opC s n) .rw)).new (.cells (opC t m) .rw)) :=
    x_known ((hb _ _).trans (bcmp_OP hs ht _ 0 1 .rw .rw (by simp only [h_new_get, h_next_new, n0, Nat.reduceAdd, Nat.reduceEqDiff, decide_false, decide_true, iteN_false, iteN_true]) (by simp only [h_new_get, h_next_new, n0, Nat.reduceAdd, Nat.reduceEqDiff, decide_false, decide_true, iteN_false, iteN_true])))
  have c32 := fun h => sp_cmp32 (X := X) F x1 x2 N n m h
  have l1 := opC_n hs
  have l2 := opC_n ht
  have s1 := fun (i : Nat) (h : H) => OP_slice hs i .rw h
  have s2 := fun (i : Nat) (h : H) => OP_slice ht i .rw h
  have hK : ∀ k, cmpK (valB s) (valB t) = k → k ≠ 0 → cmpK (opK s n) (opK t m) = k := by
    intro k e hk
    have := hs.nlt
    have := ht.nlt
    rcases cmpK_cases (valB s) (valB t) with ⟨c, q⟩ | ⟨c, q⟩ | ⟨c, q⟩
    · rcases cmpK_cases (opK s n) (opK t m) with ⟨c2, q2⟩ | ⟨c2, q2⟩ | ⟨c2, q2⟩
      · omega
      · unfold opK at c2; omega
      · unfold opK at c2; omega
    · omega
    · rcases cmpK_cases (opK s n) (opK t m) with ⟨c2, q2⟩ | ⟨c2, q2⟩ | ⟨c2, q2⟩
      · unfold opK at c2; omega
      · unfold opK at c2; omega
      · omega
  obtain ⟨k, ek⟩ : ∃ k, cmpK (valB s) (valB t) = k := ⟨_, rfl⟩
  rw [ek] at b1
  by_cases k0 : k = 0
  · have e0 : cmpK (opK s n) (opK t m) = cmpK n m := by
      have : valB s = valB t := by
        rcases cmpK_cases (valB s) (valB t) with ⟨c, q⟩ | ⟨c, q⟩ | ⟨c, q⟩
        · omega
        · exact c
        · omega
      unfold opK
      rw [this]
      rcases cmpK_cases n m with ⟨c2, q2⟩ | ⟨c2, q2⟩ | ⟨c2, q2⟩ <;> rw [q2] <;> rcases cmpK_cases (valB t * 4294967296 + n) (valB t * 4294967296 + m) with ⟨c3, q3⟩ | ⟨c3, q3⟩ | ⟨c3, q3⟩ <;> first | exact q3 | omega
    subst k0
    rw [e0]
    simp (config := {maxSteps := 1000000}) (disch := first | omega | (simp only [List.length_cons, List.length_nil, List.length_append, List.length_drop]; omega)) only [n0, b1, c32, l1, l2, s1, s2, OP_cells, ↓x_fieldAddr, x_fieldV, ↓s_slcA, s_slcQ, ↓s_box, ↓s_evD, ↓s_dnil, ↓s_dL, ↓s_dLg, ↓s_dR, ↓s_dRg, ↓s_dRj, ↓s_dRjg, ↓s_dB, ↓s_dBg, ↓s_dAlloc, ↓s_bindD, s_bindD, s_finD, s_finDx, s_addP0, s_addP1, s_addB, s_lookP, ↓s_bump0, ↓s_bump_get, s_bump_next, s_ok0, ↓s_ok1, s_okR0, ↓s_okR1, ↓s_okE, s_okE, s_okE1, s_nth0, s_nthS, Nat.add_zero, Bool.and_self, Bool.and_true, Bool.true_and, ↓l_loop, ↓l_succ, ↓l_normal, l_normal, l_exit, l_ret, l_iteN, ↓h_put_get, ↓h_new_get, ↓h_del_get, h_next_put, h_next_new, h_next_del, Nat.add_assoc, Nat.add_eq_left, Nat.left_eq_add, Nat.add_left_cancel_iff, ↓s_load, m_load, ↓m_load1, m_load1, ↓m_st, m_stE, m_storeI, m_storeE, w_zero, w_succ, ↓s_alloc, ↓x_idxA, ↓x_idxS, x_idxAE, x_idxSE, x_addrE, x_idx, x_lenS, ↓s_len, ↓x_buildS, x_buildE, ↓x_P0, ↓x_P1, x_fill0, x_filli, x_fills, x_fillb, c_int, List.length_cons, List.length_nil, List.cons_append, List.drop_succ_cons, List.drop_zero, List.drop_nil, List.nil_append, Int.reduceAdd, Int.reduceToNat, Int.reduceLT, Int.reduceLE, Nat.reduceAdd, Nat.reduceMul, Nat.reduceLeDiff, Int.reduceEq, Int.reduceSub, Int.cast_ofNat_Int, s_resc, s_consR, m_load4, m_store4, s_res0, ↓s_skip, ↓s_ops, ↓s_dops, ↓s_seq, ↓s_cond, ↓s_block, ↓s_exit, ↓s_ret, ↓s_scope, ↓s_nil, ↓s_op, ↓s_opg, ↓s_wanted', ↓s_wantV, s_wantV, s_wantV0, beq_true, beq_false, ↓s_bindS, s_bindS, ↓s_bindE, s_bindE, s_bindE_ret, s_bindE_exit, s_bindE_iteN, s_norm, ↓s_condV, s_condV, s_block_ret, s_block_normal, s_block_exit, s_block_iteN, ↓s_getp, ↓s_getp0, ↓s_get, s_get0, ↓s_con, ↓s_fn, ↓s_os0, ↓s_os1, ↓s_list0, ↓s_list1, ↓s_mov, ↓s_pick, ↓s_pickE, s_pickE, ↓s_bin, ↓s_un, ↓s_minmax, ↓s_call, ↓s_callv, ↓s_callV, ↓s_ext, s_same, b_eql, b_neq, b_lss, b_leq, b_gtr, b_geq, b_add, b_sub, b_mul, b_eqlb, b_neqb, b_fnil, b_fnil', b_fnil2, b_fnil2', u_neg, u_not, m_two, s_end, s_end', s_end_iteN, s_res0, s_res1, s_tup1, s_tup2, ↓iteN_true, ↓iteN_false, iteN_true, iteN_false, Nat.zero_add, List.nil_append, List.append_nil, Nat.reduceEqDiff, reduceIte, decide_true, decide_false, Bool.not_true, Bool.not_false, List.getElem?_cons_zero, List.getElem?_cons_succ, Bool.false_eq_true, if_true, if_false, beq_self_eq_true]
    exact ⟨_, rfl⟩
  · have d0 : decide (k = 0) = false := decide_eq_false k0
    rw [hK k ek k0]
    simp (config := {maxSteps := 1000000}) (disch := first | omega | (simp only [List.length_cons, List.length_nil, List.length_append, List.length_drop]; omega)) only [n0, b1, c32, d0, l1, l2, s1, s2, OP_cells, ↓x_fieldAddr, x_fieldV, ↓s_slcA, s_slcQ, ↓s_box, ↓s_evD, ↓s_dnil, ↓s_dL, ↓s_dLg, ↓s_dR, ↓s_dRg, ↓s_dRj, ↓s_dRjg, ↓s_dB, ↓s_dBg, ↓s_dAlloc, ↓s_bindD, s_bindD, s_finD, s_finDx, s_addP0, s_addP1, s_addB, s_lookP, ↓s_bump0, ↓s_bump_get, s_bump_next, s_ok0, ↓s_ok1, s_okR0, ↓s_okR1, ↓s_okE, s_okE, s_okE1, s_nth0, s_nthS, Nat.add_zero, Bool.and_self, Bool.and_true, Bool.true_and, ↓l_loop, ↓l_succ, ↓l_normal, l_normal, l_exit, l_ret, l_iteN, ↓h_put_get, ↓h_new_get, ↓h_del_get, h_next_put, h_next_new, h_next_del, Nat.add_assoc, Nat.add_eq_left, Nat.left_eq_add, Nat.add_left_cancel_iff, ↓s_load, m_load, ↓m_load1, m_load1, ↓m_st, m_stE, m_storeI, m_storeE, w_zero, w_succ, ↓s_alloc, ↓x_idxA, ↓x_idxS, x_idxAE, x_idxSE, x_addrE, x_idx, x_lenS, ↓s_len, ↓x_buildS, x_buildE, ↓x_P0, ↓x_P1, x_fill0, x_filli, x_fills, x_fillb, c_int, List.length_cons, List.length_nil, List.cons_append, List.drop_succ_cons, List.drop_zero, List.drop_nil, List.nil_append, Int.reduceAdd, Int.reduceToNat, Int.reduceLT, Int.reduceLE, Nat.reduceAdd, Nat.reduceMul, Nat.reduceLeDiff, Int.reduceEq, Int.reduceSub, Int.cast_ofNat_Int, s_resc, s_consR, m_load4, m_store4, s_res0, ↓s_skip, ↓s_ops, ↓s_dops, ↓s_seq, ↓s_cond, ↓s_block, ↓s_exit, ↓s_ret, ↓s_scope, ↓s_nil, ↓s_op, ↓s_opg, ↓s_wanted', ↓s_wantV, s_wantV, s_wantV0, beq_true, beq_false, ↓s_bindS, s_bindS, ↓s_bindE, s_bindE, s_bindE_ret, s_bindE_exit, s_bindE_iteN, s_norm, ↓s_condV, s_condV, s_block_ret, s_block_normal, s_block_exit, s_block_iteN, ↓s_getp, ↓s_getp0, ↓s_get, s_get0, ↓s_con, ↓s_fn, ↓s_os0, ↓s_os1, ↓s_list0, ↓s_list1, ↓s_mov, ↓s_pick, ↓s_pickE, s_pickE, ↓s_bin, ↓s_un, ↓s_minmax, ↓s_call, ↓s_callv, ↓s_callV, ↓s_ext, s_same, b_eql, b_neq, b_lss, b_leq, b_gtr, b_geq, b_add, b_sub, b_mul, b_eqlb, b_neqb, b_fnil, b_fnil', b_fnil2, b_fnil2', u_neg, u_not, m_two, s_end, s_end', s_end_iteN, s_res0, s_res1, s_tup1, s_tup2, ↓iteN_true, ↓iteN_false, iteN_true, iteN_false, Nat.zero_add, List.nil_append, List.append_nil, Nat.reduceEqDiff, reduceIte, decide_true, decide_false, Bool.not_true, Bool.not_false, List.getElem?_cons_zero, List.getElem?_cons_succ, Bool.false_eq_true, if_true, if_false, beq_self_eq_true]
    exact ⟨_, rfl⟩
end Go.Eng
namespace Go.Eng
open Go
variable {E : Nat → Option Fn} {P : Program}
set_option linter.unusedSimpArgs false
set_option linter.unusedVariables false
def opOf : V → Option (List Nat × Nat)
  | .agg l => match Eng.bytesOf (l.take 32) with
    | some s => match l.drop 32 with
      | [.int .u32 (.ofNat n)] => match Nat.beq s.length 32 && (Nat.blt n 4294967296 && V.beq (.agg (l.take 32)) (.agg (ofBytes s))) with
        | true => some (s, n)
        | false => none
      | _ => none
    | none => none
  | _ => none
theorem bytesOf_lt : ∀ (l : List V) (s : List Nat), Eng.bytesOf l = some s → ∀ x ∈ s, x < 256 := by
  intro l
  induction l with
  | nil => intro s h; cases h; simp
  | cons v r ih =>
    intro s h
    unfold Eng.bytesOf at h
    split at h
    · cases ‹_ :: _ = []›
    · rename_i n r' heq
      cases heq
      cases hr : Eng.bytesOf r with
      | none => simp only [hr] at h; cases h
      | some s' =>
        simp only [hr] at h
        cases h
        intro x hx
        rcases List.mem_cons.1 hx with rfl | hx
        · exact Nat.mod_lt _ (by decide)
        · exact ih s' hr x hx
    · cases h
theorem opOf_some {v : V} {s : List Nat} {n : Nat} (h : opOf v = some (s, n)) : v = OP s n ∧ OpOk s n := by
  unfold opOf at h
  split at h
  · rename_i l
    split at h
    · rename_i s' hs'
      split at h
      · rename_i n' hn'
        split at h
        · rename_i hb
          simp only [Bool.and_eq_true] at hb
          cases h
          have e1 := V.beq_true _ _ hb.2.2
          injection e1 with e1
          refine ⟨?_, ⟨Nat.eq_of_beq_eq_true hb.1, bytesOf_lt _ _ hs', by simpa using hb.2.1⟩⟩
          unfold OP opC
          rw [← e1]
          congr 1
          have := List.take_append_drop 32 l
          rw [hn'] at this
          exact this.symm
        · cases h
      · cases h
    · cases h
  · cases h
theorem beqs_bytes0 (s : List Nat) : V.beqs (ofBytes s) (ofBytes s) = true := by
  have := beqs_bytes s [] rfl
  rwa [List.append_nil] at this
theorem opOf_OP {s : List Nat} {n : Nat} (h : OpOk s n) : opOf (OP s n) = some (s, n) := by
  have hl : (ofBytes s).length = 32 := by rw [ofBytes_length, h.len]
  have t1 : (opC s n).take 32 = ofBytes s := by
    unfold opC
    rw [List.take_append_of_le_length (by omega), List.take_of_length_le (by omega)]
  have t2 : (opC s n).drop 32 = [.int .u32 (n : Int)] := by
    unfold opC
    rw [List.drop_append_of_le_length (by omega), List.drop_of_length_le (by omega)]; rfl
  unfold opOf OP
  simp only [t1, t2]
  rw [bytesOf_ofBytes s h.lt]
  simp only
  have c : (Nat.beq s.length 32 && (Nat.blt n 4294967296 && V.beq (.agg (ofBytes s)) (.agg (ofBytes s)))) = true := by
    simp only [Bool.and_eq_true]
    exact ⟨by rw [h.len]; rfl, by have := h.nlt; simpa using this, beqs_bytes0 s⟩
  show (match (Nat.beq s.length 32 && (Nat.blt n 4294967296 && V.beq (.agg (ofBytes s)) (.agg (ofBytes s)))) with | true => some (s, n) | false => none) = _
  rw [c]
def txS : List V → Option V
  | [a, b] => match opOf a with
    | some (s, n) => match opOf b with
      | some (t, m) => some (.int .i64 (cmpK (opK s n) (opK t m)))
      | none => none
    | none => none
  | _ => none
noncomputable def baseO (kr : Nat) : Orc := orX (bcmpX k_bytes_Compare) (pureX kr repS)
noncomputable def txX (kr : Nat) : Orc := orX (pureX k_tx_Compare txS) (baseO kr)
theorem bcmpX_no {f k : Nat} {args : List V} {h : H} (e : Nat.beq f k = false) : bcmpX k (.fn f) args h = none := by
  show (match Nat.beq f k with | true => _ | false => none) = none
  rw [e]
theorem baseO_no {kr f : Nat} (args : List V) (h : H) (e1 : Nat.beq f k_bytes_Compare = false) (e2 : Nat.beq f kr = false) : baseO kr (.fn f) args h = none := (orX_r (bcmpX_no e1)).trans (pureX_no h e2)
theorem baseO_cmp {kr : Nat} (e : Nat.beq k_bytes_Compare kr = false) (args : List V) (h : H) : baseO kr (.fn k_bytes_Compare) args h = bcmpX k_bytes_Compare (.fn k_bytes_Compare) args h := by
  unfold baseO orX
  cases bcmpX k_bytes_Compare (.fn k_bytes_Compare) args h with
  | some r => rfl
  | none => exact pureX_no h e
theorem txX_ok {g : Gn} {kr : Nat} (hE : Link P g E) (F : TxE E) (hB : QOk P g (baseO kr)) (r0 : Nat.beq k_bytes_Compare kr = false) (r1 : Nat.beq k_cmp_isNaN_uint32 kr = false) (r2 : Nat.beq k_cmp_Compare_uint32 kr = false) (r3 : Nat.beq k_tx_Compare kr = false) : QOk P g (txX kr) := by
  refine orX_ok (pureX_ok (callX_ok hE hB 3) fun args v hs => ?_) hB
  unfold txS at hs
  split at hs
  · rename_i a b
    cases ha : opOf a with
    | none => rw [ha] at hs; cases hs
    | some x =>
      obtain ⟨s, n⟩ := x
      rw [ha] at hs
      cases hb : opOf b with
      | none => simp only [hb] at hs; cases hs
      | some y =>
        obtain ⟨t, m⟩ := y
        simp only [hb] at hs
        cases hs
        obtain ⟨rfl, hs⟩ := opOf_some ha
        obtain ⟨rfl, ht⟩ := opOf_some hb
        exact ⟨by simp only [datas, OP_data, Bool.and_self], rfl, sp_txCompare F (fun args h => baseO_cmp r0 args h) (fun args h => baseO_no args h rfl r1) (fun args h => baseO_no args h rfl r2) (fun args h => baseO_no args h rfl r3) 0 hs ht⟩
  · cases hs
theorem txX_Cmp {kr : Nat} {s t : List Nat} {n m : Nat} (hs : OpOk s n) (ht : OpOk t m) (h : H) : txX kr (.fn k_tx_Compare) [OP s n, OP t m] h = some (.int .i64 (cmpK (opK s n) (opK t m)), h) := by
  refine orX_l (pureX_yes h ?_)
  show (match opOf (OP s n) with | some (s, n) => (match opOf (OP t m) with | some (t, m) => some (V.int .i64 (cmpK (opK s n) (opK t m))) | none => none) | none => none) = _
  rw [opOf_OP hs, opOf_OP ht]
end Go.Eng
namespace Go.Eng
open Go
variable {E : Nat → Option Fn} {P : Program}
set_option linter.unusedSimpArgs false
set_option linter.unusedVariables false
def aliveO : List V → Option V
  | [] => some (.bool true)
  | _ => none
theorem aliveO_ok {g : Gn} {X : Orc} (hX : QOk P g X) (hE : Link P g E) {k N : Nat} (h : isTrue (callX E X N (.fn k) [] H.empty) = true) : QOk P g (orX (pureX k aliveO) X) := by
  refine orX_ok (pureX_ok (callX_ok hE hX N) fun args v hs => ?_) hX
  unfold aliveO at hs
  split at hs
  · cases hs
    exact ⟨rfl, rfl, isTrue_some h⟩
  · cases hs
set_option maxHeartbeats 16000000 in
set_option maxRecDepth 20000 in
theorem law_TxSorted {X : Orc} (n : Nat) (e : E k_purserlaw06_TxSorted = some f_purserlaw06_TxSorted) (hx : ∀ args h, X (.fn k_purserlaw06_TxSorted) args h = none) (hal : ∀ h, X (.fn k_purserlaw06_alive) [] h = some (.bool true, h)) (hC : ∀ (s t : List Nat) (n m : Nat) (h : H), OpOk s n → OpOk t m → X (.fn k_tx_Compare) [OP s n, OP t m] h = some (.int .i64 (cmpK (opK s n) (opK t m)), h))
    {sa sb sc : List Nat} {na nb nc : Nat} (ha : OpOk sa na) (hb : OpOk sb nb) (hc : OpOk sc nc) :
    ∃ h2, callX E X (n + 2) (.fn k_purserlaw06_TxSorted) [OP sa na, OP sb nb, OP sc nc] (mkH [] 0) = some (.bool true, h2) := by
  rw [x_cfn e _ _ (Nat.le_of_ble_eq_true rfl) (hx _ _)]
  have n0 : (mkH [] 0).next = 0 := rfl
  have al : ∀ h, callX E X (n + 1) (.fn k_purserlaw06_alive) [] h = some (.bool true, h) := fun h => x_known (hal h)
  have c1 := fun h => x_known (E := E) (n := n) (hC sa sb na nb h ha hb)
  have c2 := fun h => x_known (E := E) (n := n) (hC sb sc nb nc h hb hc)
  have c3 := fun h => x_known (E := E) (n := n) (hC sa sc na nc h ha hc)
  have c4 := fun h => x_known (E := E) (n := n) (hC sb sa nb na h hb ha)
  obtain ⟨A, eA⟩ : ∃ A, opK sa na = A := ⟨_, rfl⟩
  obtain ⟨B, eB⟩ : ∃ B, opK sb nb = B := ⟨_, rfl⟩
  obtain ⟨C, eC⟩ : ∃ C, opK sc nc = C := ⟨_, rfl⟩
  have eqab := fun h => b_eqOP h ha hb
  have netx := fun h => b_neTx h ha.len hb.len
  rw [eA, eB] at c1 c4 eqab
  rw [eB, eC] at c2
  rw [eA, eC] at c3
  have la := opC_n ha
  have lb := opC_n hb
  have oa := OP_load ha .rw
  have ob := OP_load hb .rw
  have oc := OP_load hc .rw
  have ta := OP_loadTx ha .rw
  have tb := OP_loadTx hb .rw
  -- the numbers tell the order if the hashes are the same
  have key : sa = sb → (A < B ↔ na < nb) := by
    intro hs
    subst hs
    rw [← eA, ← eB]
    unfold opK
    constructor <;> intro h <;> omega
  have dd : ∀ p q : Prop, [Decidable p] → [Decidable q] → (p ↔ q) → (decide p == decide q) = true := by
    intro p q _ _ h; simp [h]
  by_cases hs : sa = sb
  · have tx1 : decide (sa = sb) = true := decide_eq_true hs
    have k := key hs
    rcases cmpK_cases A B with ⟨x1, x2⟩ | ⟨x1, x2⟩ | ⟨x1, x2⟩ <;> rcases cmpK_cases B C with ⟨y1, y2⟩ | ⟨y1, y2⟩ | ⟨y1, y2⟩ <;> rcases cmpK_cases A C with ⟨z1, z2⟩ | ⟨z1, z2⟩ | ⟨z1, z2⟩ <;> (try (exfalso; omega)) <;> rcases cmpK_cases B A with ⟨w1, w2⟩ | ⟨w1, w2⟩ | ⟨w1, w2⟩ <;> (try (exfalso; omega)) <;>
      (first
        | (have n1 : decide ((na : Int) < (nb : Int)) = true := decide_eq_true (by omega))
        | (have n1 : decide ((na : Int) < (nb : Int)) = false := decide_eq_false (by omega))) <;>
      (first
        | (have q1 : decide (A = B) = true := decide_eq_true (by omega))
        | (have q1 : decide (A = B) = false := decide_eq_false (by omega))) <;>
      (rw [x2] at c1; rw [y2] at c2; rw [z2] at c3; rw [w2] at c4
       simp (config := {maxSteps := 1000000}) (disch := first | omega | (simp only [List.length_cons, List.length_nil, List.length_append, List.length_drop]; omega)) only [n0, al, c1, c2, c3, c4, eqab, netx, tx1, n1, q1, la, lb, oa, ob, oc, ta, tb, OP_beq, OP_cells, ↓x_fieldAddr, x_fieldV, ↓s_box, Int.reduceNeg, wr_i64, ↓s_evD, ↓s_dnil, ↓s_dL, ↓s_dLg, ↓s_dR, ↓s_dRg, ↓s_dRj, ↓s_dRjg, ↓s_dB, ↓s_dBg, ↓s_dAlloc, ↓s_bindD, s_bindD, s_finD, s_finDx, s_addP0, s_addP1, s_addB, s_lookP, ↓s_bump0, ↓s_bump_get, s_bump_next, s_ok0, ↓s_ok1, s_okR0, ↓s_okR1, ↓s_okE, s_okE, s_okE1, s_nth0, s_nthS, Nat.add_zero, Bool.and_self, Bool.and_true, Bool.true_and, ↓l_loop, ↓l_succ, ↓l_normal, l_normal, l_exit, l_ret, l_iteN, ↓h_put_get, ↓h_new_get, ↓h_del_get, h_next_put, h_next_new, h_next_del, Nat.add_assoc, Nat.add_eq_left, Nat.left_eq_add, Nat.add_left_cancel_iff, ↓s_load, m_load, ↓m_load1, m_load1, ↓m_st, m_stE, m_storeI, m_storeE, w_zero, w_succ, ↓s_alloc, ↓x_idxA, ↓x_idxS, x_idxAE, x_idxSE, x_addrE, x_idx, x_lenS, ↓s_len, ↓x_buildS, x_buildE, ↓x_P0, ↓x_P1, x_fill0, x_filli, x_fills, x_fillb, c_int, List.length_cons, List.length_nil, List.cons_append, List.drop_succ_cons, List.drop_zero, List.drop_nil, List.nil_append, Int.reduceAdd, Int.reduceToNat, Int.reduceLT, Int.reduceLE, Nat.reduceAdd, Nat.reduceMul, Nat.reduceLeDiff, Int.reduceEq, Int.reduceSub, Int.cast_ofNat_Int, s_resc, s_consR, m_load4, m_store4, s_res0, ↓s_skip, ↓s_ops, ↓s_dops, ↓s_seq, ↓s_cond, ↓s_block, ↓s_exit, ↓s_ret, ↓s_scope, ↓s_nil, ↓s_op, ↓s_opg, ↓s_wanted', ↓s_wantV, s_wantV, s_wantV0, beq_true, beq_false, ↓s_bindS, s_bindS, ↓s_bindE, s_bindE, s_bindE_ret, s_bindE_exit, s_bindE_iteN, s_norm, ↓s_condV, s_condV, s_block_ret, s_block_normal, s_block_exit, s_block_iteN, ↓s_getp, ↓s_getp0, ↓s_get, s_get0, ↓s_con, ↓s_fn, ↓s_os0, ↓s_os1, ↓s_list0, ↓s_list1, ↓s_mov, ↓s_pick, ↓s_pickE, s_pickE, ↓s_bin, ↓s_un, ↓s_minmax, ↓s_call, ↓s_callv, ↓s_callV, ↓s_ext, s_same, b_eql, b_neq, b_lss, b_leq, b_gtr, b_geq, b_add, b_sub, b_mul, b_eqlb, b_neqb, b_fnil, b_fnil', b_fnil2, b_fnil2', u_neg, u_not, m_two, s_end, s_end', s_end_iteN, s_res0, s_res1, s_tup1, s_tup2, ↓iteN_true, ↓iteN_false, iteN_true, iteN_false, Nat.zero_add, List.nil_append, List.append_nil, Nat.reduceEqDiff, reduceIte, decide_true, decide_false, Bool.not_true, Bool.not_false, List.getElem?_cons_zero, List.getElem?_cons_succ, Bool.false_eq_true, if_true, if_false, beq_self_eq_true]
       exact ⟨_, rfl⟩)
  · have tx1 : decide (sa = sb) = false := decide_eq_false hs
    have hne : A ≠ B := by
      intro h
      rw [← eA, ← eB] at h
      exact hs ((opK_inj ha hb).1 h).1
    rcases cmpK_cases A B with ⟨x1, x2⟩ | ⟨x1, x2⟩ | ⟨x1, x2⟩ <;> (try (exfalso; omega)) <;> rcases cmpK_cases B C with ⟨y1, y2⟩ | ⟨y1, y2⟩ | ⟨y1, y2⟩ <;> rcases cmpK_cases A C with ⟨z1, z2⟩ | ⟨z1, z2⟩ | ⟨z1, z2⟩ <;> (try (exfalso; omega)) <;> rcases cmpK_cases B A with ⟨w1, w2⟩ | ⟨w1, w2⟩ | ⟨w1, w2⟩ <;> (try (exfalso; omega)) <;>
      (have q1 : decide (A = B) = false := decide_eq_false hne
       rw [x2] at c1; rw [y2] at c2; rw [z2] at c3; rw [w2] at c4
       simp (config := {maxSteps := 1000000}) (disch := first | omega | (simp only [List.length_cons, List.length_nil, List.length_append, List.length_drop]; omega)) only [n0, al, c1, c2, c3, c4, eqab, netx, tx1, q1, la, lb, oa, ob, oc, ta, tb, OP_beq, OP_cells, ↓x_fieldAddr, x_fieldV, ↓s_box, Int.reduceNeg, wr_i64, ↓s_evD, ↓s_dnil, ↓s_dL, ↓s_dLg, ↓s_dR, ↓s_dRg, ↓s_dRj, ↓s_dRjg, ↓s_dB, ↓s_dBg, ↓s_dAlloc, ↓s_bindD, s_bindD, s_finD, s_finDx, s_addP0, s_addP1, s_addB, s_lookP, ↓s_bump0, ↓s_bump_get, s_bump_next, s_ok0, ↓s_ok1, s_okR0, ↓s_okR1, ↓s_okE, s_okE, s_okE1, s_nth0, s_nthS, Nat.add_zero, Bool.and_self, Bool.and_true, Bool.true_and, ↓l_loop, ↓l_succ, ↓l_normal, l_normal, l_exit, l_ret, l_iteN, ↓h_put_get, ↓h_new_get, ↓h_del_get, h_next_put, h_next_new, h_next_del, Nat.add_assoc, Nat.add_eq_left, Nat.left_eq_add, Nat.add_left_cancel_iff, ↓s_load, m_load, ↓m_load1, m_load1, ↓m_st, m_stE, m_storeI, m_storeE, w_zero, w_succ, ↓s_alloc, ↓x_idxA, ↓x_idxS, x_idxAE, x_idxSE, x_addrE, x_idx, x_lenS, ↓s_len, ↓x_buildS, x_buildE, ↓x_P0, ↓x_P1, x_fill0, x_filli, x_fills, x_fillb, c_int, List.length_cons, List.length_nil, List.cons_append, List.drop_succ_cons, List.drop_zero, List.drop_nil, List.nil_append, Int.reduceAdd, Int.reduceToNat, Int.reduceLT, Int.reduceLE, Nat.reduceAdd, Nat.reduceMul, Nat.reduceLeDiff, Int.reduceEq, Int.reduceSub, Int.cast_ofNat_Int, s_resc, s_consR, m_load4, m_store4, s_res0, ↓s_skip, ↓s_ops, ↓s_dops, ↓s_seq, ↓s_cond, ↓s_block, ↓s_exit, ↓s_ret, ↓s_scope, ↓s_nil, ↓s_op, ↓s_opg, ↓s_wanted', ↓s_wantV, s_wantV, s_wantV0, beq_true, beq_false, ↓s_bindS, s_bindS, ↓s_bindE, s_bindE, s_bindE_ret, s_bindE_exit, s_bindE_iteN, s_norm, ↓s_condV, s_condV, s_block_ret, s_block_normal, s_block_exit, s_block_iteN, ↓s_getp, ↓s_getp0, ↓s_get, s_get0, ↓s_con, ↓s_fn, ↓s_os0, ↓s_os1, ↓s_list0, ↓s_list1, ↓s_mov, ↓s_pick, ↓s_pickE, s_pickE, ↓s_bin, ↓s_un, ↓s_minmax, ↓s_call, ↓s_callv, ↓s_callV, ↓s_ext, s_same, b_eql, b_neq, b_lss, b_leq, b_gtr, b_geq, b_add, b_sub, b_mul, b_eqlb, b_neqb, b_fnil, b_fnil', b_fnil2, b_fnil2', u_neg, u_not, m_two, s_end, s_end', s_end_iteN, s_res0, s_res1, s_tup1, s_tup2, ↓iteN_true, ↓iteN_false, iteN_true, iteN_false, Nat.zero_add, List.nil_append, List.append_nil, Nat.reduceEqDiff, reduceIte, decide_true, decide_false, Bool.not_true, Bool.not_false, List.getElem?_cons_zero, List.getElem?_cons_succ, Bool.false_eq_true, if_true, if_false, beq_self_eq_true]
       exact ⟨_, rfl⟩)
end Go.Eng
namespace Go.Eng
open Go
variable {E : Nat → Option Fn} {P : Program}
set_option linter.unusedSimpArgs false
set_option linter.unusedVariables false
theorem cmpN_take : ∀ (i : Nat) (s t : List Nat), i ≤ s.length → i ≤ t.length → s.take i = t.take i → cmpN s t = cmpN (s.drop i) (t.drop i) := by
  intro i
  induction i with
  | zero => intro s t _ _ _; simp
  | succ i ih =>
    intro s t hs ht h
    cases s with
    | nil => simp at hs
    | cons a r =>
      cases t with
      | nil => simp at ht
      | cons b u =>
        simp only [List.take_succ_cons, List.cons.injEq] at h
        obtain ⟨rfl, h⟩ := h
        simp only [cmpN, blt_dec', decide_eq_false (Nat.lt_irrefl a), List.drop_succ_cons]
        exact ih r u (by simpa using hs) (by simpa using ht) h
theorem ref_round {Q : Orc} (n : Nat) {s t : List Nat} {na nb : Nat} (hs : OpOk s na) (ht : OpOk t nb) (i x y : Nat) (hi : i < 32) (T : Tr V) (h : H) (t2 : evO T (.t 2) = .ptr (some (x, 0))) (t3 : evO T (.t 3) = .ptr (some (y, 0))) (t5 : evO T (.t 5) = .int .i64 (i : Int)) (hx : h.get x = some (.cells (opC s na) .rw)) (hy : h.get y = some (.cells (opC t nb) .rw)) :
    (s[i]?.getD 0 < t[i]?.getD 0 ∧ ∃ T', evC Q 38 n none lp_purserref06_Compare ⟨T, [], h⟩ = some (.ret, ⟨T', [], h⟩) ∧ evO T' (.t 4) = .int .i64 (-1)) ∨
    (t[i]?.getD 0 < s[i]?.getD 0 ∧ ∃ T', evC Q 38 n none lp_purserref06_Compare ⟨T, [], h⟩ = some (.ret, ⟨T', [], h⟩) ∧ evO T' (.t 4) = .int .i64 1) ∨
    (s[i]?.getD 0 = t[i]?.getD 0 ∧ ∃ T', evC Q 38 n none lp_purserref06_Compare ⟨T, [], h⟩ = some (.normal, ⟨T', [], h⟩) ∧ evO T' (.t 2) = .ptr (some (x, 0)) ∧ evO T' (.t 3) = .ptr (some (y, 0)) ∧ evO T' (.t 5) = .int .i64 ((i + 1 : Nat) : Int)) := by
  have ca := opC_b hs hi
  have cb := opC_b ht hi
  obtain ⟨a, ea⟩ : ∃ a, s[i]?.getD 0 = a := ⟨_, rfl⟩
  obtain ⟨b, eb⟩ : ∃ b, t[i]?.getD 0 = b := ⟨_, rfl⟩
  rw [ea] at ca
  rw [eb] at cb
  rw [ea, eb]
  have c0 : decide ((i : Int) < 32) = true := decide_eq_true (by omega)
  have ti : (i : Int).toNat = i := Int.toNat_natCast i
  rcases Nat.lt_trichotomy a b with hlt | heq | hgt
  · left
    refine ⟨hlt, ?_⟩
    have c1 : decide ((a : Int) < (b : Int)) = true := decide_eq_true (by omega)
    simp (config := {maxSteps := 1000000}) (disch := first | omega | (simp only [List.length_cons, List.length_nil, List.length_append, List.length_drop]; omega)) only [lp_purserref06_Compare, t2, t3, t5, hx, hy, ca, cb, c0, c1, ti, Nat.mul_one, ↓x_fieldAddr, x_fieldV, ↓s_evD, ↓s_dnil, ↓s_dL, ↓s_dLg, ↓s_dR, ↓s_dRg, ↓s_dRj, ↓s_dRjg, ↓s_dB, ↓s_dBg, ↓s_dAlloc, ↓s_bindD, s_bindD, s_finD, s_finDx, s_addP0, s_addP1, s_addB, s_lookP, ↓s_bump0, ↓s_bump_get, s_bump_next, s_ok0, ↓s_ok1, s_okR0, ↓s_okR1, ↓s_okE, s_okE, s_okE1, s_nth0, s_nthS, Nat.add_zero, Bool.and_self, Bool.and_true, Bool.true_and, ↓l_loop, ↓l_succ, ↓l_normal, l_normal, l_exit, l_ret, l_iteN, ↓h_put_get, ↓h_new_get, ↓h_del_get, h_next_put, h_next_new, h_next_del, Nat.add_assoc, Nat.add_eq_left, Nat.left_eq_add, Nat.add_left_cancel_iff, ↓s_load, m_load, ↓m_load1, m_load1, ↓m_st, m_stE, m_storeI, m_storeE, w_zero, w_succ, ↓s_alloc, ↓x_idxA, ↓x_idxS, x_idxAE, x_idxSE, x_addrE, x_idx, x_lenS, ↓s_len, ↓x_buildS, x_buildE, ↓x_P0, ↓x_P1, x_fill0, x_filli, x_fills, x_fillb, c_int, List.length_cons, List.length_nil, List.cons_append, List.drop_succ_cons, List.drop_zero, List.drop_nil, List.nil_append, Int.reduceAdd, Int.reduceToNat, Int.reduceLT, Int.reduceLE, Nat.reduceAdd, Nat.reduceMul, Nat.reduceLeDiff, Int.reduceEq, Int.reduceSub, Int.cast_ofNat_Int, s_resc, s_consR, m_load4, m_store4, s_res0, ↓s_skip, ↓s_ops, ↓s_dops, ↓s_seq, ↓s_cond, ↓s_block, ↓s_exit, ↓s_ret, ↓s_scope, ↓s_nil, ↓s_op, ↓s_opg, ↓s_wanted', ↓s_wantV, s_wantV, s_wantV0, beq_true, beq_false, ↓s_bindS, s_bindS, ↓s_bindE, s_bindE, s_bindE_ret, s_bindE_exit, s_bindE_iteN, s_norm, ↓s_condV, s_condV, s_block_ret, s_block_normal, s_block_exit, s_block_iteN, ↓s_getp, ↓s_getp0, ↓s_get, s_get0, ↓s_con, ↓s_fn, ↓s_os0, ↓s_os1, ↓s_list0, ↓s_list1, ↓s_mov, ↓s_pick, ↓s_pickE, s_pickE, ↓s_bin, ↓s_un, ↓s_minmax, ↓s_call, ↓s_callv, ↓s_callV, ↓s_ext, s_same, b_eql, b_neq, b_lss, b_leq, b_gtr, b_geq, b_add, b_sub, b_mul, b_eqlb, b_neqb, b_fnil, b_fnil', b_fnil2, b_fnil2', u_neg, u_not, m_two, s_end, s_end', s_end_iteN, s_res0, s_res1, s_tup1, s_tup2, ↓iteN_true, ↓iteN_false, iteN_true, iteN_false, Nat.zero_add, List.nil_append, List.append_nil, Nat.reduceEqDiff, reduceIte, decide_true, decide_false, Bool.not_true, Bool.not_false, List.getElem?_cons_zero, List.getElem?_cons_succ, Bool.false_eq_true, if_true, if_false, beq_self_eq_true]
    exact ⟨_, rfl, by simp only [s_getp, Nat.reduceEqDiff, decide_false, decide_true, iteN_false, iteN_true]⟩
  · right; right
    refine ⟨heq, ?_⟩
    have c1 : decide ((a : Int) < (b : Int)) = false := decide_eq_false (by omega)
    have c2 : decide ((b : Int) < (a : Int)) = false := decide_eq_false (by omega)
    simp (config := {maxSteps := 1000000}) (disch := first | omega | (simp only [List.length_cons, List.length_nil, List.length_append, List.length_drop]; omega)) only [lp_purserref06_Compare, t2, t3, t5, hx, hy, ca, cb, c0, c1, c2, ti, Nat.mul_one, ↓x_fieldAddr, x_fieldV, wr_i64, ↓s_evD, ↓s_dnil, ↓s_dL, ↓s_dLg, ↓s_dR, ↓s_dRg, ↓s_dRj, ↓s_dRjg, ↓s_dB, ↓s_dBg, ↓s_dAlloc, ↓s_bindD, s_bindD, s_finD, s_finDx, s_addP0, s_addP1, s_addB, s_lookP, ↓s_bump0, ↓s_bump_get, s_bump_next, s_ok0, ↓s_ok1, s_okR0, ↓s_okR1, ↓s_okE, s_okE, s_okE1, s_nth0, s_nthS, Nat.add_zero, Bool.and_self, Bool.and_true, Bool.true_and, ↓l_loop, ↓l_succ, ↓l_normal, l_normal, l_exit, l_ret, l_iteN, ↓h_put_get, ↓h_new_get, ↓h_del_get, h_next_put, h_next_new, h_next_del, Nat.add_assoc, Nat.add_eq_left, Nat.left_eq_add, Nat.add_left_cancel_iff, ↓s_load, m_load, ↓m_load1, m_load1, ↓m_st, m_stE, m_storeI, m_storeE, w_zero, w_succ, ↓s_alloc, ↓x_idxA, ↓x_idxS, x_idxAE, x_idxSE, x_addrE, x_idx, x_lenS, ↓s_len, ↓x_buildS, x_buildE, ↓x_P0, ↓x_P1, x_fill0, x_filli, x_fills, x_fillb, c_int, List.length_cons, List.length_nil, List.cons_append, List.drop_succ_cons, List.drop_zero, List.drop_nil, List.nil_append, Int.reduceAdd, Int.reduceToNat, Int.reduceLT, Int.reduceLE, Nat.reduceAdd, Nat.reduceMul, Nat.reduceLeDiff, Int.reduceEq, Int.reduceSub, Int.cast_ofNat_Int, s_resc, s_consR, m_load4, m_store4, s_res0, ↓s_skip, ↓s_ops, ↓s_dops, ↓s_seq, ↓s_cond, ↓s_block, ↓s_exit, ↓s_ret, ↓s_scope, ↓s_nil, ↓s_op, ↓s_opg, ↓s_wanted', ↓s_wantV, s_wantV, s_wantV0, beq_true, beq_false, ↓s_bindS, s_bindS, ↓s_bindE, s_bindE, s_bindE_ret, s_bindE_exit, s_bindE_iteN, s_norm, ↓s_condV, s_condV, s_block_ret, s_block_normal, s_block_exit, s_block_iteN, ↓s_getp, ↓s_getp0, ↓s_get, s_get0, ↓s_con, ↓s_fn, ↓s_os0, ↓s_os1, ↓s_list0, ↓s_list1, ↓s_mov, ↓s_pick, ↓s_pickE, s_pickE, ↓s_bin, ↓s_un, ↓s_minmax, ↓s_call, ↓s_callv, ↓s_callV, ↓s_ext, s_same, b_eql, b_neq, b_lss, b_leq, b_gtr, b_geq, b_add, b_sub, b_mul, b_eqlb, b_neqb, b_fnil, b_fnil', b_fnil2, b_fnil2', u_neg, u_not, m_two, s_end, s_end', s_end_iteN, s_res0, s_res1, s_tup1, s_tup2, ↓iteN_true, ↓iteN_false, iteN_true, iteN_false, Nat.zero_add, List.nil_append, List.append_nil, Nat.reduceEqDiff, reduceIte, decide_true, decide_false, Bool.not_true, Bool.not_false, List.getElem?_cons_zero, List.getElem?_cons_succ, Bool.false_eq_true, if_true, if_false, beq_self_eq_true]
    exact ⟨_, rfl, by simp only [s_getp, Nat.reduceEqDiff, decide_false, decide_true, iteN_false, iteN_true, t2], by simp only [s_getp, Nat.reduceEqDiff, decide_false, decide_true, iteN_false, iteN_true, t3], by simp only [s_getp, Nat.reduceEqDiff, decide_false, decide_true, iteN_false, iteN_true]; rfl⟩
  · right; left
    refine ⟨hgt, ?_⟩
    have c1 : decide ((a : Int) < (b : Int)) = false := decide_eq_false (by omega)
    have c2 : decide ((b : Int) < (a : Int)) = true := decide_eq_true (by omega)
    simp (config := {maxSteps := 1000000}) (disch := first | omega | (simp only [List.length_cons, List.length_nil, List.length_append, List.length_drop]; omega)) only [lp_purserref06_Compare, t2, t3, t5, hx, hy, ca, cb, c0, c1, c2, ti, Nat.mul_one, ↓x_fieldAddr, x_fieldV, wr_i64, ↓s_evD, ↓s_dnil, ↓s_dL, ↓s_dLg, ↓s_dR, ↓s_dRg, ↓s_dRj, ↓s_dRjg, ↓s_dB, ↓s_dBg, ↓s_dAlloc, ↓s_bindD, s_bindD, s_finD, s_finDx, s_addP0, s_addP1, s_addB, s_lookP, ↓s_bump0, ↓s_bump_get, s_bump_next, s_ok0, ↓s_ok1, s_okR0, ↓s_okR1, ↓s_okE, s_okE, s_okE1, s_nth0, s_nthS, Nat.add_zero, Bool.and_self, Bool.and_true, Bool.true_and, ↓l_loop, ↓l_succ, ↓l_normal, l_normal, l_exit, l_ret, l_iteN, ↓h_put_get, ↓h_new_get, ↓h_del_get, h_next_put, h_next_new, h_next_del, Nat.add_assoc, Nat.add_eq_left, Nat.left_eq_add, Nat.add_left_cancel_iff, ↓s_load, m_load, ↓m_load1, m_load1, ↓m_st, m_stE, m_storeI, m_storeE, w_zero, w_succ, ↓s_alloc, ↓x_idxA, ↓x_idxS, x_idxAE, x_idxSE, x_addrE, x_idx, x_lenS, ↓s_len, ↓x_buildS, x_buildE, ↓x_P0, ↓x_P1, x_fill0, x_filli, x_fills, x_fillb, c_int, List.length_cons, List.length_nil, List.cons_append, List.drop_succ_cons, List.drop_zero, List.drop_nil, List.nil_append, Int.reduceAdd, Int.reduceToNat, Int.reduceLT, Int.reduceLE, Nat.reduceAdd, Nat.reduceMul, Nat.reduceLeDiff, Int.reduceEq, Int.reduceSub, Int.cast_ofNat_Int, s_resc, s_consR, m_load4, m_store4, s_res0, ↓s_skip, ↓s_ops, ↓s_dops, ↓s_seq, ↓s_cond, ↓s_block, ↓s_exit, ↓s_ret, ↓s_scope, ↓s_nil, ↓s_op, ↓s_opg, ↓s_wanted', ↓s_wantV, s_wantV, s_wantV0, beq_true, beq_false, ↓s_bindS, s_bindS, ↓s_bindE, s_bindE, s_bindE_ret, s_bindE_exit, s_bindE_iteN, s_norm, ↓s_condV, s_condV, s_block_ret, s_block_normal, s_block_exit, s_block_iteN, ↓s_getp, ↓s_getp0, ↓s_get, s_get0, ↓s_con, ↓s_fn, ↓s_os0, ↓s_os1, ↓s_list0, ↓s_list1, ↓s_mov, ↓s_pick, ↓s_pickE, s_pickE, ↓s_bin, ↓s_un, ↓s_minmax, ↓s_call, ↓s_callv, ↓s_callV, ↓s_ext, s_same, b_eql, b_neq, b_lss, b_leq, b_gtr, b_geq, b_add, b_sub, b_mul, b_eqlb, b_neqb, b_fnil, b_fnil', b_fnil2, b_fnil2', u_neg, u_not, m_two, s_end, s_end', s_end_iteN, s_res0, s_res1, s_tup1, s_tup2, ↓iteN_true, ↓iteN_false, iteN_true, iteN_false, Nat.zero_add, List.nil_append, List.append_nil, Nat.reduceEqDiff, reduceIte, decide_true, decide_false, Bool.not_true, Bool.not_false, List.getElem?_cons_zero, List.getElem?_cons_succ, Bool.false_eq_true, if_true, if_false, beq_self_eq_true]
    exact ⟨_, rfl, by simp only [s_getp, Nat.reduceEqDiff, decide_false, decide_true, iteN_false, iteN_true]⟩
theorem ref_last {Q : Orc} (n : Nat) (T : Tr V) (h : H) (t5 : evO T (.t 5) = .int .i64 ((32 : Nat) : Int)) (a b : V) (t2 : evO T (.t 2) = a) (t3 : evO T (.t 3) = b) :
    ∃ T', evC Q 38 n none lp_purserref06_Compare ⟨T, [], h⟩ = some (.exit 0, ⟨T', [], h⟩) ∧ evO T' (.t 2) = a ∧ evO T' (.t 3) = b := by
  have c1 : decide (((32 : Nat) : Int) < 32) = false := rfl
  simp (config := {maxSteps := 1000000}) (disch := first | omega | (simp only [List.length_cons, List.length_nil, List.length_append, List.length_drop]; omega)) only [lp_purserref06_Compare, t5, c1, ↓s_skip, ↓s_ops, ↓s_dops, ↓s_seq, ↓s_cond, ↓s_block, ↓s_exit, ↓s_ret, ↓s_scope, ↓s_nil, ↓s_op, ↓s_opg, ↓s_wanted', ↓s_wantV, s_wantV, s_wantV0, beq_true, beq_false, ↓s_bindS, s_bindS, ↓s_bindE, s_bindE, s_bindE_ret, s_bindE_exit, s_bindE_iteN, s_norm, ↓s_condV, s_condV, s_block_ret, s_block_normal, s_block_exit, s_block_iteN, ↓s_getp, ↓s_getp0, ↓s_get, s_get0, ↓s_con, ↓s_fn, ↓s_os0, ↓s_os1, ↓s_list0, ↓s_list1, ↓s_mov, ↓s_pick, ↓s_pickE, s_pickE, ↓s_bin, ↓s_un, ↓s_minmax, ↓s_call, ↓s_callv, ↓s_callV, ↓s_ext, s_same, b_eql, b_neq, b_lss, b_leq, b_gtr, b_geq, b_add, b_sub, b_mul, b_eqlb, b_neqb, b_fnil, b_fnil', b_fnil2, b_fnil2', u_neg, u_not, m_two, s_end, s_end', s_end_iteN, s_res0, s_res1, s_tup1, s_tup2, ↓iteN_true, ↓iteN_false, iteN_true, iteN_false, Nat.zero_add, List.nil_append, List.append_nil, Nat.reduceEqDiff, reduceIte, decide_true, decide_false, Bool.not_true, Bool.not_false, List.getElem?_cons_zero, List.getElem?_cons_succ, Bool.false_eq_true, if_true, if_false, beq_self_eq_true]
  exact ⟨_, rfl, by simp only [s_getp, Nat.reduceEqDiff, decide_false, iteN_false, t2], by simp only [s_getp, Nat.reduceEqDiff, decide_false, iteN_false, t3]⟩
theorem drop_get (s : List Nat) (i : Nat) (h : i < s.length) : s.drop i = s[i]?.getD 0 :: s.drop (i + 1) := by
  rw [List.drop_eq_getElem_cons h, List.getElem?_eq_getElem h]; rfl
theorem ref_loop {Q : Orc} (n : Nat) {s t : List Nat} {na nb : Nat} (hs : OpOk s na) (ht : OpOk t nb) (x y : Nat) (h : H) (hx : h.get x = some (.cells (opC s na) .rw)) (hy : h.get y = some (.cells (opC t nb) .rw)) :
    ∀ (k i : Nat), k + i = 32 → s.take i = t.take i → ∀ (g : Nat), k < g → ∀ (T : Tr V), evO T (.t 2) = .ptr (some (x, 0)) → evO T (.t 3) = .ptr (some (y, 0)) → evO T (.t 5) = .int .i64 (i : Int) →
      (∃ T', loopN (evC Q 38 n none lp_purserref06_Compare) g ⟨T, [], h⟩ = some (.ret, ⟨T', [], h⟩) ∧ evO T' (.t 4) = .int .i64 (cmpN s t) ∧ cmpN s t ≠ 0) ∨
      (∃ T', loopN (evC Q 38 n none lp_purserref06_Compare) g ⟨T, [], h⟩ = some (.exit 0, ⟨T', [], h⟩) ∧ evO T' (.t 2) = .ptr (some (x, 0)) ∧ evO T' (.t 3) = .ptr (some (y, 0)) ∧ s = t) := by
  intro k
  induction k with
  | zero =>
    intro i hi htk g hg T t2 t3 t5
    obtain ⟨g, rfl⟩ : ∃ j, g = j + 1 := ⟨g - 1, by omega⟩
    have : i = 32 := by omega
    subst this
    obtain ⟨T', r1, r2, r3⟩ := ref_last (Q := Q) n T h t5 _ _ t2 t3
    right
    refine ⟨T', by rw [l_succ, r1, l_exit], r2, r3, ?_⟩
    rw [List.take_of_length_le (by rw [hs.len]; omega), List.take_of_length_le (by rw [ht.len]; omega)] at htk
    exact htk
  | succ k ih =>
    intro i hi htk g hg T t2 t3 t5
    obtain ⟨g, rfl⟩ : ∃ j, g = j + 1 := ⟨g - 1, by omega⟩
    have e := cmpN_take i s t (by rw [hs.len]; omega) (by rw [ht.len]; omega) htk
    rw [drop_get s i (by rw [hs.len]; omega), drop_get t i (by rw [ht.len]; omega)] at e
    rcases ref_round (Q := Q) n hs ht i x y (by omega) T h t2 t3 t5 hx hy with ⟨q, T', r1, r2⟩ | ⟨q, T', r1, r2⟩ | ⟨q, T', r1, r2, r3, r4⟩
    · left
      have v : cmpN s t = -1 := by rw [e]; simp only [cmpN, blt_dec', decide_eq_true q]
      exact ⟨T', by rw [l_succ, r1, l_ret], by rw [v]; exact r2, by rw [v]; decide⟩
    · left
      have v : cmpN s t = 1 := by rw [e]; simp only [cmpN, blt_dec', decide_eq_true q, decide_eq_false (Nat.lt_asymm q)]
      exact ⟨T', by rw [l_succ, r1, l_ret], by rw [v]; exact r2, by rw [v]; decide⟩
    · have tk : s.take (i + 1) = t.take (i + 1) := by
        rw [List.take_add_one, List.take_add_one, htk]
        congr 1
        have h1 : i < s.length := by rw [hs.len]; omega
        have h2 : i < t.length := by rw [ht.len]; omega
        rw [List.getElem?_eq_getElem h1, List.getElem?_eq_getElem h2] at q ⊢
        simpa using q
      rcases ih (i + 1) (by omega) tk g (by omega) T' r2 r3 r4 with ⟨T2, a1, a2⟩ | ⟨T2, a1, a2⟩
      · left; exact ⟨T2, by rw [l_succ, r1, l_normal]; exact a1, a2⟩
      · right; exact ⟨T2, by rw [l_succ, r1, l_normal]; exact a1, a2⟩
theorem opK_cmp {s t : List Nat} {n m : Nat} (hs : OpOk s n) (ht : OpOk t m) : (cmpN s t ≠ 0 → cmpK (opK s n) (opK t m) = cmpN s t) ∧ (s = t → cmpK (opK s n) (opK t m) = cmpK n m) := by
  constructor
  · intro h
    rw [cmpN_val s t (by rw [hs.len, ht.len]) hs.lt ht.lt] at h ⊢
    have := hs.nlt
    have := ht.nlt
    rcases cmpK_cases (valB s) (valB t) with ⟨c, q⟩ | ⟨c, q⟩ | ⟨c, q⟩ <;> rw [q] at h ⊢ <;> rcases cmpK_cases (opK s n) (opK t m) with ⟨c2, q2⟩ | ⟨c2, q2⟩ | ⟨c2, q2⟩ <;> first | exact q2 | (exfalso; unfold opK at c2; omega) | omega
  · rintro rfl
    rcases cmpK_cases n m with ⟨c2, q2⟩ | ⟨c2, q2⟩ | ⟨c2, q2⟩ <;> rw [q2] <;> rcases cmpK_cases (opK s n) (opK s m) with ⟨c3, q3⟩ | ⟨c3, q3⟩ | ⟨c3, q3⟩ <;> first | exact q3 | (exfalso; unfold opK at c3; omega)
set_option maxRecDepth 10000 in
theorem sp_refCompare {X : Orc} (e : E k_purserref06_Compare = some f_purserref06_Compare) (hx : ∀ args h, X (.fn k_purserref06_Compare) args h = none) (N : Nat) (hN : 40 ≤ N) {s t : List Nat} {n m : Nat} (hs : OpOk s n) (ht : OpOk t m) : ∃ h1, callX E X (N + 1) (.fn k_purserref06_Compare) [OP s n, OP t m] H.empty = some (.int .i64 (cmpK (opK s n) (opK t m)), h1) := by
  rw [x_cfn e _ _ (Nat.le_of_ble_eq_true rfl) (hx _ _)]
  have n0 : H.empty.next = 0 := rfl
  have hl := ref_loop (Q := callX E X N) N hs ht 0 1 ((H.empty.new (.cells (opC s n) .rw)).new (.cells (opC t m) .rw)) (by simp only [h_new_get, h_next_new, n0, Nat.reduceAdd, Nat.reduceEqDiff, decide_false, decide_true, iteN_false, iteN_true]) (by simp only [h_new_get, h_next_new, n0, Nat.reduceAdd, Nat.reduceEqDiff, decide_false, decide_true, iteN_false, iteN_true]) 32 0 rfl rfl N (by omega)
    (putT (putT (putT (putT (Tr.set (Tr.set .e 0 (some (OP s n))) 1 (some (OP t m))) (some 2) (.ptr (some (0, 0)))) (some 3) (.ptr (some (1, 0)))) (some 4) (.int .i64 0)) (some 5) (.int .i64 0)) (by simp only [s_getp, Nat.reduceEqDiff, decide_false, decide_true, iteN_false, iteN_true]) (by simp only [s_getp, Nat.reduceEqDiff, decide_false, decide_true, iteN_false, iteN_true]) (by simp only [s_getp, Nat.reduceEqDiff, decide_false, decide_true, iteN_false, iteN_true]; rfl)
  rw [← s_loop (Q := callX E X N) (N := 38) (n := N) (rnd := none)] at hl
  unfold lp_purserref06_Compare at hl
  have l1 := opC_n hs
  have l2 := opC_n ht
  obtain ⟨k1, k2⟩ := opK_cmp hs ht
  rcases hl with ⟨T', r1, r2, r3⟩ | ⟨T', r1, r2, r3, r4⟩
  · rw [k1 r3]
    simp (config := {maxSteps := 1000000}) (disch := first | omega | (simp only [List.length_cons, List.length_nil, List.length_append, List.length_drop]; omega)) only [n0, r1, r2, ↓s_box, OP_cells, h_next_new, Nat.reduceAdd, Nat.zero_add, ↓s_skip, ↓s_ops, ↓s_dops, ↓s_seq, ↓s_cond, ↓s_block, ↓s_exit, ↓s_ret, ↓s_scope, ↓s_nil, ↓s_op, ↓s_opg, ↓s_wanted', ↓s_wantV, s_wantV, s_wantV0, beq_true, beq_false, ↓s_bindS, s_bindS, ↓s_bindE, s_bindE, s_bindE_ret, s_bindE_exit, s_bindE_iteN, s_norm, ↓s_condV, s_condV, s_block_ret, s_block_normal, s_block_exit, s_block_iteN, ↓s_getp, ↓s_getp0, ↓s_get, s_get0, ↓s_con, ↓s_fn, ↓s_os0, ↓s_os1, ↓s_list0, ↓s_list1, ↓s_mov, ↓s_pick, ↓s_pickE, s_pickE, ↓s_bin, ↓s_un, ↓s_minmax, ↓s_call, ↓s_callv, ↓s_callV, ↓s_ext, s_same, b_eql, b_neq, b_lss, b_leq, b_gtr, b_geq, b_add, b_sub, b_mul, b_eqlb, b_neqb, b_fnil, b_fnil', b_fnil2, b_fnil2', u_neg, u_not, m_two, s_end, s_end', s_end_iteN, s_res0, s_res1, s_tup1, s_tup2, ↓iteN_true, ↓iteN_false, iteN_true, iteN_false, Nat.zero_add, List.nil_append, List.append_nil, Nat.reduceEqDiff, reduceIte, decide_true, decide_false, Bool.not_true, Bool.not_false, List.getElem?_cons_zero, List.getElem?_cons_succ, Bool.false_eq_true, if_true, if_false, beq_self_eq_true]
    exact ⟨_, rfl⟩
  · rw [k2 r4]
    rcases cmpK_cases n m with ⟨c, q⟩ | ⟨c, q⟩ | ⟨c, q⟩
    · have d1 : decide ((n : Int) < (m : Int)) = true := decide_eq_true (by omega)
      simp (config := {maxSteps := 1000000}) (disch := first | omega | (simp only [List.length_cons, List.length_nil, List.length_append, List.length_drop]; omega)) only [n0, q, d1, r1, r2, r3, l1, l2, ↓s_box, OP_cells, ↓x_fieldAddr, x_fieldV, ↓h_put_get, ↓h_new_get, h_next_put, h_next_new, Nat.reduceAdd, ↓s_load, m_load, ↓m_load1, m_load1, ↓s_skip, ↓s_ops, ↓s_dops, ↓s_seq, ↓s_cond, ↓s_block, ↓s_exit, ↓s_ret, ↓s_scope, ↓s_nil, ↓s_op, ↓s_opg, ↓s_wanted', ↓s_wantV, s_wantV, s_wantV0, beq_true, beq_false, ↓s_bindS, s_bindS, ↓s_bindE, s_bindE, s_bindE_ret, s_bindE_exit, s_bindE_iteN, s_norm, ↓s_condV, s_condV, s_block_ret, s_block_normal, s_block_exit, s_block_iteN, ↓s_getp, ↓s_getp0, ↓s_get, s_get0, ↓s_con, ↓s_fn, ↓s_os0, ↓s_os1, ↓s_list0, ↓s_list1, ↓s_mov, ↓s_pick, ↓s_pickE, s_pickE, ↓s_bin, ↓s_un, ↓s_minmax, ↓s_call, ↓s_callv, ↓s_callV, ↓s_ext, s_same, b_eql, b_neq, b_lss, b_leq, b_gtr, b_geq, b_add, b_sub, b_mul, b_eqlb, b_neqb, b_fnil, b_fnil', b_fnil2, b_fnil2', u_neg, u_not, m_two, s_end, s_end', s_end_iteN, s_res0, s_res1, s_tup1, s_tup2, ↓iteN_true, ↓iteN_false, iteN_true, iteN_false, Nat.zero_add, List.nil_append, List.append_nil, Nat.reduceEqDiff, reduceIte, decide_true, decide_false, Bool.not_true, Bool.not_false, List.getElem?_cons_zero, List.getElem?_cons_succ, Bool.false_eq_true, if_true, if_false, beq_self_eq_true]
      exact ⟨_, rfl⟩
    · have d1 : decide ((n : Int) < (m : Int)) = false := decide_eq_false (by omega)
      have d2 : decide ((m : Int) < (n : Int)) = false := decide_eq_false (by omega)
      simp (config := {maxSteps := 1000000}) (disch := first | omega | (simp only [List.length_cons, List.length_nil, List.length_append, List.length_drop]; omega)) only [n0, q, d1, d2, r1, r2, r3, l1, l2, ↓s_box, OP_cells, ↓x_fieldAddr, x_fieldV, ↓h_put_get, ↓h_new_get, h_next_put, h_next_new, Nat.reduceAdd, ↓s_load, m_load, ↓m_load1, m_load1, ↓s_skip, ↓s_ops, ↓s_dops, ↓s_seq, ↓s_cond, ↓s_block, ↓s_exit, ↓s_ret, ↓s_scope, ↓s_nil, ↓s_op, ↓s_opg, ↓s_wanted', ↓s_wantV, s_wantV, s_wantV0, beq_true, beq_false, ↓s_bindS, s_bindS, ↓s_bindE, s_bindE, s_bindE_ret, s_bindE_exit, s_bindE_iteN, s_norm, ↓s_condV, s_condV, s_block_ret, s_block_normal, s_block_exit, s_block_iteN, ↓s_getp, ↓s_getp0, ↓s_get, s_get0, ↓s_con, ↓s_fn, ↓s_os0, ↓s_os1, ↓s_list0, ↓s_list1, ↓s_mov, ↓s_pick, ↓s_pickE, s_pickE, ↓s_bin, ↓s_un, ↓s_minmax, ↓s_call, ↓s_callv, ↓s_callV, ↓s_ext, s_same, b_eql, b_neq, b_lss, b_leq, b_gtr, b_geq, b_add, b_sub, b_mul, b_eqlb, b_neqb, b_fnil, b_fnil', b_fnil2, b_fnil2', u_neg, u_not, m_two, s_end, s_end', s_end_iteN, s_res0, s_res1, s_tup1, s_tup2, ↓iteN_true, ↓iteN_false, iteN_true, iteN_false, Nat.zero_add, List.nil_append, List.append_nil, Nat.reduceEqDiff, reduceIte, decide_true, decide_false, Bool.not_true, Bool.not_false, List.getElem?_cons_zero, List.getElem?_cons_succ, Bool.false_eq_true, if_true, if_false, beq_self_eq_true]
      exact ⟨_, rfl⟩
    · have d1 : decide ((n : Int) < (m : Int)) = false := decide_eq_false (by omega)
      have d2 : decide ((m : Int) < (n : Int)) = true := decide_eq_true (by omega)
      simp (config := {maxSteps := 1000000}) (disch := first | omega | (simp only [List.length_cons, List.length_nil, List.length_append, List.length_drop]; omega)) only [n0, q, d1, d2, r1, r2, r3, l1, l2, ↓s_box, OP_cells, ↓x_fieldAddr, x_fieldV, ↓h_put_get, ↓h_new_get, h_next_put, h_next_new, Nat.reduceAdd, ↓s_load, m_load, ↓m_load1, m_load1, ↓s_skip, ↓s_ops, ↓s_dops, ↓s_seq, ↓s_cond, ↓s_block, ↓s_exit, ↓s_ret, ↓s_scope, ↓s_nil, ↓s_op, ↓s_opg, ↓s_wanted', ↓s_wantV, s_wantV, s_wantV0, beq_true, beq_false, ↓s_bindS, s_bindS, ↓s_bindE, s_bindE, s_bindE_ret, s_bindE_exit, s_bindE_iteN, s_norm, ↓s_condV, s_condV, s_block_ret, s_block_normal, s_block_exit, s_block_iteN, ↓s_getp, ↓s_getp0, ↓s_get, s_get0, ↓s_con, ↓s_fn, ↓s_os0, ↓s_os1, ↓s_list0, ↓s_list1, ↓s_mov, ↓s_pick, ↓s_pickE, s_pickE, ↓s_bin, ↓s_un, ↓s_minmax, ↓s_call, ↓s_callv, ↓s_callV, ↓s_ext, s_same, b_eql, b_neq, b_lss, b_leq, b_gtr, b_geq, b_add, b_sub, b_mul, b_eqlb, b_neqb, b_fnil, b_fnil', b_fnil2, b_fnil2', u_neg, u_not, m_two, s_end, s_end', s_end_iteN, s_res0, s_res1, s_tup1, s_tup2, ↓iteN_true, ↓iteN_false, iteN_true, iteN_false, Nat.zero_add, List.nil_append, List.append_nil, Nat.reduceEqDiff, reduceIte, decide_true, decide_false, Bool.not_true, Bool.not_false, List.getElem?_cons_zero, List.getElem?_cons_succ, Bool.false_eq_true, if_true, if_false, beq_self_eq_true]
      exact ⟨_, rfl⟩
def refS : List V → Option V := txS
noncomputable def refX (kr : Nat) : Orc := orX (pureX k_purserref06_Compare refS) (txX kr)
theorem refX_ok {g : Gn} {kr : Nat} (hE : Link P g E) (F : TxE E) (e : E k_purserref06_Compare = some f_purserref06_Compare) (hB : QOk P g (txX kr)) (hx : ∀ args h, txX kr (.fn k_purserref06_Compare) args h = none) : QOk P g (refX kr) := by
  refine orX_ok (pureX_ok (callX_ok hE hB 41) fun args v hs => ?_) hB
  unfold refS txS at hs
  split at hs
  · rename_i a b
    cases ha : opOf a with
    | none => rw [ha] at hs; cases hs
    | some x =>
      obtain ⟨s, n⟩ := x
      rw [ha] at hs
      cases hb : opOf b with
      | none => simp only [hb] at hs; cases hs
      | some y =>
        obtain ⟨t, m⟩ := y
        simp only [hb] at hs
        cases hs
        obtain ⟨rfl, hs⟩ := opOf_some ha
        obtain ⟨rfl, ht⟩ := opOf_some hb
        exact ⟨by simp only [datas, OP_data, Bool.and_self], rfl, sp_refCompare e hx 40 (by omega) hs ht⟩
  · cases hs
theorem txS_OP {s t : List Nat} {n m : Nat} (hs : OpOk s n) (ht : OpOk t m) : txS [OP s n, OP t m] = some (.int .i64 (cmpK (opK s n) (opK t m))) := by
  show (match opOf (OP s n) with | some (s, n) => (match opOf (OP t m) with | some (t, m) => some (V.int .i64 (cmpK (opK s n) (opK t m))) | none => none) | none => none) = _
  rw [opOf_OP hs, opOf_OP ht]
theorem law_TxOrders {X : Orc} (n : Nat) (e : E k_purserlaw06_TxOrders = some f_purserlaw06_TxOrders) (hx : ∀ args h, X (.fn k_purserlaw06_TxOrders) args h = none) (hC : ∀ (s t : List Nat) (n m : Nat) (h : H), OpOk s n → OpOk t m → X (.fn k_tx_Compare) [OP s n, OP t m] h = some (.int .i64 (cmpK (opK s n) (opK t m)), h)) (hR : ∀ (s t : List Nat) (n m : Nat) (h : H), OpOk s n → OpOk t m → X (.fn k_purserref06_Compare) [OP s n, OP t m] h = some (.int .i64 (cmpK (opK s n) (opK t m)), h))
    {sa sb : List Nat} {na nb : Nat} (ha : OpOk sa na) (hb : OpOk sb nb) :
    ∃ h2, callX E X (n + 2) (.fn k_purserlaw06_TxOrders) [OP sa na, OP sb nb] (mkH [] 0) = some (.bool true, h2) := by
  rw [x_cfn e _ _ (Nat.le_of_ble_eq_true rfl) (hx _ _)]
  have n0 : (mkH [] 0).next = 0 := rfl
  have c1 := fun h => x_known (E := E) (n := n) (hC sa sb na nb h ha hb)
  have c2 := fun h => x_known (E := E) (n := n) (hR sa sb na nb h ha hb)
  have c3 := fun h => x_known (E := E) (n := n) (hC sa sa na na h ha ha)
  have z : cmpK (opK sa na) (opK sa na) = 0 := by unfold cmpK; rw [if_pos rfl]
  rw [z] at c3
  obtain ⟨k, ek⟩ : ∃ k, cmpK (opK sa na) (opK sb nb) = k := ⟨_, rfl⟩
  rw [ek] at c1 c2
  have kk : decide (k = k) = true := decide_eq_true rfl
  have oa := OP_load ha .rw
  have ob := OP_load hb .rw
  simp (config := {maxSteps := 1000000}) (disch := first | omega | (simp only [List.length_cons, List.length_nil, List.length_append, List.length_drop]; omega)) only [n0, c1, c2, c3, kk, oa, ob, OP_beq, OP_cells, ↓s_box, ↓s_evD, ↓s_dnil, ↓s_dL, ↓s_dLg, ↓s_dR, ↓s_dRg, ↓s_dRj, ↓s_dRjg, ↓s_dB, ↓s_dBg, ↓s_dAlloc, ↓s_bindD, s_bindD, s_finD, s_finDx, s_addP0, s_addP1, s_addB, s_lookP, ↓s_bump0, ↓s_bump_get, s_bump_next, s_ok0, ↓s_ok1, s_okR0, ↓s_okR1, ↓s_okE, s_okE, s_okE1, s_nth0, s_nthS, Nat.add_zero, Bool.and_self, Bool.and_true, Bool.true_and, ↓l_loop, ↓l_succ, ↓l_normal, l_normal, l_exit, l_ret, l_iteN, ↓h_put_get, ↓h_new_get, ↓h_del_get, h_next_put, h_next_new, h_next_del, Nat.add_assoc, Nat.add_eq_left, Nat.left_eq_add, Nat.add_left_cancel_iff, ↓s_load, m_load, ↓m_load1, m_load1, ↓m_st, m_stE, m_storeI, m_storeE, w_zero, w_succ, ↓s_alloc, ↓x_idxA, ↓x_idxS, x_idxAE, x_idxSE, x_addrE, x_idx, x_lenS, ↓s_len, ↓x_buildS, x_buildE, ↓x_P0, ↓x_P1, x_fill0, x_filli, x_fills, x_fillb, c_int, List.length_cons, List.length_nil, List.cons_append, List.drop_succ_cons, List.drop_zero, List.drop_nil, List.nil_append, Int.reduceAdd, Int.reduceToNat, Int.reduceLT, Int.reduceLE, Nat.reduceAdd, Nat.reduceMul, Nat.reduceLeDiff, Int.reduceEq, Int.reduceSub, Int.cast_ofNat_Int, s_resc, s_consR, m_load4, m_store4, s_res0, ↓s_skip, ↓s_ops, ↓s_dops, ↓s_seq, ↓s_cond, ↓s_block, ↓s_exit, ↓s_ret, ↓s_scope, ↓s_nil, ↓s_op, ↓s_opg, ↓s_wanted', ↓s_wantV, s_wantV, s_wantV0, beq_true, beq_false, ↓s_bindS, s_bindS, ↓s_bindE, s_bindE, s_bindE_ret, s_bindE_exit, s_bindE_iteN, s_norm, ↓s_condV, s_condV, s_block_ret, s_block_normal, s_block_exit, s_block_iteN, ↓s_getp, ↓s_getp0, ↓s_get, s_get0, ↓s_con, ↓s_fn, ↓s_os0, ↓s_os1, ↓s_list0, ↓s_list1, ↓s_mov, ↓s_pick, ↓s_pickE, s_pickE, ↓s_bin, ↓s_un, ↓s_minmax, ↓s_call, ↓s_callv, ↓s_callV, ↓s_ext, s_same, b_eql, b_neq, b_lss, b_leq, b_gtr, b_geq, b_add, b_sub, b_mul, b_eqlb, b_neqb, b_fnil, b_fnil', b_fnil2, b_fnil2', u_neg, u_not, m_two, s_end, s_end', s_end_iteN, s_res0, s_res1, s_tup1, s_tup2, ↓iteN_true, ↓iteN_false, iteN_true, iteN_false, Nat.zero_add, List.nil_append, List.append_nil, Nat.reduceEqDiff, reduceIte, decide_true, decide_false, Bool.not_true, Bool.not_false, List.getElem?_cons_zero, List.getElem?_cons_succ, Bool.false_eq_true, if_true, if_false, beq_self_eq_true]
  exact ⟨_, rfl⟩
end Go.Eng
