/- What functions of the program come to: own work. -/
import Derived.Test.YtglaaipaomnnmaaShC
namespace Go.Eng
open Go
variable {E : Nat → Option Fn} {X : Orc}
set_option linter.unusedSimpArgs false
set_option linter.unusedVariables false
/-! rules for bytes in memory -/
theorem unI : ∀ (l : List Nat), unB (ofI .u8 l) = some l := fun l => by rw [ofI_u8]; exact unB_of l
theorem rdI (n off : Nat) (l : List Nat) (m : Md) (h : off + n ≤ l.length) : rdC n off (some (.cells (ofI .u8 l) m)) = some ((l.drop off).take n) := by
  unfold rdC
  simp only [readN_of _ _ _ (show off + n ≤ (ofI .u8 l).length by rw [ofI_len]; exact h), ofI_drop, ofI_take, unI]
noncomputable def srcE (b : Option Blk) (off len esz : Nat) : Option (Nat × List V) := match b with
  | some (.cells vs _) => match readN vs off (len * esz) with | some l => some (len, l) | none => none
  | _ => none
@[congr] theorem srcE_congr {b b' : Option Blk} {off len esz : Nat} (e : b = b') : srcE b off len esz = srcE b' off len esz := by rw [e]
theorem m_src (h : H) (esz i off len : Nat) (c : Option Nat) (e : Nat) : srcCells h esz (.slice (some (i, off)) (len + 1) c e) = srcE (h.get i) off (len + 1) esz := by
  unfold srcCells srcE cellsAt
  simp only
  cases h.get i with
  | none => rfl
  | some b => cases b <;> rfl
theorem m_src0 (h : H) (esz : Nat) (a : Option (Nat × Nat)) (c : Option Nat) (e : Nat) : srcCells h esz (.slice a 0 c e) = some (0, []) := by
  unfold srcCells
  cases a <;> rfl
theorem srcI (k : IntKind) (off n : Nat) (l : List Nat) (m : Md) (h : off + n ≤ l.length) : srcE (some (.cells (ofI k l) m)) off n 1 = some (n, ofI k ((l.drop off).take n)) := by
  unfold srcE
  simp only [Nat.mul_one, readN_of _ _ _ (show off + n ≤ (ofI k l).length by rw [ofI_len]; exact h), ofI_drop, ofI_take]
theorem ldI (k : IntKind) (off n : Nat) (l : List Nat) (m : Md) (h : off + n ≤ l.length) : loadE (some (.cells (ofI k l) m)) (some n) off = some (.agg (ofI k ((l.drop off).take n))) := by
  rw [m_loadN, readN_of _ _ _ (show off + n ≤ (ofI k l).length by rw [ofI_len]; exact h), ofI_drop, ofI_take]
theorem ld1I (k : IntKind) (off : Nat) (l : List Nat) (m : Md) (h : off < l.length) : loadE (some (.cells (ofI k l) m)) none off = some (.int k (l.getD off 0 : Nat)) := by
  rw [m_load1, ofI_get _ _ _ h]
theorem wrI (k : IntKind) (a b : List Nat) (off : Nat) (h : off + b.length ≤ a.length) : writeN (ofI k a) off (ofI k b) = ofI k (a.take off ++ b ++ a.drop (off + b.length)) := by
  rw [writeN_eq _ _ _ (by rw [ofI_len]; omega), ofI_len, ofI_take, ofI_drop, ← ofI_app, ← ofI_app]
theorem wr1I (k : IntKind) (a : List Nat) (off v : Nat) (h : off < a.length) : writeN (ofI k a) off [.int k (v : Int)] = ofI k (a.set off v) := by
  rw [writeN_set _ _ _ (by rw [ofI_len]; exact h), ofI_set]
theorem stI (k : IntKind) (l : List Nat) (c : List V) (h : H) (i off : Nat) (hl : off + c.length ≤ l.length) : storeE (some (.cells (ofI k l) .rw)) h i off c = some (h.put i (.cells (writeN (ofI k l) off c) .rw)) := m_storeE _ _ _ _ _ (by rw [ofI_len]; exact hl)
theorem st32 (h : H) (i o : Nat) (l : List Nat) (hl : l.length = 32) : storeV h 32 (.ptr (some (i, o))) (.agg (ofI .u8 l)) = storeE (h.get i) h i o (ofI .u8 l) := m_storeA h 32 i o _ (by rw [ofI_len, hl, plain_ofI]; rfl)
theorem wrAll (k : IntKind) (z b : List Nat) (h : z.length = b.length) : writeN (ofI k z) 0 (ofI k b) = ofI k b := writeN_all _ _ (by rw [ofI_len, ofI_len, h])
theorem take_all (l : List Nat) (n : Nat) (h : l.length ≤ n) : l.take n = l := List.take_of_length_le h
theorem drop_all (l : List Nat) (n : Nat) (h : l.length ≤ n) : l.drop n = [] := List.drop_eq_nil_of_le h
/-! an append of bytes to a slice that is full, or to none -/
noncomputable def appF (b : Option Blk) (h : H) (off sl : Nat) (n : Nat) (new : List V) : Option (V × H) := match b with
  | some (.cells vs m) => match readN vs off (sl * 1) with
    | some old => some (.slice (some (h.next, 0)) (sl + n) none 1, h.new (.cells (old ++ new) .rw))
    | none => none
  | _ => none
@[congr] theorem appF_congr {b b' : Option Blk} {h : H} {off sl n : Nat} {new : List V} (e : b = b') : appF b h off sl n new = appF b' h off sl n new := by rw [e]
theorem s_append (Q : Orc) (T : Tr V) (h : H) (esz bytes : Nat) (s x : O) : Eng.step (.append esz bytes s x) Q T h = appendC h esz bytes (evO T s) (srcCells h esz (evO T x)) := _root_.id rfl
theorem appF_of (h : H) (i off sl c n : Nat) (k : IntKind) (l : List Nat) (hc : c < sl + (n + 1)) (hs : sl + (n + 1) ≤ 35184372088832) : appendC h 1 1 (.slice (some (i, off)) sl (some c) 1) (some (n + 1, ofI k l)) = appF (h.get i) h off sl (n + 1) (ofI k l) := by
  unfold appendC appF
  simp only
  have r : (roomy (sl + (n + 1)) 1 && (Nat.beq 1 1 || (some (i, off) : Option (Nat × Nat)).isNone) && (ofI k l).all plainV) = true := by
    rw [plain_ofI]; simp [roomy]; omega
  have f : fullC (some c) (sl + (n + 1)) = true := by
    show Nat.blt c (sl + (n + 1)) = true
    simpa [Nat.blt_eq] using hc
  rw [r]
  simp only [_root_.cond_true]
  cases h.get i with
  | none => rfl
  | some b =>
    cases b with
    | cells vs m => simp only [f]; rfl
    | loop => rfl
    | defers => rfl
theorem appFI (k : IntKind) (l new : List Nat) (m : Md) (h : H) (off sl n : Nat) (hl : off + sl ≤ l.length) : appF (some (.cells (ofI k l) m)) h off sl n (ofI k new) = some (.slice (some (h.next, 0)) (sl + n) none 1, h.new (.cells (ofI k ((l.drop off).take sl ++ new)) .rw)) := by
  unfold appF
  simp only [Nat.mul_one, readN_of _ _ _ (show off + sl ≤ (ofI k l).length by rw [ofI_len]; exact hl), ofI_drop, ofI_take, ofI_app]
theorem appF0 (k : IntKind) (new : List Nat) (m : Md) (h : H) (n : Nat) : appF (some (.cells [] m)) h 0 0 n (ofI k new) = some (.slice (some (h.next, 0)) n none 1, h.new (.cells (ofI k new) .rw)) := by
  unfold appF
  show some (V.slice (some (h.next, 0)) (0 + n) none 1, _) = _
  rw [Nat.zero_add]; rfl
/-- an append to a slice of unknown room that begins its block: the old block is forgotten -/
noncomputable def appU (b : Option Blk) (h : H) (i sl : Nat) (n : Nat) (new : List V) : Option (V × H) := match b with
  | some (.cells vs m) => match m with
    | .ro => none
    | m => match readN vs 0 (sl * 1) with
      | some old => some (.slice (some (h.next, 0)) (sl + n) none 1, (h.del i).new (.cells (old ++ new) .sh))
      | none => none
  | _ => none
@[congr] theorem appU_congr {b b' : Option Blk} {h : H} {i sl n : Nat} {new : List V} (e : b = b') : appU b h i sl n new = appU b' h i sl n new := by rw [e]
theorem appU_of (h : H) (i sl n : Nat) (k : IntKind) (l : List Nat) (hs : sl + (n + 1) ≤ 35184372088832) : appendC h 1 1 (.slice (some (i, 0)) sl none 1) (some (n + 1, ofI k l)) = appU (h.get i) h i sl (n + 1) (ofI k l) := by
  unfold appendC appU
  simp only
  have r : (roomy (sl + (n + 1)) 1 && (Nat.beq 1 1 || (some (i, 0) : Option (Nat × Nat)).isNone) && (ofI k l).all plainV) = true := by
    rw [plain_ofI]; simp [roomy]; omega
  have f : fullC none (sl + (n + 1)) = false := rfl
  rw [r]
  simp only [_root_.cond_true]
  cases h.get i with
  | none => rfl
  | some b =>
    cases b with
    | cells vs m => simp only [f]; cases m <;> rfl
    | loop => rfl
    | defers => rfl
theorem appUI (k : IntKind) (l new : List Nat) (m : Md) (hm : isRo m = false) (h : H) (i sl n : Nat) (hl : sl ≤ l.length) : appU (some (.cells (ofI k l) m)) h i sl n (ofI k new) = some (.slice (some (h.next, 0)) (sl + n) none 1, (h.del i).new (.cells (ofI k (l.take sl ++ new)) .sh)) := by
  have r := readN_of (ofI k l) 0 sl (by rw [ofI_len]; omega)
  unfold appU
  cases m with
  | ro => cases hm
  | rw => simp only [Nat.mul_one, r, List.drop_zero, ofI_take, ofI_app]
  | sh => simp only [Nat.mul_one, r, List.drop_zero, ofI_take, ofI_app]
theorem appUIw (k : IntKind) (l new : List Nat) (h : H) (i sl n : Nat) (hl : sl ≤ l.length) : appU (some (.cells (ofI k l) .rw)) h i sl n (ofI k new) = some (.slice (some (h.next, 0)) (sl + n) none 1, (h.del i).new (.cells (ofI k (l.take sl ++ new)) .sh)) := appUI k l new .rw rfl h i sl n hl
theorem appUIs (k : IntKind) (l new : List Nat) (h : H) (i sl n : Nat) (hl : sl ≤ l.length) : appU (some (.cells (ofI k l) .sh)) h i sl n (ofI k new) = some (.slice (some (h.next, 0)) (sl + n) none 1, (h.del i).new (.cells (ofI k (l.take sl ++ new)) .sh)) := appUI k l new .sh rfl h i sl n hl
/-- to none -/
theorem app0 (h : H) (n e : Nat) (k : IntKind) (l : List Nat) (c : Option Nat) (hs : n + 1 ≤ 35184372088832) : appendC h 1 1 (.slice none 0 c e) (some (n + 1, ofI k l)) = some (.slice (some (h.next, 0)) (n + 1) none 1, h.new (.cells (ofI k l) .rw)) := by
  unfold appendC
  simp only
  have r : (roomy (0 + (n + 1)) 1 && (Nat.beq e 1 || (none : Option (Nat × Nat)).isNone) && (ofI k l).all plainV) = true := by
    rw [plain_ofI]; simp [roomy]; omega
  rw [r]
  simp only [_root_.cond_true, Nat.zero_add]
/-- nothing is appended -/
theorem appN (h : H) (b : Option (Nat × Nat)) (n : Nat) (c : Option Nat) (e : Nat) (l : List V) : appendC h 1 1 (.slice b n c e) (some (0, l)) = some (.slice b n c e, h) := by
  unfold appendC; rfl
/-! arrays are the same -/
theorem eqAll_I (k : IntKind) : ∀ (a b : List Nat) (L : List Lf), L = List.replicate a.length .i → a.length = b.length → eqAll L (ofI k a) (ofI k b) = some (decide (a = b)) := by
  intro a
  induction a with
  | nil => intro b L hL hl; cases b with | nil => subst hL; rfl | cons => cases hl
  | cons x r ih =>
    intro b L hL hl
    cases b with
    | nil => cases hl
    | cons y s =>
      subst hL
      have := ih s _ rfl (by simpa using hl)
      show (match eqLf .i (.int k (x : Int)) (.int k (y : Int)), eqAll (List.replicate r.length .i) (ofI k r) (ofI k s) with | some p, some q => some (p && q) | _, _ => none) = _
      rw [this]
      have : eqLf .i (.int k (x : Int)) (.int k (y : Int)) = some (decide (x = y)) := by
        show (bif kindEq k k then some (ieq x y) else none) = _
        rw [kindEq_self, ieq_dec]; simp only [_root_.cond_true, Int.natCast_inj]
      rw [this]
      by_cases h1 : x = y <;> by_cases h2 : r = s <;> simp [h1, h2]
def L32 : List Lf := [.i, .i, .i, .i, .i, .i, .i, .i, .i, .i, .i, .i, .i, .i, .i, .i, .i, .i, .i, .i, .i, .i, .i, .i, .i, .i, .i, .i, .i, .i, .i, .i]
theorem eq32 (h : H) (a b : List Nat) (ha : a.length = 32) (hb : b.length = 32) : binV .eql (.flat [.i, .i, .i, .i, .i, .i, .i, .i, .i, .i, .i, .i, .i, .i, .i, .i, .i, .i, .i, .i, .i, .i, .i, .i, .i, .i, .i, .i, .i, .i, .i, .i]) h (.agg (ofI .u8 a)) (.agg (ofI .u8 b)) = some (.bool (decide (a = b))) := by
  have := eqAll_I .u8 a b L32 (by rw [ha]; rfl) (by omega)
  show (match eqAll L32 (ofI .u8 a) (ofI .u8 b) with | some b => some (V.bool b) | none => none) = _
  rw [this]
theorem neq32 (h : H) (a b : List Nat) (ha : a.length = 32) (hb : b.length = 32) : binV .neq (.flat [.i, .i, .i, .i, .i, .i, .i, .i, .i, .i, .i, .i, .i, .i, .i, .i, .i, .i, .i, .i, .i, .i, .i, .i, .i, .i, .i, .i, .i, .i, .i, .i]) h (.agg (ofI .u8 a)) (.agg (ofI .u8 b)) = some (.bool (!decide (a = b))) := by
  have := eqAll_I .u8 a b L32 (by rw [ha]; rfl) (by omega)
  show (match eqAll L32 (ofI .u8 a) (ofI .u8 b) with | some b => some (V.bool !b) | none => none) = _
  rw [this]
theorem slcB_nn (vs : List V) (m : Md) (n i off : Nat) (h : H) (hv : off + n ≤ vs.length) : slcB (some (.cells vs m)) n 1 i off none none h = some (.slice (some (i, off)) n (some n) 1, h) := by
  rw [x_slcB vs m n 1 i off 0 n none none h (by omega) rfl rfl]; simp
theorem slcB_hi (vs : List V) (m : Md) (n i off b : Nat) (k : IntKind) (h : H) (hv : off + n ≤ vs.length) (hb : b ≤ n) : slcB (some (.cells vs m)) n 1 i off none (some (.int k (b : Int))) h = some (.slice (some (i, off)) b (some n) 1, h) := by
  rw [x_slcB vs m n 1 i off 0 b none _ h (by omega) (x_bnd _ _ _ _ hb) rfl]; simp
theorem slcB_lo (vs : List V) (m : Md) (n i off a : Nat) (k : IntKind) (h : H) (hv : off + n ≤ vs.length) (hb : a ≤ n) : slcB (some (.cells vs m)) n 1 i off (some (.int k (a : Int))) none h = some (.slice (some (i, off + a)) (n - a) (some (n - a)) 1, h) := by
  rw [x_slcB vs m n 1 i off a n _ none h (by omega) rfl (x_bnd _ _ _ _ hb)]; simp
theorem slcB_lh (vs : List V) (m : Md) (n i off a b : Nat) (k k' : IntKind) (h : H) (hv : off + n ≤ vs.length) (hb : b ≤ n) (ha : a ≤ b) : slcB (some (.cells vs m)) n 1 i off (some (.int k (a : Int))) (some (.int k' (b : Int))) h = some (.slice (some (i, off + a)) (b - a) (some (n - a)) 1, h) := by
  rw [x_slcB vs m n 1 i off a b _ _ h (by omega) (x_bnd _ _ _ _ hb) (x_bnd _ _ _ _ ha)]; simp
/-! slices of slices -/
theorem slcV_nn (n : Nat) (c : Option Nat) (a : Option (Nat × Nat)) (e : Nat) (he : e = 1 ∨ a = none) : slcV 1 none none none (.slice a n c e) = some (.slice a n c 1) := by
  have : (Nat.beq e 1 || a.isNone) = true := by rcases he with rfl | rfl <;> simp
  unfold slcV
  simp only [this, _root_.cond_true, x_bnd0]
  cases a <;> cases c <;> simp [upA, subC]
theorem slcV_hi (n b : Nat) (c : Option Nat) (i off : Nat) (k : IntKind) (hb : b ≤ n) (hc : ∀ x, c = some x → n ≤ x) : slcV 1 none (some (.int k (b : Int))) none (.slice (some (i, off)) n c 1) = some (.slice (some (i, off)) b c 1) := by
  have : b ≤ c.getD n := by cases c with | none => exact hb | some x => exact Nat.le_trans hb (hc x rfl)
  unfold slcV
  simp only [Nat.beq_refl, Bool.true_or, _root_.cond_true, x_bnd _ _ _ _ this, x_bnd0]
  cases c <;> simp [upA, subC]
theorem slcV_hiU (n b : Nat) (i off : Nat) (k : IntKind) (hb : b ≤ n) : slcV 1 none (some (.int k (b : Int))) none (.slice (some (i, off)) n none 1) = some (.slice (some (i, off)) b none 1) := slcV_hi n b none i off k hb (fun _ h => by cases h)
theorem slcV_hiC (n b x : Nat) (i off : Nat) (k : IntKind) (hb : b ≤ n) (hc : n ≤ x) : slcV 1 none (some (.int k (b : Int))) none (.slice (some (i, off)) n (some x) 1) = some (.slice (some (i, off)) b (some x) 1) := slcV_hi n b (some x) i off k hb (fun _ h => by cases h; exact hc)
theorem slcV_lo (n m : Nat) (c : Option Nat) (i off : Nat) (k : IntKind) (hm : m ≤ n) : slcV 1 (some (.int k (m : Int))) none none (.slice (some (i, off)) n c 1) = some (.slice (some (i, off + m)) (n - m) (subC c m) 1) := slcS_lo _ _ _ _ _ _ hm rfl
theorem slcV_mx (n b x c : Nat) (cc : Option Nat) (i off : Nat) (k : IntKind) (hb : b ≤ x) (hx : x ≤ cc.getD n) : slcV 1 none (some (.int k (b : Int))) (some (.int k (x : Int))) (.slice (some (i, off)) n cc 1) = some (.slice (some (i, off)) b (some x) 1) := by
  unfold slcV
  simp only [Nat.beq_refl, Bool.true_or, _root_.cond_true, x_bnd _ _ _ _ hx, x_bnd _ _ _ _ hb, x_bnd0]
  simp [upA]
theorem slcV_loL (n m : Nat) (c : Option Nat) (i off : Nat) (k : IntKind) (hm : m ≤ n) : slcV 1 (some (.int k (no_index (OfNat.ofNat m)))) none none (.slice (some (i, off)) n c 1) = some (.slice (some (i, off + m)) (n - m) (subC c m) 1) := slcV_lo n m c i off k hm
theorem slcV_hiUL (n b : Nat) (i off : Nat) (k : IntKind) (hb : b ≤ n) : slcV 1 none (some (.int k (no_index (OfNat.ofNat b)))) none (.slice (some (i, off)) n none 1) = some (.slice (some (i, off)) b none 1) := slcV_hiU n b i off k hb
theorem slcV_hiCL (n b x : Nat) (i off : Nat) (k : IntKind) (hb : b ≤ n) (hc : n ≤ x) : slcV 1 none (some (.int k (no_index (OfNat.ofNat b)))) none (.slice (some (i, off)) n (some x) 1) = some (.slice (some (i, off)) b (some x) 1) := slcV_hiC n b x i off k hb hc
theorem slcV_mxL (n b x : Nat) (cc : Option Nat) (i off : Nat) (k k' : IntKind) (hb : b ≤ x) (hx : x ≤ cc.getD n) : slcV 1 none (some (.int k (no_index (OfNat.ofNat b)))) (some (.int k' (no_index (OfNat.ofNat x)))) (.slice (some (i, off)) n cc 1) = some (.slice (some (i, off)) b (some x) 1) := by
  show slcV 1 none (some (.int k (b : Int))) (some (.int k' (x : Int))) (.slice (some (i, off)) n cc 1) = _
  unfold slcV
  simp only [Nat.beq_refl, Bool.true_or, _root_.cond_true, x_bnd _ _ _ _ hx, x_bnd _ _ _ _ hb, x_bnd0]
  simp [upA]
theorem slcB_hiL (vs : List V) (m : Md) (n i off b : Nat) (k : IntKind) (h : H) (hv : off + n ≤ vs.length) (hb : b ≤ n) : slcB (some (.cells vs m)) n 1 i off none (some (.int k (no_index (OfNat.ofNat b)))) h = some (.slice (some (i, off)) b (some n) 1, h) := slcB_hi vs m n i off b k h hv hb
theorem slcB_loL (vs : List V) (m : Md) (n i off a : Nat) (k : IntKind) (h : H) (hv : off + n ≤ vs.length) (hb : a ≤ n) : slcB (some (.cells vs m)) n 1 i off (some (.int k (no_index (OfNat.ofNat a)))) none h = some (.slice (some (i, off + a)) (n - a) (some (n - a)) 1, h) := slcB_lo vs m n i off a k h hv hb
theorem subC_some (c l : Nat) : subC (some c) l = some (c - l) := rfl
theorem subC_none (l : Nat) : subC none l = none := rfl
def dbE (r : Option (List V)) (k : List V → Option Ds) : Option Ds := match r with
  | some l => k l
  | none => none
@[congr] theorem dbE_congr {r r' : Option (List V)} {k : List V → Option Ds} (h : r = r') : dbE r k = dbE r' k := by rw [h]
theorem s_dbE (l : List V) (k : List V → Option Ds) : dbE (some l) k = k l := _root_.id rfl
theorem s_dBuildS {Q : Orc} {base : Nat} (d : Option Nat) (z : List V) (len esz : Nat) (ps : List (Nat × Nat × O)) (s : Nat) (r : List (Op × Cl)) (T : Tr V) (hb : H) (p : List (Nat × Blk)) (hi : List H) (c : List (A × Tr V × List (Nat × List Nat) × V)) :
    evDxl Q base ((⟨d, .buildS z len esz ps, none⟩, .Al s) :: r) ⟨T, hb, p, hi, c⟩ = dbE (fillV z (evP T ps)) fun l => evDxl Q base r ⟨putT T d (.slice (some (base + s, 0)) len (some len) esz), hb, (s, .cells l .rw) :: p, hi, c⟩ := by
  simp only [evDxl, evDx1, evD1, wanted]
  rw [x_buildS]
  cases fillV z (evP T ps) with
  | none => rfl
  | some l =>
    show (match (match ((⟨.e, base + s⟩ : H).new (.cells l .rw)).get (base + s) with | some b => some (Ds.mk (putT T d (.slice (some (base + s, 0)) len (some len) esz)) hb ((s, b) :: p) hi c) | none => none) with | some d => evDxl Q base r d | none => none) = _
    rw [h_new_same' _ _ rfl]
    rfl
theorem w_c0 (v x : V) (r : List V) : writeN (v :: r) 0 [x] = x :: r := rfl
/-! strings of bytes -/
noncomputable def nsE (b : Option Blk) (off len : Nat) : Option V := match b with
  | some (.cells vs _) => match readN vs off len with
    | some l => strO (bytesOf l)
    | none => none
  | _ => none
@[congr] theorem nsE_congr {off len : Nat} {b b' : Option Blk} (e : b = b') : nsE b off len = nsE b' off len := by rw [e]
theorem ns_b2s (Q : Orc) (T : Tr V) (h : H) (x : O) : Eng.step (.b2s x) Q T h = same h (b2sV h (evO T x)) := _root_.id rfl
theorem nx_bs0 (h : H) (c : Option Nat) (e n : Nat) : b2sV h (.slice none n c e) = some (.str []) := _root_.id rfl
theorem nx_bs00 (h : H) (i off : Nat) (c : Option Nat) (e : Nat) : b2sV h (.slice (some (i, off)) 0 c e) = some (.str []) := _root_.id rfl
theorem nx_bs1 (h : H) (i off n : Nat) (c : Option Nat) (e : Nat) : b2sV h (.slice (some (i, off)) (n + 1) c e) = nsE (h.get i) off (n + 1) := by
  unfold b2sV nsE cellsAt
  simp only
  cases h.get i with
  | none => rfl
  | some b => cases b <;> rfl
theorem bytesOf_I : ∀ (l : List Nat), (∀ x ∈ l, x < 256) → bytesOf (ofI .u8 l) = some l := by
  intro l
  induction l with
  | nil => intro _; rfl
  | cons a r ih =>
    intro h
    show (match bytesOf (ofI .u8 r) with | some l => some (a % 256 :: l) | none => none) = _
    rw [ih (fun x hx => h x (List.mem_cons_of_mem _ hx)), Nat.mod_eq_of_lt (h a (List.mem_cons_self ..))]
def byt (l : List Nat) : Bool := l.all (fun x => decide (x < 256))
theorem byt_iff {l : List Nat} : byt l = true ↔ ∀ x ∈ l, x < 256 := by simp [byt]
theorem nsI (l : List Nat) (hb : byt l = true) (m : Md) (off n : Nat) (hn : off + n ≤ l.length) : nsE (some (.cells (ofI .u8 l) m)) off n = some (.str ((l.drop off).take n)) := by
  have hb' : ∀ x ∈ (l.drop off).take n, x < 256 := fun x hx => byt_iff.1 hb x (List.mem_of_mem_drop (List.mem_of_mem_take hx))
  unfold nsE
  simp only [readN_of _ _ _ (show off + n ≤ (ofI .u8 l).length by rw [ofI_len]; exact hn), ofI_drop, ofI_take, bytesOf_I _ hb']
  rfl
theorem shaV_byt (l : List Nat) : byt (shaV l) = true := by
  have : ∀ st i, byt (outN st i) = true := by
    intro st i
    induction i with
    | zero => rfl
    | succ i ih =>
      rw [byt_iff] at ih ⊢
      intro x hx
      unfold outN at hx
      rcases List.mem_append.1 hx with h | h
      · rcases List.mem_append.1 h with h | h
        · exact ih x (List.mem_of_mem_take h)
        · simp only [be4, List.mem_cons, List.not_mem_nil, or_false] at h; omega
      · exact ih x (List.mem_of_mem_drop h)
  exact this _ _
theorem strEq_dec : ∀ (a b : List Nat), strEq a b = decide (a = b) := by
  intro a
  induction a with
  | nil => intro b; cases b <;> rfl
  | cons x r ih =>
    intro b
    cases b with
    | nil => rfl
    | cons y s =>
      show (bif Nat.beq x y then strEq r s else false) = _
      by_cases h : x = y
      · subst h
        rw [show Nat.beq x x = true from Nat.beq_refl x, ih s]
        simp only [_root_.cond_true, List.cons.injEq, true_and]
      · have hb : Nat.beq x y = false := by
          cases hb : Nat.beq x y with
          | false => rfl
          | true => exact absurd (Nat.eq_of_beq_eq_true hb) h
        rw [hb]
        simp only [_root_.cond_false, List.cons.injEq, h, false_and, decide_false]
theorem vbeq_str (a : List Nat) : V.beq (.str a) (.str a) = true := by unfold V.beq; rw [strEq_dec]; simp
theorem b_seq (e : EqK) (h : H) (a b : List Nat) : binV .eql e h (.str a) (.str b) = some (.bool (decide (a = b))) := by
  rw [← strEq_dec]; rfl
theorem b_sneq (e : EqK) (h : H) (a b : List Nat) : binV .neq e h (.str a) (.str b) = some (.bool (!decide (a = b))) := by
  rw [← strEq_dec]; rfl
/-! sha.Of, known -/
noncomputable def ofE (r : Option (List Nat)) (h : H) : Option (V × H) := match r with
  | some l => match ofS l with
    | some v => some (v, h)
    | none => none
  | none => none
theorem ofE_some (l : List Nat) (hl : l.length ≤ 100000) (h : H) : ofE (some l) h = some (.agg (ofI .u8 (shaV l)), h) := by
  unfold ofE ofS; simp only [hl, decide_true, if_true]
/-- the known calls have sha.Of -/
def HasOf (X : Orc) : Prop := ∀ x h l v, rdB h x = some l → ofS l = some v → X (.fn k_sha_Of) [x] h = some (v, h)
theorem x_of0 (hx : HasOf X) (N : Nat) (a : Option (Nat × Nat)) (c : Option Nat) (e : Nat) (h : H) : callX E X (N + 1) (.fn k_sha_Of) [.slice a 0 c e] h = some (.agg (ofI .u8 (shaV [])), h) := x_known (hx _ _ [] _ rfl rfl)
theorem x_of1 (hx : HasOf X) (N i off n : Nat) (c : Option Nat) (l : List Nat) (h : H) (hr : rdC (n + 1) off (h.get i) = some l) (hl : l.length ≤ 100000) : callX E X (N + 1) (.fn k_sha_Of) [.slice (some (i, off)) (n + 1) c 1] h = some (.agg (ofI .u8 (shaV l)), h) := x_known (hx _ _ l _ hr (by unfold ofS; rw [decide_eq_true hl]; rfl))
noncomputable def ofQ (r : Option (List Nat)) (fb : Option (V × H)) (h : H) : Option (V × H) := match r with
  | some l => match ofS l with
    | some v => some (v, h)
    | none => fb
  | none => fb
@[congr] theorem ofQ_congr {r r' : Option (List Nat)} {fb : Option (V × H)} {h : H} (e : r = r') : ofQ r fb h = ofQ r' fb h := by rw [e]
theorem x_ofQ (hx : HasOf X) (N i off n : Nat) (c : Option Nat) (h : H) : callX E X (N + 1) (.fn k_sha_Of) [.slice (some (i, off)) (n + 1) c 1] h = ofQ (rdC (n + 1) off (h.get i)) (callX E X (N + 1) (.fn k_sha_Of) [.slice (some (i, off)) (n + 1) c 1] h) h := by
  unfold ofQ
  cases hr : rdC (n + 1) off (h.get i) with
  | none => rfl
  | some l =>
    simp only
    cases hv : ofS l with
    | none => rfl
    | some v => exact x_known (hx _ _ l _ hr hv)
theorem ofQ_some (l : List Nat) (hl : l.length ≤ 100000) (fb : Option (V × H)) (h : H) : ofQ (some l) fb h = some (.agg (ofI .u8 (shaV l)), h) := by
  unfold ofQ ofS; simp only [hl, decide_true, if_true]
end Go.Eng
namespace Go.Eng
open Go
variable {E : Nat → Option Fn} {X : Orc}
set_option linter.unusedSimpArgs false
set_option linter.unusedVariables false
theorem vbeq_I (k : IntKind) : ∀ l : List Nat, V.beq (.agg (ofI k l)) (.agg (ofI k l)) = true := by
  have : ∀ l : List Nat, V.beqs (ofI k l) (ofI k l) = true := by
    intro l
    induction l with
    | nil => rfl
    | cons a r ih =>
      show (V.beq (.int k (a : Int)) (.int k (a : Int)) && V.beqs (ofI k r) (ofI k r)) = true
      rw [vbeq_int, ih]; rfl
  intro l
  show V.beqs (ofI k l) (ofI k l) = true
  exact this l
theorem x_s2a (Q : Orc) (T : Tr V) (h : H) (n : Nat) (x : O) : Eng.step (.s2a n x) Q T h = same h (s2aV n (evO T x)) := _root_.id rfl
theorem s2a_of (n len : Nat) (p : Nat × Nat) (c : Option Nat) (e : Nat) (h : n + 1 ≤ len) : s2aV (n + 1) (.slice (some p) len c e) = some (.ptr (some p)) := by
  show (bif Nat.ble (n + 1) len then some (V.ptr (some p)) else none) = _
  rw [cond_ble, if_pos h]
theorem vbeq_slice (a : Option (Nat × Nat)) (l : Nat) (c : Option Nat) (e : Nat) : V.beq (.slice a l c e) (.slice a l c e) = true := by unfold V.beq; simp
theorem beqs_I (k : IntKind) : ∀ l : List Nat, V.beqs (ofI k l) (ofI k l) = true := by
  intro l
  induction l with
  | nil => rfl
  | cons a r ih =>
    show (V.beq (.int k (a : Int)) (.int k (a : Int)) && V.beqs (ofI k r) (ofI k r)) = true
    rw [vbeq_int, ih]; rfl
theorem beqC_self (c : Option Nat) : beqC c c = true := by cases c <;> simp [beqC]
theorem hit_rd {h : H} {i off n : Nat} {l : List Nat} (c : Option Nat) (hr : rdC (n + 1) off (h.get i) = some l) : hitP h (.s (ofI .u8 l) (n + 1) 1 c) (.slice (some (i, off)) (n + 1) c 1) = true ∧ l.length = n + 1 := by
  unfold rdC at hr
  split at hr
  · rename_i vs m hg
    split at hr
    · rename_i cs hrd
      have hcs := unB_some hr
      subst hcs
      have hl : l.length = n + 1 := by
        have := takeN_some hrd
        have h5 := congrArg List.length this.1
        rw [ofB_len, List.length_take] at h5
        have := this.2
        omega
      refine ⟨?_, hl⟩
      rw [← ofI_u8] at hrd
      simp only [hitP, Nat.beq_refl, beqC_self, cellsEq, Nat.mul_one, hg, hrd, beqs_I, Bool.and_self]
    · cases hr
  · cases hr
theorem okP_I (l : List Nat) (n : Nat) (c : Option Nat) (h : l.length = n + 1) : okP (.s (ofI .u8 l) (n + 1) 1 c) = true := by
  simp only [okP, datas_ofI, ofI_len, Nat.mul_one, h, Nat.beq_refl, Bool.true_and, Bool.and_true]
  simp
theorem hit_agg (h : H) (k : IntKind) (l : List Nat) : hitP h (.d (.agg (ofI k l))) (.agg (ofI k l)) = true := vbeq_I k l
theorem okP_agg (k : IntKind) (l : List Nat) : okP (.d (.agg (ofI k l))) = true := by simp only [okP, dataV, datas_ofI]
theorem unB_I {cs : List V} {l : List Nat} (h : unB cs = some l) : cs = ofI .u8 l := by rw [unB_some h, ofI_u8]
def is32 (l : List Nat) : Bool := Nat.beq l.length 32
theorem is32_iff {l : List Nat} : is32 l = true ↔ l.length = 32 := by unfold is32; simp
noncomputable def ofX1 : Orc := bytesX k_sha_Of ofS
theorem ofX1_has : HasOf ofX1 := fun x h l v e q => bytesX_yes h e q
def aliveS : List V → Option V
  | [] => some (.bool true)
  | _ => none
theorem aliveX_ok {P : Program} {g : Gn} {k N : Nat} {Y : Orc} (hE : Link P g E) (hY : QOk P g Y) (h : isTrue (callX E Y N (.fn k) [] H.empty) = true) : QOk P g (pureX k aliveS) := by
  refine pureX_ok (callX_ok hE hY N) ?_
  intro args v hs
  unfold aliveS at hs
  split at hs
  · cases hs
    obtain ⟨h1, e⟩ := isTrue_some h
    exact ⟨rfl, rfl, h1, e⟩
  · cases hs
theorem ofX1_eq : bytesX k_sha_Of ofF = ofX1 := by rw [ofF_eq]; rfl
theorem is32_of {l : List Nat} (h : l.length = 32) : is32 l = true := is32_iff.2 h
end Go.Eng
