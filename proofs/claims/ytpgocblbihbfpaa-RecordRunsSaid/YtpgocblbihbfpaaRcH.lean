/- What functions of the program come to: own work. -/
import Derived.Test.YtpgocblbihbfpaaRcE
namespace Go.Eng
open Go
set_option linter.unusedSimpArgs false
set_option linter.unusedVariables false
/-! a run of turned bits is found: a step with no bit loses nothing -/
theorem stp_lin (r r' b b' : Nat) (hb : b < 2) (hb' : b' < 2) : stp (r ^^^ r') (b ^^^ b') = stp r b ^^^ stp r' b' := by
  have hx : (b ^^^ b') < 2 := Nat.xor_lt_two_pow (n := 1) hb hb'
  have m2 : ∀ x y : Nat, (x ^^^ y) % 2 = (x % 2 + y % 2) % 2 := by
    intro x y
    have e := Nat.testBit_xor x y 0
    rw [Nat.testBit_zero, Nat.testBit_zero, Nat.testBit_zero] at e
    rcases Nat.mod_two_eq_zero_or_one x with h1 | h1 <;> rcases Nat.mod_two_eq_zero_or_one y with h2 | h2 <;> rcases Nat.mod_two_eq_zero_or_one (x ^^^ y) with h3 | h3 <;> rw [h1, h2, h3] at e <;> first | omega | (exact absurd e (by decide))
  have c : ∀ x y : Nat, x < 2 → y < 2 → cP ((x + y) % 2) = cP x ^^^ cP y := by
    intro x y hx hy
    have : x = 0 ∨ x = 1 := by omega
    have : y = 0 ∨ y = 1 := by omega
    rcases ‹x = 0 ∨ x = 1› with rfl | rfl <;> rcases ‹y = 0 ∨ y = 1› with rfl | rfl <;> decide
  unfold stp
  have e1 : ((r ^^^ r') + (b ^^^ b')) % 2 = ((r + b) % 2 + (r' + b') % 2) % 2 := by
    have h1 := m2 r r'
    have h2 := m2 b b'
    omega
  rw [xdiv2, e1, c _ _ (by omega) (by omega), xor4]
theorem stp_inj0 (r : Nat) (hr : r < 4294967296) (h : stp r 0 = 0) : r = 0 := by
  unfold stp at h
  rw [Nat.add_zero] at h
  have e : r / 2 = cP (r % 2) := by
    have := congrArg (fun z => z ^^^ cP (r % 2)) h
    simp only [Nat.xor_assoc, Nat.xor_self, Nat.xor_zero, Nat.zero_xor] at this
    exact this
  unfold cP at e
  split at e
  · omega
  · omega
/-- bits, one after the other -/
def bsF (r : Nat) (l : List Nat) : Nat := l.foldl stp r
theorem bsF_lt : ∀ (l : List Nat) (r : Nat), r < 4294967296 → bsF r l < 4294967296 := by
  intro l
  induction l with
  | nil => intro r h; exact h
  | cons a s ih => intro r h; exact ih _ (stp_lt _ _ h)
theorem bsF_zeros0 (n : Nat) : bsF 0 (List.replicate n 0) = 0 := by
  induction n with
  | zero => rfl
  | succ n ih => rw [List.replicate_succ]; show bsF (stp 0 0) _ = 0; rw [show stp 0 0 = 0 from rfl]; exact ih
theorem bsF_zeros (n : Nat) : ∀ r, r < 4294967296 → bsF r (List.replicate n 0) = 0 → r = 0 := by
  induction n with
  | zero => intro r _ h; exact h
  | succ n ih =>
    intro r hr h
    rw [List.replicate_succ] at h
    exact stp_inj0 r hr (ih _ (stp_lt _ _ hr) h)
theorem bsF_app (r : Nat) (a b : List Nat) : bsF r (a ++ b) = bsF (bsF r a) b := List.foldl_append
/-- the lowest k bits, the lowest first -/
def bits : Nat → Nat → List Nat
  | 0, _ => []
  | k + 1, t => t % 2 :: bits k (t / 2)
theorem bits_len : ∀ k t, (bits k t).length = k := by
  intro k
  induction k with
  | zero => intro t; rfl
  | succ k ih => intro t; show (bits k (t / 2)).length + 1 = k + 1; rw [ih]
theorem stp_feed (r t : Nat) : stp (r ^^^ t) 0 = stp r (t % 2) ^^^ (t / 2) := by
  have m2 : (r ^^^ t) % 2 = (r + t % 2) % 2 := by
    have e := Nat.testBit_xor r t 0
    rw [Nat.testBit_zero, Nat.testBit_zero, Nat.testBit_zero] at e
    rcases Nat.mod_two_eq_zero_or_one r with h1 | h1 <;> rcases Nat.mod_two_eq_zero_or_one t with h2 | h2 <;> rcases Nat.mod_two_eq_zero_or_one (r ^^^ t) with h3 | h3 <;> rw [h1, h2, h3] at e <;> first | omega | (exact absurd e (by decide))
  unfold stp
  rw [Nat.add_zero, xdiv2, m2, Nat.xor_assoc, Nat.xor_comm (t / 2), ← Nat.xor_assoc]
theorem bsF_feed : ∀ k r t, t < 2 ^ k → bsF (r ^^^ t) (List.replicate k 0) = bsF r (bits k t) := by
  intro k
  induction k with
  | zero => intro r t h; have : t = 0 := by rw [Nat.pow_zero] at h; omega
            rw [this, Nat.xor_zero]; rfl
  | succ k ih =>
    intro r t h
    rw [List.replicate_succ]
    show bsF (stp (r ^^^ t) 0) (List.replicate k 0) = bsF (stp r (t % 2)) (bits k (t / 2))
    rw [stp_feed, ih _ _ (by rw [Nat.pow_succ] at h; omega)]
/-- a run of 32 bits, one of them set, is not lost -/
theorem run_ne (f g t : Nat) (ht : t < 4294967296) (h : bsF 0 (List.replicate f 0 ++ (bits 32 t ++ List.replicate g 0)) = 0) : t = 0 := by
  rw [bsF_app, bsF_zeros0, bsF_app, ← bsF_feed 32 0 t ht, Nat.zero_xor] at h
  have h1 := bsF_zeros g _ (bsF_lt _ _ ht) h
  exact bsF_zeros 32 t ht h1
theorem run_zero (f g : Nat) : bsF 0 (List.replicate f 0 ++ (bits 32 0 ++ List.replicate g 0)) = 0 := by
  rw [bsF_app, bsF_zeros0, bsF_app, ← bsF_feed 32 0 0 (by decide), Nat.zero_xor, bsF_zeros0, bsF_zeros0]
theorem stepB_bits (r y : Nat) (hy : y < 256) : stepB r y = bsF r (bits 8 y) := by
  rw [stepB_G8 r y hy]
  show stp (stp (stp (stp (stp (stp (stp (stp r (y / 1 % 2)) (y / 2 % 2)) (y / 4 % 2)) (y / 8 % 2)) (y / 16 % 2)) (y / 32 % 2)) (y / 64 % 2)) (y / 128 % 2) = stp (stp (stp (stp (stp (stp (stp (stp r (y % 2)) (y / 2 % 2)) (y / 2 / 2 % 2)) (y / 2 / 2 / 2 % 2)) (y / 2 / 2 / 2 / 2 % 2)) (y / 2 / 2 / 2 / 2 / 2 % 2)) (y / 2 / 2 / 2 / 2 / 2 / 2 % 2)) (y / 2 / 2 / 2 / 2 / 2 / 2 / 2 % 2)
  rw [Nat.div_one]
  simp only [Nat.div_div_eq_div_mul, Nat.reduceMul]
def allBits (l : List Nat) : List Nat := l.flatMap (bits 8)
theorem foldB_bits : ∀ (l : List Nat) (r : Nat), byt l = true → foldB r l = bsF r (allBits l) := by
  intro l
  induction l with
  | nil => intro r _; rfl
  | cons a s ih =>
    intro r h
    have ha := byt_iff.1 h a (List.mem_cons_self ..)
    have hs : byt s = true := byt_iff.2 (fun x hx => byt_iff.1 h x (List.mem_cons_of_mem _ hx))
    show foldB (stepB r a) s = bsF r (bits 8 a ++ allBits s)
    rw [bsF_app, stepB_bits r a ha, ih _ hs]
/-- bits laid over one another -/
theorem bsF_xor : ∀ (a b : List Nat) (r s : Nat), a.length = b.length → (∀ x ∈ a, x < 2) → (∀ x ∈ b, x < 2) → bsF (r ^^^ s) (List.zipWith (· ^^^ ·) a b) = bsF r a ^^^ bsF s b := by
  intro a
  induction a with
  | nil => intro b r s h _ _; cases b with
    | nil => rfl
    | cons => cases h
  | cons x a ih =>
    intro b r s h ha hb
    cases b with
    | nil => cases h
    | cons y b =>
      show bsF (stp (r ^^^ s) (x ^^^ y)) (List.zipWith (· ^^^ ·) a b) = _
      rw [stp_lin _ _ _ _ (ha x (List.mem_cons_self ..)) (hb y (List.mem_cons_self ..)), ih b _ _ (by simpa using h) (fun z hz => ha z (List.mem_cons_of_mem _ hz)) (fun z hz => hb z (List.mem_cons_of_mem _ hz))]
      rfl
def bareV (l : List Nat) (n : Nat) : Bool := decide (onV 0 (l.take n) = numV (l.drop n))
theorem bits_numV : ∀ d : List Nat, byt d = true → bits (8 * d.length) (numV d) = allBits d := by
  intro d
  induction d with
  | nil => intro _; rfl
  | cons a s ih =>
    intro h
    have ha := byt_iff.1 h a (List.mem_cons_self ..)
    have hs : byt s = true := byt_iff.2 (fun x hx => byt_iff.1 h x (List.mem_cons_of_mem _ hx))
    show bits (8 * (s.length + 1)) (numV s * 256 + a) = bits 8 a ++ allBits s
    rw [← ih hs]
    generalize numV s = n
    rw [show 8 * (s.length + 1) = 8 * s.length + 8 by omega]
    have : ∀ k, bits (k + 8) (n * 256 + a) = bits 8 a ++ bits k n := by
      intro k
      show [(n * 256 + a) % 2, (n * 256 + a) / 2 % 2, (n * 256 + a) / 2 / 2 % 2, (n * 256 + a) / 2 / 2 / 2 % 2, (n * 256 + a) / 2 / 2 / 2 / 2 % 2, (n * 256 + a) / 2 / 2 / 2 / 2 / 2 % 2, (n * 256 + a) / 2 / 2 / 2 / 2 / 2 / 2 % 2, (n * 256 + a) / 2 / 2 / 2 / 2 / 2 / 2 / 2 % 2] ++ bits k ((n * 256 + a) / 2 / 2 / 2 / 2 / 2 / 2 / 2 / 2) = [a % 2, a / 2 % 2, a / 2 / 2 % 2, a / 2 / 2 / 2 % 2, a / 2 / 2 / 2 / 2 % 2, a / 2 / 2 / 2 / 2 / 2 % 2, a / 2 / 2 / 2 / 2 / 2 / 2 % 2, a / 2 / 2 / 2 / 2 / 2 / 2 / 2 % 2] ++ bits k n
      rw [show (n * 256 + a) / 2 / 2 / 2 / 2 / 2 / 2 / 2 / 2 = n by omega]
      congr 1
      simp only [List.cons.injEq, and_true]
      omega
    exact this _
theorem bsF_lin0 (n r s : Nat) : bsF (r ^^^ s) (List.replicate n 0) = bsF r (List.replicate n 0) ^^^ bsF s (List.replicate n 0) := by
  have h := bsF_xor (List.replicate n 0) (List.replicate n 0) r s rfl (fun x hx => by rw [List.eq_of_mem_replicate hx]; decide) (fun x hx => by rw [List.eq_of_mem_replicate hx]; decide)
  rw [← h]
  congr 1
  rw [List.zipWith_replicate]; simp
/-- what whole marked bytes come to -/
def kV : Nat := bsF 4294967295 (List.replicate 32 0)
theorem bare_iff (l : List Nat) (bl : byt l = true) (n : Nat) (hn : l.length = n + 4) : bareV l n = true ↔ bsF (nt 0) (allBits l) = kV := by
  have bt : byt (l.take n) = true := byt_iff.2 (fun x hx => byt_iff.1 bl x (List.mem_of_mem_take hx))
  have bd : byt (l.drop n) = true := byt_iff.2 (fun x hx => byt_iff.1 bl x (List.mem_of_mem_drop hx))
  have ld : (l.drop n).length = 4 := by rw [List.length_drop]; omega
  have zl : numV (l.drop n) < 2 ^ 32 := by have := numV_lt _ bd; rw [ld] at this; exact this
  rw [← foldB_bits l (nt 0) bl]
  have e1 : foldB (nt 0) l = foldB (foldB (nt 0) (l.take n)) (l.drop n) := by rw [← foldB_app, List.take_append_drop]
  have rl := foldB_lt (l.take n) (nt 0) (nt_lt 0)
  rw [e1, foldB_bits _ _ bd, ← bits_numV _ bd, ld, ← bsF_feed 32 _ _ zl]
  unfold bareV onV kV
  rw [decide_eq_true_eq, nt_xor _ rl]
  generalize foldB (nt 0) (l.take n) = R at *
  generalize numV (l.drop n) = Z at *
  constructor
  · intro h
    rw [← h, ← Nat.xor_assoc, Nat.xor_self, Nat.zero_xor]
  · intro h
    have h2 := bsF_lin0 32 (R ^^^ Z) 4294967295
    rw [h, Nat.xor_self] at h2
    have h3 := bsF_zeros 32 _ (Nat.xor_lt_two_pow (n := 32) (Nat.xor_lt_two_pow (n := 32) rl zl) (by decide)) h2
    have h4 := congrArg (fun z => z ^^^ Z) h3
    simp only [Nat.zero_xor] at h4
    rw [← h4, Nat.xor_assoc, Nat.xor_assoc, Nat.xor_comm 4294967295 Z, ← Nat.xor_assoc Z, Nat.xor_self, Nat.zero_xor]
/-- a run that is laid over whole marked bytes -/
theorem run_bare (l l' : List Nat) (bl : byt l = true) (bl' : byt l' = true) (n : Nat) (hn : l.length = n + 4) (hn' : l'.length = n + 4) (f g t : Nat) (ht : t < 4294967296) (ok : bareV l n = true) (hl : (allBits l).length = f + (32 + g)) (e : allBits l' = List.zipWith (· ^^^ ·) (allBits l) (List.replicate f 0 ++ (bits 32 t ++ List.replicate g 0))) : bareV l' n = true ↔ t = 0 := by
  rw [bare_iff l' bl' n hn', e]
  have k := (bare_iff l bl n hn).1 ok
  have b2 : ∀ (k t : Nat), ∀ x ∈ bits k t, x < 2 := by
    intro k
    induction k with
    | zero => intro t x hx; cases hx
    | succ k ih => intro t x hx; rcases List.mem_cons.1 hx with rfl | hx
                   · omega
                   · exact ih _ x hx
  have h := bsF_xor (allBits l) (List.replicate f 0 ++ (bits 32 t ++ List.replicate g 0)) (nt 0) 0 (by rw [hl, List.length_append, List.length_append, List.length_replicate, List.length_replicate, bits_len]) (fun x hx => by
    obtain ⟨a, _, hx⟩ := List.mem_flatMap.1 hx
    exact b2 _ _ x hx) (fun x hx => by
    rcases List.mem_append.1 hx with h | h
    · rw [List.eq_of_mem_replicate h]; decide
    · rcases List.mem_append.1 h with h | h
      · exact b2 _ _ x h
      · rw [List.eq_of_mem_replicate h]; decide)
  rw [Nat.xor_zero, k] at h
  rw [h]
  constructor
  · intro h2
    apply run_ne f g t ht
    have := congrArg (fun z => kV ^^^ z) h2
    simp only [← Nat.xor_assoc, Nat.xor_self, Nat.zero_xor] at this
    exact this
  · rintro rfl
    rw [run_zero, Nat.xor_zero]
end Go.Eng
namespace Go.Eng
open Go
set_option linter.unusedSimpArgs false
set_option linter.unusedVariables false
theorem bits_xor : ∀ (k x y : Nat), bits k (x ^^^ y) = List.zipWith (· ^^^ ·) (bits k x) (bits k y) := by
  intro k
  induction k with
  | zero => intro x y; rfl
  | succ k ih =>
    intro x y
    show (x ^^^ y) % 2 :: bits k ((x ^^^ y) / 2) = (x % 2 ^^^ y % 2) :: List.zipWith (· ^^^ ·) (bits k (x / 2)) (bits k (y / 2))
    rw [← ih, xdiv2]
    have := Nat.xor_mod_two_pow (a := x) (b := y) (n := 1)
    rw [Nat.pow_one] at this
    rw [this]
theorem allB_xor : ∀ (a b : List Nat), a.length = b.length → allBits (List.zipWith (· ^^^ ·) a b) = List.zipWith (· ^^^ ·) (allBits a) (allBits b) := by
  intro a
  induction a with
  | nil => intro b h; rfl
  | cons x a ih =>
    intro b h
    cases b with
    | nil => cases h
    | cons y b =>
      show bits 8 (x ^^^ y) ++ allBits (List.zipWith (· ^^^ ·) a b) = List.zipWith (· ^^^ ·) (bits 8 x ++ allBits a) (bits 8 y ++ allBits b)
      rw [ih b (by simpa using h), bits_xor, List.zipWith_append (by rw [bits_len, bits_len])]
theorem allB_app (a b : List Nat) : allBits (a ++ b) = allBits a ++ allBits b := by unfold allBits; rw [List.flatMap_append]
theorem allB_zero (q : Nat) : allBits (List.replicate q 0) = List.replicate (8 * q) 0 := by
  induction q with
  | zero => rfl
  | succ q ih =>
    rw [List.replicate_succ]
    show bits 8 0 ++ allBits (List.replicate q 0) = _
    rw [ih, show bits 8 0 = List.replicate 8 0 from rfl, List.replicate_append_replicate]
    congr 1; omega
theorem allB_len8 : ∀ l : List Nat, (allBits l).length = 8 * l.length := by
  intro l
  induction l with
  | nil => rfl
  | cons a l ih => show (bits 8 a ++ allBits l).length = _; rw [List.length_append, bits_len, ih, List.length_cons]; omega
theorem xor_zeros (l : List Nat) (n : Nat) (h : l.length = n) : List.zipWith (· ^^^ ·) l (List.replicate n 0) = l := by
  apply List.ext_getElem
  · rw [List.length_zipWith, List.length_replicate, h, Nat.min_self]
  · intro i h1 h2
    rw [List.getElem_zipWith, List.getElem_replicate, Nat.xor_zero]
theorem byt_xor (a b : List Nat) (ha : byt a = true) (hb : byt b = true) : byt (List.zipWith (· ^^^ ·) a b) = true := by
  refine byt_iff.2 (fun x hx => ?_)
  obtain ⟨i, hi, rfl⟩ := List.getElem_of_mem hx
  rw [List.getElem_zipWith]
  rw [List.length_zipWith] at hi
  exact x256 _ _ (byt_iff.1 ha _ (List.getElem_mem _)) (byt_iff.1 hb _ (List.getElem_mem _))
theorem bar_bare (l : List Nat) (n : Nat) (hn : l.length = n + 4) : barE l = 0 ↔ bareV l n = true := by
  unfold barE bareV
  rw [if_neg (by omega), decide_eq_true_eq, hn, Nat.add_sub_cancel]
  constructor
  · intro h
    by_cases c : onV 0 (l.take n) = numV (l.drop n)
    · exact c
    · rw [if_neg c] at h; cases h
  · intro h; rw [if_pos h]
/-- marked bytes, four bytes of which that follow one another are turned, are marked no more -/
theorem turn_bare (l l' : List Nat) (bl : byt l = true) (bl' : byt l' = true) (n : Nat) (hn : l.length = n + 4) (hn' : l'.length = n + 4) (p : Nat) (hd : ∀ i, i < p ∨ p + 4 ≤ i → l'.getD i 0 = l.getD i 0) (ok : barE l = 0) (ne : l' ≠ l) : barE l' ≠ 0 := by
  intro h0
  apply ne
  obtain ⟨q, hq⟩ : ∃ q, min p n = q := ⟨_, rfl⟩
  obtain ⟨d, ed⟩ : ∃ d, List.zipWith (· ^^^ ·) ((l.drop q).take 4) ((l'.drop q).take 4) = d := ⟨_, rfl⟩
  have ld : d.length = 4 := by rw [← ed, List.length_zipWith, List.length_take, List.length_drop, List.length_take, List.length_drop]; omega
  have bd : byt d = true := by rw [← ed]; exact byt_xor _ _ (byt_take (byt_drop bl _) _) (byt_take (byt_drop bl' _) _)
  have tl : numV d < 4294967296 := by have := numV_lt d bd; rw [ld] at this; exact this
  have e : l' = List.zipWith (· ^^^ ·) l (List.replicate q 0 ++ (d ++ List.replicate (n - q) 0)) := by
    apply List.ext_getElem
    · rw [List.length_zipWith, List.length_append, List.length_append, List.length_replicate, List.length_replicate, ld]; omega
    · intro i h1 h2
      rw [List.getElem_zipWith]
      have g : ∀ (m : List Nat) (h : i < m.length), m[i] = m.getD i 0 := fun m h => by rw [List.getD_eq_getElem?_getD, List.getElem?_eq_getElem h]; rfl
      by_cases c1 : i < q
      · rw [List.getElem_append_left (by rw [List.length_replicate]; exact c1), List.getElem_replicate, Nat.xor_zero, g l' h1, g l (by omega)]
        exact hd i (.inl (by omega))
      · by_cases c2 : i < q + 4
        · rw [List.getElem_append_right (by rw [List.length_replicate]; omega)]
          simp only [List.length_replicate]
          rw [List.getElem_append_left (by rw [ld]; omega)]
          have : d[i - q]'(by rw [ld]; omega) = l[i]'(by omega) ^^^ l'[i] := by
            have h5 : d[i - q]? = some (l[i]'(by omega) ^^^ l'[i]) := by
              rw [← ed, List.getElem?_zipWith, List.getElem?_take_of_lt (by omega), List.getElem?_take_of_lt (by omega), List.getElem?_drop, List.getElem?_drop, show q + (i - q) = i by omega, List.getElem?_eq_getElem (by omega), List.getElem?_eq_getElem h1]
            rw [List.getElem?_eq_getElem (by rw [ld]; omega)] at h5
            exact Option.some.inj h5
          rw [this, ← Nat.xor_assoc, Nat.xor_self, Nat.zero_xor]
        · rw [List.getElem_append_right (by rw [List.length_replicate]; omega)]
          simp only [List.length_replicate]
          rw [List.getElem_append_right (by rw [ld]; omega), List.getElem_replicate, Nat.xor_zero, g l' h1, g l (by omega)]
          exact hd i (.inr (by omega))
  have lE : (List.replicate q 0 ++ (d ++ List.replicate (n - q) 0)).length = n + 4 := by rw [List.length_append, List.length_append, List.length_replicate, List.length_replicate, ld]; omega
  have eb : allBits l' = List.zipWith (· ^^^ ·) (allBits l) (List.replicate (8 * q) 0 ++ (bits 32 (numV d) ++ List.replicate (8 * (n - q)) 0)) := by
    have h5 := congrArg allBits e
    rw [allB_xor _ _ (by rw [lE, hn]), allB_app, allB_app, allB_zero, allB_zero, ← bits_numV d bd, ld] at h5
    exact h5
  have rb := run_bare l l' bl bl' n hn hn' (8 * q) (8 * (n - q)) (numV d) tl ((bar_bare l n hn).1 ok) (by rw [allB_len8, hn]; omega) eb
  have t0 := rb.1 ((bar_bare l' n hn').1 h0)
  have d0 : d = List.replicate 4 0 := by rw [← leN_numV' d bd 4 ld, t0]; rfl
  rw [e, d0, List.replicate_append_replicate, List.replicate_append_replicate]
  exact xor_zeros _ _ (by omega)
theorem getD_take (l : List Nat) (n i : Nat) (h : i < n) : (l.take n).getD i 0 = l.getD i 0 := by
  rw [List.getD_eq_getElem?_getD, List.getD_eq_getElem?_getD, List.getElem?_take_of_lt h]
theorem getD_drop (l : List Nat) (n i : Nat) : (l.drop n).getD i 0 = l.getD (n + i) 0 := by
  rw [List.getD_eq_getElem?_getD, List.getD_eq_getElem?_getD, List.getElem?_drop]
theorem getD_out (l : List Nat) (i : Nat) (h : l.length ≤ i) : l.getD i 0 = 0 := by
  rw [List.getD_eq_getElem?_getD, List.getElem?_eq_none h]; rfl
theorem getD_appr (a b : List Nat) (i : Nat) : (a ++ b).getD (a.length + i) 0 = b.getD i 0 := by
  rw [List.getD_eq_getElem?_getD, List.getD_eq_getElem?_getD, List.getElem?_append_right (by omega), Nat.add_sub_cancel_left]
/-- where a record's bytes are turned none stands -/
theorem dc_turn (o : Rq) (ho : rqOk o = true) (ok : o.ok) (r q : List Nat) (br : byt r = true) (bq : byt q = true) (lq : q.length = (rqB o ++ r).length) (p f : Nat) (hd : ∀ i, i < p ∨ p + 4 ≤ i → q.getD i 0 = (rqB o ++ r).getD i 0) (hf : f < (rqB o).length) (nf : q.getD f 0 ≠ (rqB o ++ r).getD f 0) : dcV q = none := by
  have bw := byt_app (rqB_byt o ho ok) br
  have d0 := dc_ok o ho (fun l => onV_lt 0 l) r
  have lw : (rqB o ++ r).length = 13 + o.l.length + r.length := by rw [List.length_append, rqB_len]
  rw [rqB_len] at hf d0
  generalize rqB o ++ r = w at *
  -- what the whole bytes say
  unfold dcV at d0
  rw [if_neg (by omega)] at d0
  by_cases c2 : barE (w.take 9) ≠ 0
  · rw [if_pos c2] at d0; cases d0
  rw [if_neg c2] at d0
  by_cases c3 : 200000 < numV ((w.drop 1).take 4)
  · rw [if_pos c3] at d0; cases d0
  rw [if_neg c3] at d0
  by_cases c4 : w.length < 13 + numV ((w.drop 1).take 4)
  · rw [if_pos c4] at d0; cases d0
  rw [if_neg c4] at d0
  by_cases c5 : barE ((w.drop 9).take (numV ((w.drop 1).take 4) + 4)) ≠ 0
  · rw [if_pos c5] at d0; cases d0
  rw [if_neg c5] at d0
  simp only [Option.some.injEq, Prod.mk.injEq] at d0
  obtain ⟨rfl, -⟩ := d0
  have l13 : ((w.drop 9).take (numV ((w.drop 1).take 4))).length = numV ((w.drop 1).take 4) := by rw [List.length_take, List.length_drop]; omega
  simp only [l13] at hf lw
  have l9 : (w.take 9).length = 5 + 4 := by rw [List.length_take]; omega
  have l9' : (q.take 9).length = 5 + 4 := by rw [List.length_take]; omega
  unfold dcV
  rw [if_neg (by omega)]
  by_cases e9 : q.take 9 = w.take 9
  · rw [e9, if_neg c2]
    have en : (q.drop 1).take 4 = (w.drop 1).take 4 := by
      have h1 : (q.drop 1).take 4 = ((q.take 9).drop 1).take 4 := by rw [List.drop_take, List.take_take]; rfl
      have h2 : (w.drop 1).take 4 = ((w.take 9).drop 1).take 4 := by rw [List.drop_take, List.take_take]; rfl
      rw [h1, h2, e9]
    rw [en, if_neg c3, if_neg (by omega)]
    generalize numV ((w.drop 1).take 4) = n at *
    have f9 : 9 ≤ f := by
      apply Nat.le_of_not_lt
      intro h9
      apply nf
      rw [← getD_take q 9 f h9, ← getD_take w 9 f h9, e9]
    rw [if_pos]
    refine turn_bare ((w.drop 9).take (n + 4)) ((q.drop 9).take (n + 4)) (byt_take (byt_drop bw _) _) (byt_take (byt_drop bq _) _) n (by rw [List.length_take, List.length_drop]; omega) (by rw [List.length_take, List.length_drop]; omega) (p - 9) (fun i hi => ?_) (Classical.not_not.1 c5) (fun h => nf ?_)
    · by_cases c : i < n + 4
      · rw [getD_take _ _ _ c, getD_take _ _ _ c, getD_drop, getD_drop]
        exact hd _ (by omega)
      · rw [getD_out _ _ (by rw [List.length_take, List.length_drop]; omega), getD_out _ _ (by rw [List.length_take, List.length_drop]; omega)]
    · have this : ((q.drop 9).take (n + 4)).getD (f - 9) 0 = ((w.drop 9).take (n + 4)).getD (f - 9) 0 := by rw [h]
      rw [getD_take _ _ _ (by omega), getD_take _ _ _ (by omega), getD_drop, getD_drop, show 9 + (f - 9) = f by omega] at this
      exact this
  · rw [if_pos]
    refine turn_bare (w.take 9) (q.take 9) (byt_take bw _) (byt_take bq _) 5 l9 l9' p (fun i hi => ?_) (Classical.not_not.1 c2) e9
    by_cases c : i < 9
    · rw [getD_take _ _ _ c, getD_take _ _ _ c]; exact hd _ hi
    · rw [getD_out _ _ (by omega), getD_out _ _ (by omega)]
theorem rd_turn (ops : List Rq) (hv : ∀ o ∈ ops, rqOk o = true) (ok : ∀ o ∈ ops, o.ok) (cur : List Nat) (bc : byt cur = true) (lc : cur.length = (rB ops).length) (p f w : Nat) (hd : ∀ i, i < p ∨ p + 4 ≤ i → cur.getD i 0 = (rB ops).getD i 0) (nf : cur.getD f 0 ≠ (rB ops).getD f 0) (af : ∀ i, i < f → cur.getD i 0 = (rB ops).getD i 0) (hw : w ≤ ops.length) (h1 : (rB (ops.take w)).length ≤ f) (h2 : ∀ o, ops[w]? = some o → f < (rB (ops.take (w + 1))).length) (n : Nat) (hn : w ≤ n) : rdV n cur = (ops.take w, (rB (ops.take w)).length) := by
  have lw : (ops.take w).length = w := by rw [List.length_take]; omega
  have e1 : rB ops = rB (ops.take w) ++ rB (ops.drop w) := by rw [← rB_app, List.take_append_drop]
  have hfl : f < (rB ops).length := by
    apply Nat.lt_of_not_le
    intro h
    apply nf
    rw [getD_out _ _ (by omega), getD_out _ _ h]
  obtain ⟨P, eP⟩ : ∃ P, rB (ops.take w) = P := ⟨_, rfl⟩
  rw [eP] at h1 e1
  have tk : cur.take P.length = P := by
    apply List.ext_getElem
    · rw [List.length_take]; omega
    · intro i i1 i2
      have g : ∀ (m : List Nat) (h : i < m.length), m[i] = m.getD i 0 := fun m h => by rw [List.getD_eq_getElem?_getD, List.getElem?_eq_getElem h]; rfl
      rw [g _ i1, g _ i2, getD_take _ _ _ i2, af i (by omega), e1, List.getD_eq_getElem?_getD, List.getElem?_append_left i2, List.getD_eq_getElem?_getD]
  have ec : cur = P ++ cur.drop P.length := by
    have := List.take_append_drop P.length cur
    rw [tk] at this; exact this.symm
  cases ho : ops[w]? with
  | none =>
    have : ops.drop w = [] := List.drop_eq_nil_of_le (List.getElem?_eq_none_iff.1 ho)
    rw [this] at e1
    rw [e1, show rB [] = [] from rfl, List.append_nil] at hfl
    omega
  | some o =>
    have hlt : w < ops.length := (List.getElem?_eq_some_iff.1 ho).1
    have ed : ops.drop w = o :: ops.drop (w + 1) := by
      rw [List.drop_eq_getElem_cons hlt]
      rw [List.getElem?_eq_getElem hlt] at ho; cases ho; rfl
    have om := List.mem_of_getElem? ho
    have h3 := h2 o ho
    rw [rB_succ ops w o ho, eP, List.length_append] at h3
    rw [ed, rB_cons] at e1
    have l5 := congrArg List.length e1
    rw [List.length_append] at l5
    have hn0 : dcV (cur.drop P.length) = none := dc_turn o (hv o om) (ok o om) (rB (ops.drop (w + 1))) (cur.drop P.length) (rB_byt _ (fun o ho => hv o (List.mem_of_mem_drop ho)) (fun o ho => ok o (List.mem_of_mem_drop ho))) (byt_drop bc _) (by rw [List.length_drop]; omega) (p - P.length) (f - P.length) (fun i hi => by
      have h6 : (rqB o ++ rB (ops.drop (w + 1))).getD i 0 = (rB ops).getD (P.length + i) 0 := by
        rw [e1, getD_appr]
      rw [getD_drop, h6]
      by_cases c : P.length + i < f
      · exact af _ c
      · exact hd _ (by
          rcases hi with hi | hi
          · left; omega
          · right; omega)) (by omega) (fun h => nf (by
      have h6 : (rqB o ++ rB (ops.drop (w + 1))).getD (f - P.length) 0 = (rB ops).getD f 0 := by
        have h7 := getD_appr P (rqB o ++ rB (ops.drop (w + 1))) (f - P.length)
        rw [← e1, show P.length + (f - P.length) = f by omega] at h7
        exact h7.symm
      rw [getD_drop, show P.length + (f - P.length) = f by omega, h6] at h
      exact h))
    have j := rd_join (ops.take w) (fun o ho => hv o (List.mem_of_mem_take ho)) _ hn0 n (by omega)
    rw [eP, ← ec] at j
    rw [eP]; exact j
end Go.Eng
namespace Go.Eng
open Go
variable {E : Nat → Option Fn} {X : Orc}
set_option linter.unusedSimpArgs false
set_option linter.unusedVariables false
theorem stAnyR (k : IntKind) (l : List Nat) (c : List V) (md : Md) (hmd : isRo md = false) (h : H) (i off : Nat) (hl : off + c.length ≤ l.length) : storeE (some (.cells (ofI k l) md)) h i off c = some (h.put i (.cells (writeN (ofI k l) off c) md)) := by
  unfold storeE
  cases md with
  | ro => cases hmd
  | rw => simp only [show Nat.ble (off + c.length) (ofI k l).length = true from by rw [ofI_len]; exact Nat.ble_eq_true_of_le hl, _root_.cond_true]
  | sh => simp only [show Nat.ble (off + c.length) (ofI k l).length = true from by rw [ofI_len]; exact Nat.ble_eq_true_of_le hl, _root_.cond_true]
def xb (t k : Nat) : Nat := t / 2 ^ (8 * k) % 256
/-- bytes, turned one after the other, and the first one that was -/
def tuN (p t : Nat) (l : List Nat) : Nat → List Nat × Option Nat
  | 0 => (l, none)
  | k + 1 => if p + k < l.length ∧ xb t k ≠ 0 then ((tuN p t l k).1.set (p + k) ((tuN p t l k).1.getD (p + k) 0 ^^^ xb t k), some ((tuN p t l k).2.getD (p + k))) else tuN p t l k
def fI (f : Option Nat) : Int := match f with | none => -1 | some f => (f : Int)
theorem getD_set' (l : List Nat) (q v j : Nat) (hq : q < l.length) : (l.set q v).getD j 0 = if j = q then v else l.getD j 0 := by
  rw [List.getD_eq_getElem?_getD, List.getD_eq_getElem?_getD, List.getElem?_set]
  by_cases h : q = j
  · rw [if_pos h, if_pos h.symm, if_pos (by omega)]; rfl
  · rw [if_neg h, if_neg (fun e => h e.symm)]
theorem tu_ok (p t : Nat) (l : List Nat) (bl : byt l = true) : ∀ k, byt (tuN p t l k).1 = true ∧ (tuN p t l k).1.length = l.length ∧ (∀ i, i < p ∨ p + k ≤ i → (tuN p t l k).1.getD i 0 = l.getD i 0) ∧ ((tuN p t l k).2 = none → (tuN p t l k).1 = l) ∧ ∀ f, (tuN p t l k).2 = some f → p ≤ f ∧ f < p + k ∧ f < l.length ∧ (tuN p t l k).1.getD f 0 ≠ l.getD f 0 ∧ ∀ i, i < f → (tuN p t l k).1.getD i 0 = l.getD i 0 := by
  intro k
  induction k with
  | zero => exact ⟨bl, rfl, fun _ _ => rfl, fun _ => rfl, fun f h => by cases h⟩
  | succ k ih =>
    obtain ⟨b1, l1, o1, n1, f1⟩ := ih
    unfold tuN
    by_cases c : p + k < l.length ∧ xb t k ≠ 0
    · rw [if_pos c]
      simp only
      generalize (tuN p t l k).1 = cur at *
      generalize (tuN p t l k).2 = fo at *
      have hx : xb t k < 256 := Nat.mod_lt _ (by decide)
      have hg := getD_set' cur (p + k) (cur.getD (p + k) 0 ^^^ xb t k)
      have hg := fun j => hg j (by omega)
      have ne : cur.getD (p + k) 0 ^^^ xb t k ≠ l.getD (p + k) 0 := by
        rw [o1 (p + k) (by omega)]
        intro h
        apply c.2
        have := congrArg (fun z => l.getD (p + k) 0 ^^^ z) h
        simp only [← Nat.xor_assoc, Nat.xor_self, Nat.zero_xor] at this
        exact this
      refine ⟨byt_iff.2 (fun x hx' => ?_), by rw [List.length_set, l1], fun i hi => by rw [hg, if_neg (by omega)]; exact o1 i (by omega), fun h => (by cases h), fun f hf => ?_⟩
      · rcases List.mem_or_eq_of_mem_set hx' with h | h
        · exact byt_iff.1 b1 x h
        · rw [h]; exact x256 _ _ (bytD b1 _) hx
      · cases fo with
        | none =>
          obtain rfl : p + k = f := by simpa using hf
          refine ⟨by omega, by omega, c.1, by rw [hg, if_pos rfl]; exact ne, fun i hi => by rw [hg, if_neg (by omega), n1 rfl]⟩
        | some g =>
          obtain rfl : g = f := by simpa using hf
          obtain ⟨g1, g2, g3, g4, g5⟩ := f1 g rfl
          exact ⟨g1, by omega, g3, by rw [hg, if_neg (by omega)]; exact g4, fun i hi => by rw [hg, if_neg (by omega)]; exact g5 i hi⟩
    · rw [if_neg c]
      exact ⟨b1, l1, fun i hi => o1 i (by omega), n1, fun f hf => by obtain ⟨g1, g2, g⟩ := f1 f hf; exact ⟨g1, by omega, g⟩⟩
structure RuI (l : List Nat) (p x t q : Nat) (md : Md) (v0 : V) (c : Option Nat) (h0 : H) (k : Nat) (T : Tr V) (h : H) : Prop where
  kl : k ≤ 4
  t0 : evO T (.t 0) = v0
  t1 : evO T (.t 1) = .int .u16 (x : Int)
  t2 : evO T (.t 2) = .int .u32 (t : Int)
  t7 : evO T (.t 7) = .bool true
  t8 : evO T (.t 8) = .slice (some (q, 0)) l.length c 1
  t10 : evO T (.t 10) = .int .i64 (fI (tuN p t l k).2)
  t11 : evO T (.t 11) = .int .i64 (k : Int)
  g : h.get q = some (.cells (ofI .u8 (tuN p t l k).1) md)
  eq : Eqx q h0 h
theorem ru_step (Q : Orc) (m : Nat) (l : List Nat) (bl : byt l = true) (hl0 : 0 < l.length) (hl : l.length ≤ 100000) (x t q : Nat) (hx : x < 65536) (ht : t < 4294967296) (md : Md) (hmd : isRo md = false) (v0 : V) (c : Option Nat) (h0 : H) (k : Nat) (hk : k < 4) (T : Tr V) (h : H) (I : RuI l (x % l.length) x t q md v0 c h0 k T h) :
    ∃ T' h', evC Q 127 m none L_purserlaw16_RecordRuns_0 ⟨T, [], h⟩ = some (.normal, ⟨T', [], h'⟩) ∧ RuI l (x % l.length) x t q md v0 c h0 (k + 1) T' h' := by
  obtain ⟨_, t0, t1, t2, t7, t8, t10, t11, g, eq⟩ := I
  obtain ⟨p, ep⟩ : ∃ p, x % l.length = p := ⟨_, rfl⟩
  have hp : p < l.length := by rw [← ep]; exact Nat.mod_lt _ hl0
  have rem : ∀ (e : EqK) (h : H), binV .rem e h (.int .i64 (x : Int)) (.int .i64 (l.length : Int)) = some (.int .i64 (p : Int)) := fun e h => by
    rw [b_rem _ _ _ _ _ (by omega), ← ep]; rfl
  rw [ep] at t10 g ⊢
  obtain ⟨b1, l1, _, _, ff⟩ := tu_ok p t l bl k
  have c0 : decide ((k : Int) < 4) = true := decide_eq_true (by omega)
  have wi : wr .i64 ((k : Int) + 1) = ((k + 1 : Nat) : Int) := by rw [wr_i64 (by omega)]; omega
  have wx : wr .i64 (x : Int) = (x : Int) := wr_i64 (by omega)
  have wp : wr .i64 ((p : Int) + (k : Int)) = ((p + k : Nat) : Int) := by rw [wr_i64 (by omega)]; omega
  have w8 : wr .i64 (8 * (k : Int)) = ((8 * k : Nat) : Int) := by rw [wr_i64 (by omega)]; omega
  have wu : wr .u64 ((8 * k : Nat) : Int) = ((8 * k : Nat) : Int) := u64n _ (by omega)
  have sh := fun e h => b_shr32 e h t (8 * k) (by omega)
  have wb : wr .u8 ((sr t (8 * k) : Nat) : Int) = (xb t k : Int) := by
    exact w8n _
  have kl : k + 1 ≤ 4 := hk
  have hb : xb t k < 256 := Nat.mod_lt _ (by decide)
  by_cases cc : p + k < l.length ∧ xb t k ≠ 0
  · have e1 : tuN p t l (k + 1) = ((tuN p t l k).1.set (p + k) ((tuN p t l k).1.getD (p + k) 0 ^^^ xb t k), some ((tuN p t l k).2.getD (p + k))) := by
      show (if _ then _ else _) = _
      rw [if_pos cc]
    have d1 : decide (((p + k : Nat) : Int) < (l.length : Int)) = true := decide_eq_true (by omega)
    have d2 : (!decide ((xb t k : Int) = 0)) = true := by rw [decide_eq_false (by omega)]; rfl
    have ix : idx ((p + k : Nat) : Int) l.length = some (p + k) := idxn cc.1
    have cg : (ofI .u8 (tuN p t l k).1)[p + k]? = some (.int .u8 ((tuN p t l k).1.getD (p + k) 0 : Nat)) := ofI_get _ _ _ (by omega)
    have xo := xor8' ((tuN p t l k).1.getD (p + k) 0) (xb t k) (bytD b1 _) hb
    have ste := fun (h : H) (v : V) => stAnyR .u8 (tuN p t l k).1 [v] md hmd h q (p + k) (by simp only [List.length_cons, List.length_nil]; omega)
    have su := wr1I .u8 (tuN p t l k).1 (p + k) ((tuN p t l k).1.getD (p + k) 0 ^^^ xb t k) (by omega)
    have fi2 : fI (some ((tuN p t l k).2.getD (p + k))) = if fI (tuN p t l k).2 < 0 then ((p + k : Nat) : Int) else fI (tuN p t l k).2 := by
      cases (tuN p t l k).2 with
      | none => rfl
      | some f => show (f : Int) = if (f : Int) < 0 then _ else (f : Int); rw [if_neg (by omega)]
    have E1 : (tuN p t l (k + 1)).1 = (tuN p t l k).1.set (p + k) ((tuN p t l k).1.getD (p + k) 0 ^^^ xb t k) := by rw [e1]
    have E2 : fI (tuN p t l (k + 1)).2 = if fI (tuN p t l k).2 < 0 then ((p + k : Nat) : Int) else fI (tuN p t l k).2 := by rw [e1]; exact fi2
    clear fi2 e1
    obtain ⟨cu, ecu⟩ : ∃ z, (tuN p t l (k + 1)).1 = z := ⟨_, rfl⟩
    obtain ⟨fu, efu⟩ : ∃ z, fI (tuN p t l (k + 1)).2 = z := ⟨_, rfl⟩
    rw [← E1, ecu] at su
    rw [efu] at E2
    generalize (tuN p t l k).1.getD (p + k) 0 = y at *
    generalize hfk : fI (tuN p t l k).2 = fk at *
    generalize (tuN p t l k).1 = cur at *
    generalize y ^^^ xb t k = z at *
    generalize xb t k = xk at *
    generalize sr t (8 * k) = sk at *
    obtain ⟨pk, epk⟩ : ∃ z, p + k = z := ⟨_, rfl⟩
    obtain ⟨n, en⟩ : ∃ z, l.length = z := ⟨_, rfl⟩
    obtain ⟨k8, ek8⟩ : ∃ z, 8 * k = z := ⟨_, rfl⟩
    rw [epk] at wp d1 ix cg ste su E2
    rw [en] at t8 rem d1 ix
    rw [ek8] at w8 wu sh
    obtain ⟨h2, eh2⟩ : ∃ h2, h.put q (.cells (ofI .u8 cu) md) = h2 := ⟨_, rfl⟩
    have g2 : h2.get q = some (.cells (ofI .u8 cu) md) := by rw [← eh2]; exact h_put_same _ _ _
    have eq2 : Eqx q h0 h2 := by rw [← eh2]; exact ⟨eq.1, fun j hj => by rw [h_put_ne _ _ (Ne.symm hj)]; exact eq.2 j hj⟩
    by_cases cf : fk < 0
    · rw [if_pos cf] at E2
      have d3 : decide (fk < 0) = true := decide_eq_true cf
      refine ⟨_, h2, by
        simp (config := {maxSteps := 2000000}) (disch := first | omega | (simp only [List.length_cons, List.length_nil, List.length_append, List.length_drop]; omega)) only [L_purserlaw16_RecordRuns_0, t1, t2, t8, t10, t11, g, cg, c0, wi, wx, wp, w8, wu, sh, wb, rem, d1, d2, d3, ix, xo, ste, su, eh2, ↓b_xor32, ↓b_and32, ↓b_or32, ↓u_not32, b_xor32, b_and32, b_or32, u_not32, w32ad, ↓x_conv, x_convV, ↓x_fieldAddr, x_fieldV, ↓s_nilchk, x_nilchk, Nat.zero_add, Nat.add_zero, Nat.mul_one, ↓l_loop, ↓l_succ, ↓l_normal, l_normal, l_exit, l_ret, l_iteN, ↓h_put_get, ↓h_new_get, ↓h_del_get, h_next_put, h_next_new, h_next_del, Nat.add_assoc, Nat.add_eq_left, Nat.left_eq_add, Nat.add_left_cancel_iff, ↓s_load, m_load, ↓m_load1, m_load1, ↓m_st, m_stE, m_storeI, w_zero, w_succ, ↓s_alloc, ↓x_idxA, ↓x_idxS, x_idxAE, x_idxSE, x_addrE, x_idx, x_lenS, ↓s_len, ↓x_buildS, x_buildE, ↓x_P0, ↓x_P1, x_fill0, x_filli, x_fills, x_fillb, c_int, List.length_cons, List.length_nil, List.cons_append, List.drop_succ_cons, List.drop_zero, List.drop_nil, List.nil_append, Int.reduceAdd, Int.reduceToNat, Int.reduceLT, Int.reduceLE, Nat.reduceAdd, Nat.reduceMul, Nat.reduceLeDiff, Int.reduceEq, Int.reduceSub, Int.cast_ofNat_Int, s_resc, s_consR, m_load4, m_store4, s_res0, ↓s_skip, ↓s_ops, ↓s_dops, ↓s_seq, ↓s_cond, ↓s_block, ↓s_exit, ↓s_ret, ↓s_scope, ↓s_nil, ↓s_op, ↓s_opg, ↓s_wanted', ↓s_wantV, s_wantV, s_wantV0, beq_true, beq_false, ↓s_bindS, s_bindS, ↓s_bindE, s_bindE, s_bindE_ret, s_bindE_exit, s_bindE_iteN, s_norm, ↓s_condV, s_condV, s_block_ret, s_block_normal, s_block_exit, s_block_iteN, ↓s_getp, ↓s_getp0, ↓s_get, s_get0, ↓s_con, ↓s_fn, ↓s_os0, ↓s_os1, ↓s_list0, ↓s_list1, ↓s_mov, ↓s_pick, ↓s_pickE, s_pickE, ↓s_bin, ↓s_un, ↓s_minmax, ↓s_call, ↓s_callv, ↓s_callV, ↓s_ext, s_same, b_eql, b_neq, b_lss, b_leq, b_gtr, b_geq, b_add, b_sub, b_mul, b_eqlb, b_neqb, b_fnil, b_fnil', b_fnil2, b_fnil2', u_neg, u_not, m_two, s_end, s_end', s_end_iteN, s_res0, s_res1, s_tup1, s_tup2, ↓iteN_true, ↓iteN_false, iteN_true, iteN_false, Nat.zero_add, List.nil_append, List.append_nil, Nat.reduceEqDiff, reduceIte, decide_true, decide_false, Bool.not_true, Bool.not_false, List.getElem?_cons_zero, List.getElem?_cons_succ, Bool.false_eq_true, if_true, if_false, beq_self_eq_true]
        exact rfl, ⟨kl, (by (simp only [s_getp, s_getp0, Nat.reduceEqDiff, decide_false, decide_true, iteN_false, iteN_true, t0]; try rfl)), (by (simp only [s_getp, s_getp0, Nat.reduceEqDiff, decide_false, decide_true, iteN_false, iteN_true, t1]; try rfl)), (by (simp only [s_getp, s_getp0, Nat.reduceEqDiff, decide_false, decide_true, iteN_false, iteN_true, t2]; try rfl)), (by (simp only [s_getp, s_getp0, Nat.reduceEqDiff, decide_false, decide_true, iteN_false, iteN_true, t7]; try rfl)), by rw [en]; exact (by (simp only [s_getp, s_getp0, Nat.reduceEqDiff, decide_false, decide_true, iteN_false, iteN_true, t8]; try rfl)), by rw [efu, E2]; exact (by (simp only [s_getp, s_getp0, Nat.reduceEqDiff, decide_false, decide_true, iteN_false, iteN_true, t10]; try rfl)), (by (simp only [s_getp, s_getp0, Nat.reduceEqDiff, decide_false, decide_true, iteN_false, iteN_true, t11]; try rfl)), by rw [ecu]; exact g2, eq2⟩⟩
    · rw [if_neg cf] at E2
      have d3 : decide (fk < 0) = false := decide_eq_false cf
      refine ⟨_, h2, by
        simp (config := {maxSteps := 2000000}) (disch := first | omega | (simp only [List.length_cons, List.length_nil, List.length_append, List.length_drop]; omega)) only [L_purserlaw16_RecordRuns_0, t1, t2, t8, t10, t11, g, cg, c0, wi, wx, wp, w8, wu, sh, wb, rem, d1, d2, d3, ix, xo, ste, su, eh2, ↓b_xor32, ↓b_and32, ↓b_or32, ↓u_not32, b_xor32, b_and32, b_or32, u_not32, w32ad, ↓x_conv, x_convV, ↓x_fieldAddr, x_fieldV, ↓s_nilchk, x_nilchk, Nat.zero_add, Nat.add_zero, Nat.mul_one, ↓l_loop, ↓l_succ, ↓l_normal, l_normal, l_exit, l_ret, l_iteN, ↓h_put_get, ↓h_new_get, ↓h_del_get, h_next_put, h_next_new, h_next_del, Nat.add_assoc, Nat.add_eq_left, Nat.left_eq_add, Nat.add_left_cancel_iff, ↓s_load, m_load, ↓m_load1, m_load1, ↓m_st, m_stE, m_storeI, w_zero, w_succ, ↓s_alloc, ↓x_idxA, ↓x_idxS, x_idxAE, x_idxSE, x_addrE, x_idx, x_lenS, ↓s_len, ↓x_buildS, x_buildE, ↓x_P0, ↓x_P1, x_fill0, x_filli, x_fills, x_fillb, c_int, List.length_cons, List.length_nil, List.cons_append, List.drop_succ_cons, List.drop_zero, List.drop_nil, List.nil_append, Int.reduceAdd, Int.reduceToNat, Int.reduceLT, Int.reduceLE, Nat.reduceAdd, Nat.reduceMul, Nat.reduceLeDiff, Int.reduceEq, Int.reduceSub, Int.cast_ofNat_Int, s_resc, s_consR, m_load4, m_store4, s_res0, ↓s_skip, ↓s_ops, ↓s_dops, ↓s_seq, ↓s_cond, ↓s_block, ↓s_exit, ↓s_ret, ↓s_scope, ↓s_nil, ↓s_op, ↓s_opg, ↓s_wanted', ↓s_wantV, s_wantV, s_wantV0, beq_true, beq_false, ↓s_bindS, s_bindS, ↓s_bindE, s_bindE, s_bindE_ret, s_bindE_exit, s_bindE_iteN, s_norm, ↓s_condV, s_condV, s_block_ret, s_block_normal, s_block_exit, s_block_iteN, ↓s_getp, ↓s_getp0, ↓s_get, s_get0, ↓s_con, ↓s_fn, ↓s_os0, ↓s_os1, ↓s_list0, ↓s_list1, ↓s_mov, ↓s_pick, ↓s_pickE, s_pickE, ↓s_bin, ↓s_un, ↓s_minmax, ↓s_call, ↓s_callv, ↓s_callV, ↓s_ext, s_same, b_eql, b_neq, b_lss, b_leq, b_gtr, b_geq, b_add, b_sub, b_mul, b_eqlb, b_neqb, b_fnil, b_fnil', b_fnil2, b_fnil2', u_neg, u_not, m_two, s_end, s_end', s_end_iteN, s_res0, s_res1, s_tup1, s_tup2, ↓iteN_true, ↓iteN_false, iteN_true, iteN_false, Nat.zero_add, List.nil_append, List.append_nil, Nat.reduceEqDiff, reduceIte, decide_true, decide_false, Bool.not_true, Bool.not_false, List.getElem?_cons_zero, List.getElem?_cons_succ, Bool.false_eq_true, if_true, if_false, beq_self_eq_true]
        exact rfl, ⟨kl, (by (simp only [s_getp, s_getp0, Nat.reduceEqDiff, decide_false, decide_true, iteN_false, iteN_true, t0]; try rfl)), (by (simp only [s_getp, s_getp0, Nat.reduceEqDiff, decide_false, decide_true, iteN_false, iteN_true, t1]; try rfl)), (by (simp only [s_getp, s_getp0, Nat.reduceEqDiff, decide_false, decide_true, iteN_false, iteN_true, t2]; try rfl)), (by (simp only [s_getp, s_getp0, Nat.reduceEqDiff, decide_false, decide_true, iteN_false, iteN_true, t7]; try rfl)), by rw [en]; exact (by (simp only [s_getp, s_getp0, Nat.reduceEqDiff, decide_false, decide_true, iteN_false, iteN_true, t8]; try rfl)), by rw [efu, E2]; exact (by (simp only [s_getp, s_getp0, Nat.reduceEqDiff, decide_false, decide_true, iteN_false, iteN_true, t10]; try rfl)), (by (simp only [s_getp, s_getp0, Nat.reduceEqDiff, decide_false, decide_true, iteN_false, iteN_true, t11]; try rfl)), by rw [ecu]; exact g2, eq2⟩⟩
  · have e1 : tuN p t l (k + 1) = tuN p t l k := by
      show (if _ then _ else _) = _
      rw [if_neg cc]
    by_cases c1 : p + k < l.length
    · have c2 : xb t k = 0 := Classical.byContradiction (fun h => cc ⟨c1, h⟩)
      have d1 : decide (((p + k : Nat) : Int) < (l.length : Int)) = true := decide_eq_true (by omega)
      have d2 : (!decide ((xb t k : Int) = 0)) = false := by rw [decide_eq_true (by omega)]; rfl
      generalize xb t k = xk at *
      generalize sr t (8 * k) = sk at *
      obtain ⟨pk, epk⟩ : ∃ z, p + k = z := ⟨_, rfl⟩
      obtain ⟨n, en⟩ : ∃ z, l.length = z := ⟨_, rfl⟩
      obtain ⟨k8, ek8⟩ : ∃ z, 8 * k = z := ⟨_, rfl⟩
      rw [epk] at wp d1
      rw [en] at t8 rem d1
      rw [ek8] at w8 wu sh
      refine ⟨_, h, by
        simp (config := {maxSteps := 2000000}) (disch := first | omega | (simp only [List.length_cons, List.length_nil, List.length_append, List.length_drop]; omega)) only [L_purserlaw16_RecordRuns_0, t1, t2, t8, t10, t11, c0, wi, wx, wp, w8, wu, sh, wb, rem, d1, d2, ↓s_len, x_lenS, ↓b_xor32, ↓b_and32, ↓b_or32, ↓u_not32, b_xor32, b_and32, b_or32, u_not32, w32ad, ↓x_conv, x_convV, ↓x_fieldAddr, x_fieldV, ↓s_nilchk, x_nilchk, Nat.zero_add, Nat.add_zero, Nat.mul_one, ↓l_loop, ↓l_succ, ↓l_normal, l_normal, l_exit, l_ret, l_iteN, ↓h_put_get, ↓h_new_get, ↓h_del_get, h_next_put, h_next_new, h_next_del, Nat.add_assoc, Nat.add_eq_left, Nat.left_eq_add, Nat.add_left_cancel_iff, ↓s_load, m_load, ↓m_load1, m_load1, ↓m_st, m_stE, m_storeI, w_zero, w_succ, ↓s_alloc, ↓x_idxA, ↓x_idxS, x_idxAE, x_idxSE, x_addrE, x_idx, x_lenS, ↓s_len, ↓x_buildS, x_buildE, ↓x_P0, ↓x_P1, x_fill0, x_filli, x_fills, x_fillb, c_int, List.length_cons, List.length_nil, List.cons_append, List.drop_succ_cons, List.drop_zero, List.drop_nil, List.nil_append, Int.reduceAdd, Int.reduceToNat, Int.reduceLT, Int.reduceLE, Nat.reduceAdd, Nat.reduceMul, Nat.reduceLeDiff, Int.reduceEq, Int.reduceSub, Int.cast_ofNat_Int, s_resc, s_consR, m_load4, m_store4, s_res0, ↓s_skip, ↓s_ops, ↓s_dops, ↓s_seq, ↓s_cond, ↓s_block, ↓s_exit, ↓s_ret, ↓s_scope, ↓s_nil, ↓s_op, ↓s_opg, ↓s_wanted', ↓s_wantV, s_wantV, s_wantV0, beq_true, beq_false, ↓s_bindS, s_bindS, ↓s_bindE, s_bindE, s_bindE_ret, s_bindE_exit, s_bindE_iteN, s_norm, ↓s_condV, s_condV, s_block_ret, s_block_normal, s_block_exit, s_block_iteN, ↓s_getp, ↓s_getp0, ↓s_get, s_get0, ↓s_con, ↓s_fn, ↓s_os0, ↓s_os1, ↓s_list0, ↓s_list1, ↓s_mov, ↓s_pick, ↓s_pickE, s_pickE, ↓s_bin, ↓s_un, ↓s_minmax, ↓s_call, ↓s_callv, ↓s_callV, ↓s_ext, s_same, b_eql, b_neq, b_lss, b_leq, b_gtr, b_geq, b_add, b_sub, b_mul, b_eqlb, b_neqb, b_fnil, b_fnil', b_fnil2, b_fnil2', u_neg, u_not, m_two, s_end, s_end', s_end_iteN, s_res0, s_res1, s_tup1, s_tup2, ↓iteN_true, ↓iteN_false, iteN_true, iteN_false, Nat.zero_add, List.nil_append, List.append_nil, Nat.reduceEqDiff, reduceIte, decide_true, decide_false, Bool.not_true, Bool.not_false, List.getElem?_cons_zero, List.getElem?_cons_succ, Bool.false_eq_true, if_true, if_false, beq_self_eq_true]
        exact rfl, ⟨kl, (by (simp only [s_getp, s_getp0, Nat.reduceEqDiff, decide_false, decide_true, iteN_false, iteN_true, t0]; try rfl)), (by (simp only [s_getp, s_getp0, Nat.reduceEqDiff, decide_false, decide_true, iteN_false, iteN_true, t1]; try rfl)), (by (simp only [s_getp, s_getp0, Nat.reduceEqDiff, decide_false, decide_true, iteN_false, iteN_true, t2]; try rfl)), (by (simp only [s_getp, s_getp0, Nat.reduceEqDiff, decide_false, decide_true, iteN_false, iteN_true, t7]; try rfl)), by rw [en]; exact (by (simp only [s_getp, s_getp0, Nat.reduceEqDiff, decide_false, decide_true, iteN_false, iteN_true, t8]; try rfl)), by rw [e1]; exact (by (simp only [s_getp, s_getp0, Nat.reduceEqDiff, decide_false, decide_true, iteN_false, iteN_true, t10]; try rfl)), (by (simp only [s_getp, s_getp0, Nat.reduceEqDiff, decide_false, decide_true, iteN_false, iteN_true, t11]; try rfl)), by rw [e1]; exact g, eq⟩⟩
    · have d1 : decide (((p + k : Nat) : Int) < (l.length : Int)) = false := decide_eq_false (by omega)
      generalize xb t k = xk at *
      generalize sr t (8 * k) = sk at *
      obtain ⟨pk, epk⟩ : ∃ z, p + k = z := ⟨_, rfl⟩
      obtain ⟨n, en⟩ : ∃ z, l.length = z := ⟨_, rfl⟩
      obtain ⟨k8, ek8⟩ : ∃ z, 8 * k = z := ⟨_, rfl⟩
      rw [epk] at wp d1
      rw [en] at t8 rem d1
      rw [ek8] at w8 wu sh
      refine ⟨_, h, by
        simp (config := {maxSteps := 2000000}) (disch := first | omega | (simp only [List.length_cons, List.length_nil, List.length_append, List.length_drop]; omega)) only [L_purserlaw16_RecordRuns_0, t1, t2, t8, t10, t11, c0, wi, wx, wp, w8, wu, sh, wb, rem, d1, ↓s_len, x_lenS, ↓b_xor32, ↓b_and32, ↓b_or32, ↓u_not32, b_xor32, b_and32, b_or32, u_not32, w32ad, ↓x_conv, x_convV, ↓x_fieldAddr, x_fieldV, ↓s_nilchk, x_nilchk, Nat.zero_add, Nat.add_zero, Nat.mul_one, ↓l_loop, ↓l_succ, ↓l_normal, l_normal, l_exit, l_ret, l_iteN, ↓h_put_get, ↓h_new_get, ↓h_del_get, h_next_put, h_next_new, h_next_del, Nat.add_assoc, Nat.add_eq_left, Nat.left_eq_add, Nat.add_left_cancel_iff, ↓s_load, m_load, ↓m_load1, m_load1, ↓m_st, m_stE, m_storeI, w_zero, w_succ, ↓s_alloc, ↓x_idxA, ↓x_idxS, x_idxAE, x_idxSE, x_addrE, x_idx, x_lenS, ↓s_len, ↓x_buildS, x_buildE, ↓x_P0, ↓x_P1, x_fill0, x_filli, x_fills, x_fillb, c_int, List.length_cons, List.length_nil, List.cons_append, List.drop_succ_cons, List.drop_zero, List.drop_nil, List.nil_append, Int.reduceAdd, Int.reduceToNat, Int.reduceLT, Int.reduceLE, Nat.reduceAdd, Nat.reduceMul, Nat.reduceLeDiff, Int.reduceEq, Int.reduceSub, Int.cast_ofNat_Int, s_resc, s_consR, m_load4, m_store4, s_res0, ↓s_skip, ↓s_ops, ↓s_dops, ↓s_seq, ↓s_cond, ↓s_block, ↓s_exit, ↓s_ret, ↓s_scope, ↓s_nil, ↓s_op, ↓s_opg, ↓s_wanted', ↓s_wantV, s_wantV, s_wantV0, beq_true, beq_false, ↓s_bindS, s_bindS, ↓s_bindE, s_bindE, s_bindE_ret, s_bindE_exit, s_bindE_iteN, s_norm, ↓s_condV, s_condV, s_block_ret, s_block_normal, s_block_exit, s_block_iteN, ↓s_getp, ↓s_getp0, ↓s_get, s_get0, ↓s_con, ↓s_fn, ↓s_os0, ↓s_os1, ↓s_list0, ↓s_list1, ↓s_mov, ↓s_pick, ↓s_pickE, s_pickE, ↓s_bin, ↓s_un, ↓s_minmax, ↓s_call, ↓s_callv, ↓s_callV, ↓s_ext, s_same, b_eql, b_neq, b_lss, b_leq, b_gtr, b_geq, b_add, b_sub, b_mul, b_eqlb, b_neqb, b_fnil, b_fnil', b_fnil2, b_fnil2', u_neg, u_not, m_two, s_end, s_end', s_end_iteN, s_res0, s_res1, s_tup1, s_tup2, ↓iteN_true, ↓iteN_false, iteN_true, iteN_false, Nat.zero_add, List.nil_append, List.append_nil, Nat.reduceEqDiff, reduceIte, decide_true, decide_false, Bool.not_true, Bool.not_false, List.getElem?_cons_zero, List.getElem?_cons_succ, Bool.false_eq_true, if_true, if_false, beq_self_eq_true]
        exact rfl, ⟨kl, (by (simp only [s_getp, s_getp0, Nat.reduceEqDiff, decide_false, decide_true, iteN_false, iteN_true, t0]; try rfl)), (by (simp only [s_getp, s_getp0, Nat.reduceEqDiff, decide_false, decide_true, iteN_false, iteN_true, t1]; try rfl)), (by (simp only [s_getp, s_getp0, Nat.reduceEqDiff, decide_false, decide_true, iteN_false, iteN_true, t2]; try rfl)), (by (simp only [s_getp, s_getp0, Nat.reduceEqDiff, decide_false, decide_true, iteN_false, iteN_true, t7]; try rfl)), by rw [en]; exact (by (simp only [s_getp, s_getp0, Nat.reduceEqDiff, decide_false, decide_true, iteN_false, iteN_true, t8]; try rfl)), by rw [e1]; exact (by (simp only [s_getp, s_getp0, Nat.reduceEqDiff, decide_false, decide_true, iteN_false, iteN_true, t10]; try rfl)), (by (simp only [s_getp, s_getp0, Nat.reduceEqDiff, decide_false, decide_true, iteN_false, iteN_true, t11]; try rfl)), by rw [e1]; exact g, eq⟩⟩
end Go.Eng
namespace Go.Eng
open Go
variable {E : Nat → Option Fn} {X : Orc}
set_option linter.unusedSimpArgs false
set_option linter.unusedVariables false
structure W2I (ops : List Rq) (v0 v8 : V) (f : Int) (h0 : H) (i : Nat) (T : Tr V) (h : H) : Prop where
  il : i ≤ ops.length
  t0 : evO T (.t 0) = v0
  t7 : evO T (.t 7) = .bool true
  t8 : evO T (.t 8) = v8
  t10 : evO T (.t 10) = .int .i64 f
  t14 : evO T (.t 14) = .int .i64 (i : Int)
  t15 : evO T (.t 15) = .int .i64 ((rB (ops.take i)).length : Int)
  hh : h = h0
theorem w2_round (Q : Orc) (m : Nat) (ops : List Rq) (hl : ops.length ≤ 60) (hs : ∀ o ∈ ops, ¬ 500 < o.l.length) (a : Option (Nat × Nat)) (v8 : V) (f : Int) (h0 : H) (row : RrS h0 ops a 2) (i : Nat) (T : Tr V) (h : H) (I : W2I ops (.slice a ops.length none 2) v8 f h0 i T h) :
    (∀ o, ops[i]? = some o → (f < 0 ∨ ((rB (ops.take (i + 1))).length : Int) ≤ f) → ∃ T' h', evC Q 127 m none L_purserlaw16_RecordRuns_1 ⟨T, [], h⟩ = some (.normal, ⟨T', [], h'⟩) ∧ W2I ops (.slice a ops.length none 2) v8 f h0 (i + 1) T' h') ∧
    ((∀ o, ops[i]? = some o → ¬ (f < 0 ∨ ((rB (ops.take (i + 1))).length : Int) ≤ f)) → ∃ T' h', evC Q 127 m none L_purserlaw16_RecordRuns_1 ⟨T, [], h⟩ = some (.exit 2, ⟨T', [], h'⟩) ∧ W2I ops (.slice a ops.length none 2) v8 f h0 i T' h') := by
  obtain ⟨il, t0, t7, t8, t10, t14, t15, hh⟩ := I
  subst hh
  have lb := rB_small (ops.take i) (fun o ho => hs o (List.mem_of_mem_take ho))
  rw [List.length_take] at lb
  have one : ∀ o, ops[i]? = some o → ∃ q off vs md b cb eb, a = some (q, off) ∧ h.get q = some (.cells vs md) ∧ vs[off + (i * 2 + 1)]? = some (.slice b o.l.length cb eb) ∧ i < ops.length ∧ (rB (ops.take (i + 1))).length = (rB (ops.take i)).length + (13 + o.l.length) := fun o ho => by
    obtain ⟨q, off, vs, md, b, cb, eb, e1, e2, hq, g, ld, sb, cg⟩ := rr_at row i o ho
    exact ⟨q, off, vs, md, b, cb, eb, e1, g, by rw [← Nat.add_assoc]; exact cg, (List.getElem?_eq_some_iff.1 ho).1, by rw [rB_succ ops i o ho, List.length_append, rqB_len]⟩
  generalize hR : (rB (ops.take i)).length = r at *
  constructor
  · intro o ho hc
    obtain ⟨q, off, vs, md, b, cb, eb, rfl, g, cg, hi, e1⟩ := one o ho
    have so := hs o (List.mem_of_getElem? ho)
    rw [e1] at hc
    have c0 : decide ((i : Int) < (ops.length : Int)) = true := decide_eq_true (by omega)
    have ix : idx (i : Int) ops.length = some i := idxn hi
    have w1 : wr .i64 ((r : Int) + 13) = ((r + 13 : Nat) : Int) := by rw [wr_i64 (by omega)]; omega
    have w2 : wr .i64 (((r + 13 : Nat) : Int) + (o.l.length : Int)) = ((r + (13 + o.l.length) : Nat) : Int) := by rw [wr_i64 (by omega)]; omega
    have w3 : wr .i64 ((i : Int) + 1) = ((i + 1 : Nat) : Int) := by rw [wr_i64 (by omega)]; omega
    have i1 : i + 1 ≤ ops.length := hi
    have dd : decide (f < 0) = true ∨ (decide (f < 0) = false ∧ decide (((r + (13 + o.l.length) : Nat) : Int) ≤ f) = true) := by
      by_cases c : f < 0
      · exact .inl (decide_eq_true c)
      · exact .inr ⟨decide_eq_false c, decide_eq_true (by omega)⟩
    rw [← e1] at w2 dd
    obtain ⟨r2, er2⟩ : ∃ x, (rB (ops.take (i + 1))).length = x := ⟨_, rfl⟩
    rw [er2] at w2 dd
    generalize o.l.length = w at *
    obtain ⟨n, en⟩ : ∃ n, ops.length = n := ⟨_, rfl⟩
    obtain ⟨r13, er⟩ : ∃ n, r + 13 = n := ⟨_, rfl⟩
    rw [en] at t0 c0 ix
    rw [er] at w1 w2
    obtain ⟨T', r, u0, u7, u8, u10, u14, u15⟩ : ∃ T', evC Q 127 m none L_purserlaw16_RecordRuns_1 ⟨T, [], h⟩ = some (.normal, ⟨T', [], h⟩) ∧ evO T' (.t 0) = .slice (some (q, off)) n none 2 ∧ evO T' (.t 7) = .bool true ∧ evO T' (.t 8) = v8 ∧ evO T' (.t 10) = .int .i64 f ∧ evO T' (.t 14) = .int .i64 ((i + 1 : Nat) : Int) ∧ evO T' (.t 15) = .int .i64 (r2 : Int) := by
      rcases dd with d1 | ⟨d1, d2⟩
      · exact ⟨_, by
          simp (config := {maxSteps := 2000000}) (disch := first | omega | (simp only [List.length_cons, List.length_nil, List.length_append, List.length_drop]; omega)) only [L_purserlaw16_RecordRuns_1, t0, t10, t14, t15, g, cg, c0, ix, w1, w2, w3, d1, ↓s_len, x_lenS, ↓b_xor32, ↓b_and32, ↓b_or32, ↓u_not32, b_xor32, b_and32, b_or32, u_not32, w32ad, ↓x_conv, x_convV, ↓x_fieldAddr, x_fieldV, ↓s_nilchk, x_nilchk, Nat.zero_add, Nat.add_zero, Nat.mul_one, ↓l_loop, ↓l_succ, ↓l_normal, l_normal, l_exit, l_ret, l_iteN, ↓h_put_get, ↓h_new_get, ↓h_del_get, h_next_put, h_next_new, h_next_del, Nat.add_assoc, Nat.add_eq_left, Nat.left_eq_add, Nat.add_left_cancel_iff, ↓s_load, m_load, ↓m_load1, m_load1, ↓m_st, m_stE, m_storeI, m_storeE, w_zero, w_succ, ↓s_alloc, ↓x_idxA, ↓x_idxS, x_idxAE, x_idxSE, x_addrE, x_idx, x_lenS, ↓s_len, ↓x_buildS, x_buildE, ↓x_P0, ↓x_P1, x_fill0, x_filli, x_fills, x_fillb, c_int, List.length_cons, List.length_nil, List.cons_append, List.drop_succ_cons, List.drop_zero, List.drop_nil, List.nil_append, Int.reduceAdd, Int.reduceToNat, Int.reduceLT, Int.reduceLE, Nat.reduceAdd, Nat.reduceMul, Nat.reduceLeDiff, Int.reduceEq, Int.reduceSub, Int.cast_ofNat_Int, s_resc, s_consR, m_load4, m_store4, s_res0, ↓s_skip, ↓s_ops, ↓s_dops, ↓s_seq, ↓s_cond, ↓s_block, ↓s_exit, ↓s_ret, ↓s_scope, ↓s_nil, ↓s_op, ↓s_opg, ↓s_wanted', ↓s_wantV, s_wantV, s_wantV0, beq_true, beq_false, ↓s_bindS, s_bindS, ↓s_bindE, s_bindE, s_bindE_ret, s_bindE_exit, s_bindE_iteN, s_norm, ↓s_condV, s_condV, s_block_ret, s_block_normal, s_block_exit, s_block_iteN, ↓s_getp, ↓s_getp0, ↓s_get, s_get0, ↓s_con, ↓s_fn, ↓s_os0, ↓s_os1, ↓s_list0, ↓s_list1, ↓s_mov, ↓s_pick, ↓s_pickE, s_pickE, ↓s_bin, ↓s_un, ↓s_minmax, ↓s_call, ↓s_callv, ↓s_callV, ↓s_ext, s_same, b_eql, b_neq, b_lss, b_leq, b_gtr, b_geq, b_add, b_sub, b_mul, b_eqlb, b_neqb, b_fnil, b_fnil', b_fnil2, b_fnil2', u_neg, u_not, m_two, s_end, s_end', s_end_iteN, s_res0, s_res1, s_tup1, s_tup2, ↓iteN_true, ↓iteN_false, iteN_true, iteN_false, Nat.zero_add, List.nil_append, List.append_nil, Nat.reduceEqDiff, reduceIte, decide_true, decide_false, Bool.not_true, Bool.not_false, List.getElem?_cons_zero, List.getElem?_cons_succ, Bool.false_eq_true, if_true, if_false, beq_self_eq_true]
          exact rfl, (by (simp only [s_getp, s_getp0, Nat.reduceEqDiff, decide_false, decide_true, iteN_false, iteN_true, t0]; try rfl)), (by (simp only [s_getp, s_getp0, Nat.reduceEqDiff, decide_false, decide_true, iteN_false, iteN_true, t7]; try rfl)), (by (simp only [s_getp, s_getp0, Nat.reduceEqDiff, decide_false, decide_true, iteN_false, iteN_true, t8]; try rfl)), (by (simp only [s_getp, s_getp0, Nat.reduceEqDiff, decide_false, decide_true, iteN_false, iteN_true, t10]; try rfl)), (by (simp only [s_getp, s_getp0, Nat.reduceEqDiff, decide_false, decide_true, iteN_false, iteN_true, t14]; try rfl)), (by (simp only [s_getp, s_getp0, Nat.reduceEqDiff, decide_false, decide_true, iteN_false, iteN_true, t15]; try rfl))⟩
      · exact ⟨_, by
          simp (config := {maxSteps := 2000000}) (disch := first | omega | (simp only [List.length_cons, List.length_nil, List.length_append, List.length_drop]; omega)) only [L_purserlaw16_RecordRuns_1, t0, t10, t14, t15, g, cg, c0, ix, w1, w2, w3, d1, d2, ↓s_len, x_lenS, ↓b_xor32, ↓b_and32, ↓b_or32, ↓u_not32, b_xor32, b_and32, b_or32, u_not32, w32ad, ↓x_conv, x_convV, ↓x_fieldAddr, x_fieldV, ↓s_nilchk, x_nilchk, Nat.zero_add, Nat.add_zero, Nat.mul_one, ↓l_loop, ↓l_succ, ↓l_normal, l_normal, l_exit, l_ret, l_iteN, ↓h_put_get, ↓h_new_get, ↓h_del_get, h_next_put, h_next_new, h_next_del, Nat.add_assoc, Nat.add_eq_left, Nat.left_eq_add, Nat.add_left_cancel_iff, ↓s_load, m_load, ↓m_load1, m_load1, ↓m_st, m_stE, m_storeI, m_storeE, w_zero, w_succ, ↓s_alloc, ↓x_idxA, ↓x_idxS, x_idxAE, x_idxSE, x_addrE, x_idx, x_lenS, ↓s_len, ↓x_buildS, x_buildE, ↓x_P0, ↓x_P1, x_fill0, x_filli, x_fills, x_fillb, c_int, List.length_cons, List.length_nil, List.cons_append, List.drop_succ_cons, List.drop_zero, List.drop_nil, List.nil_append, Int.reduceAdd, Int.reduceToNat, Int.reduceLT, Int.reduceLE, Nat.reduceAdd, Nat.reduceMul, Nat.reduceLeDiff, Int.reduceEq, Int.reduceSub, Int.cast_ofNat_Int, s_resc, s_consR, m_load4, m_store4, s_res0, ↓s_skip, ↓s_ops, ↓s_dops, ↓s_seq, ↓s_cond, ↓s_block, ↓s_exit, ↓s_ret, ↓s_scope, ↓s_nil, ↓s_op, ↓s_opg, ↓s_wanted', ↓s_wantV, s_wantV, s_wantV0, beq_true, beq_false, ↓s_bindS, s_bindS, ↓s_bindE, s_bindE, s_bindE_ret, s_bindE_exit, s_bindE_iteN, s_norm, ↓s_condV, s_condV, s_block_ret, s_block_normal, s_block_exit, s_block_iteN, ↓s_getp, ↓s_getp0, ↓s_get, s_get0, ↓s_con, ↓s_fn, ↓s_os0, ↓s_os1, ↓s_list0, ↓s_list1, ↓s_mov, ↓s_pick, ↓s_pickE, s_pickE, ↓s_bin, ↓s_un, ↓s_minmax, ↓s_call, ↓s_callv, ↓s_callV, ↓s_ext, s_same, b_eql, b_neq, b_lss, b_leq, b_gtr, b_geq, b_add, b_sub, b_mul, b_eqlb, b_neqb, b_fnil, b_fnil', b_fnil2, b_fnil2', u_neg, u_not, m_two, s_end, s_end', s_end_iteN, s_res0, s_res1, s_tup1, s_tup2, ↓iteN_true, ↓iteN_false, iteN_true, iteN_false, Nat.zero_add, List.nil_append, List.append_nil, Nat.reduceEqDiff, reduceIte, decide_true, decide_false, Bool.not_true, Bool.not_false, List.getElem?_cons_zero, List.getElem?_cons_succ, Bool.false_eq_true, if_true, if_false, beq_self_eq_true]
          exact rfl, (by (simp only [s_getp, s_getp0, Nat.reduceEqDiff, decide_false, decide_true, iteN_false, iteN_true, t0]; try rfl)), (by (simp only [s_getp, s_getp0, Nat.reduceEqDiff, decide_false, decide_true, iteN_false, iteN_true, t7]; try rfl)), (by (simp only [s_getp, s_getp0, Nat.reduceEqDiff, decide_false, decide_true, iteN_false, iteN_true, t8]; try rfl)), (by (simp only [s_getp, s_getp0, Nat.reduceEqDiff, decide_false, decide_true, iteN_false, iteN_true, t10]; try rfl)), (by (simp only [s_getp, s_getp0, Nat.reduceEqDiff, decide_false, decide_true, iteN_false, iteN_true, t14]; try rfl)), (by (simp only [s_getp, s_getp0, Nat.reduceEqDiff, decide_false, decide_true, iteN_false, iteN_true, t15]; try rfl))⟩
    exact ⟨T', h, r, i1, by rw [en]; exact u0, u7, u8, u10, u14, by rw [er2]; exact u15, rfl⟩
  · intro hc
    cases ho : ops[i]? with
    | none =>
      have hi : ops.length ≤ i := List.getElem?_eq_none_iff.1 ho
      have c0 : decide ((i : Int) < (ops.length : Int)) = false := decide_eq_false (by omega)
      obtain ⟨n, en⟩ : ∃ n, ops.length = n := ⟨_, rfl⟩
      rw [en] at t0 c0
      exact ⟨_, h, by
        simp (config := {maxSteps := 2000000}) (disch := first | omega | (simp only [List.length_cons, List.length_nil, List.length_append, List.length_drop]; omega)) only [L_purserlaw16_RecordRuns_1, t0, t10, t14, t15, c0, ↓s_len, x_lenS, ↓b_xor32, ↓b_and32, ↓b_or32, ↓u_not32, b_xor32, b_and32, b_or32, u_not32, w32ad, ↓x_conv, x_convV, ↓x_fieldAddr, x_fieldV, ↓s_nilchk, x_nilchk, Nat.zero_add, Nat.add_zero, Nat.mul_one, ↓l_loop, ↓l_succ, ↓l_normal, l_normal, l_exit, l_ret, l_iteN, ↓h_put_get, ↓h_new_get, ↓h_del_get, h_next_put, h_next_new, h_next_del, Nat.add_assoc, Nat.add_eq_left, Nat.left_eq_add, Nat.add_left_cancel_iff, ↓s_load, m_load, ↓m_load1, m_load1, ↓m_st, m_stE, m_storeI, m_storeE, w_zero, w_succ, ↓s_alloc, ↓x_idxA, ↓x_idxS, x_idxAE, x_idxSE, x_addrE, x_idx, x_lenS, ↓s_len, ↓x_buildS, x_buildE, ↓x_P0, ↓x_P1, x_fill0, x_filli, x_fills, x_fillb, c_int, List.length_cons, List.length_nil, List.cons_append, List.drop_succ_cons, List.drop_zero, List.drop_nil, List.nil_append, Int.reduceAdd, Int.reduceToNat, Int.reduceLT, Int.reduceLE, Nat.reduceAdd, Nat.reduceMul, Nat.reduceLeDiff, Int.reduceEq, Int.reduceSub, Int.cast_ofNat_Int, s_resc, s_consR, m_load4, m_store4, s_res0, ↓s_skip, ↓s_ops, ↓s_dops, ↓s_seq, ↓s_cond, ↓s_block, ↓s_exit, ↓s_ret, ↓s_scope, ↓s_nil, ↓s_op, ↓s_opg, ↓s_wanted', ↓s_wantV, s_wantV, s_wantV0, beq_true, beq_false, ↓s_bindS, s_bindS, ↓s_bindE, s_bindE, s_bindE_ret, s_bindE_exit, s_bindE_iteN, s_norm, ↓s_condV, s_condV, s_block_ret, s_block_normal, s_block_exit, s_block_iteN, ↓s_getp, ↓s_getp0, ↓s_get, s_get0, ↓s_con, ↓s_fn, ↓s_os0, ↓s_os1, ↓s_list0, ↓s_list1, ↓s_mov, ↓s_pick, ↓s_pickE, s_pickE, ↓s_bin, ↓s_un, ↓s_minmax, ↓s_call, ↓s_callv, ↓s_callV, ↓s_ext, s_same, b_eql, b_neq, b_lss, b_leq, b_gtr, b_geq, b_add, b_sub, b_mul, b_eqlb, b_neqb, b_fnil, b_fnil', b_fnil2, b_fnil2', u_neg, u_not, m_two, s_end, s_end', s_end_iteN, s_res0, s_res1, s_tup1, s_tup2, ↓iteN_true, ↓iteN_false, iteN_true, iteN_false, Nat.zero_add, List.nil_append, List.append_nil, Nat.reduceEqDiff, reduceIte, decide_true, decide_false, Bool.not_true, Bool.not_false, List.getElem?_cons_zero, List.getElem?_cons_succ, Bool.false_eq_true, if_true, if_false, beq_self_eq_true]
        exact rfl, il, by rw [en]; exact (by (simp only [s_getp, s_getp0, Nat.reduceEqDiff, decide_false, decide_true, iteN_false, iteN_true, t0]; try rfl)), (by (simp only [s_getp, s_getp0, Nat.reduceEqDiff, decide_false, decide_true, iteN_false, iteN_true, t7]; try rfl)), (by (simp only [s_getp, s_getp0, Nat.reduceEqDiff, decide_false, decide_true, iteN_false, iteN_true, t8]; try rfl)), (by (simp only [s_getp, s_getp0, Nat.reduceEqDiff, decide_false, decide_true, iteN_false, iteN_true, t10]; try rfl)), (by (simp only [s_getp, s_getp0, Nat.reduceEqDiff, decide_false, decide_true, iteN_false, iteN_true, t14]; try rfl)), by rw [hR]; exact (by (simp only [s_getp, s_getp0, Nat.reduceEqDiff, decide_false, decide_true, iteN_false, iteN_true, t15]; try rfl)), rfl⟩
    | some o =>
      obtain ⟨q, off, vs, md, b, cb, eb, rfl, g, cg, hi, e1⟩ := one o ho
      have so := hs o (List.mem_of_getElem? ho)
      have hc := hc o ho
      rw [e1] at hc
      have c0 : decide ((i : Int) < (ops.length : Int)) = true := decide_eq_true (by omega)
      have ix : idx (i : Int) ops.length = some i := idxn hi
      have w1 : wr .i64 ((r : Int) + 13) = ((r + 13 : Nat) : Int) := by rw [wr_i64 (by omega)]; omega
      have w2 : wr .i64 (((r + 13 : Nat) : Int) + (o.l.length : Int)) = ((r + (13 + o.l.length) : Nat) : Int) := by rw [wr_i64 (by omega)]; omega
      have d1 : decide (f < 0) = false := decide_eq_false (by omega)
      have d2 : decide (((r + (13 + o.l.length) : Nat) : Int) ≤ f) = false := decide_eq_false (by omega)
      clear hc e1
      generalize r + (13 + o.l.length) = r2 at *
      generalize o.l.length = w at *
      obtain ⟨n, en⟩ : ∃ n, ops.length = n := ⟨_, rfl⟩
      obtain ⟨r13, er⟩ : ∃ n, r + 13 = n := ⟨_, rfl⟩
      rw [en] at t0 c0 ix
      rw [er] at w1 w2
      exact ⟨_, h, by
        simp (config := {maxSteps := 2000000}) (disch := first | omega | (simp only [List.length_cons, List.length_nil, List.length_append, List.length_drop]; omega)) only [L_purserlaw16_RecordRuns_1, t0, t10, t14, t15, g, cg, c0, ix, w1, w2, d1, d2, ↓s_len, x_lenS, ↓b_xor32, ↓b_and32, ↓b_or32, ↓u_not32, b_xor32, b_and32, b_or32, u_not32, w32ad, ↓x_conv, x_convV, ↓x_fieldAddr, x_fieldV, ↓s_nilchk, x_nilchk, Nat.zero_add, Nat.add_zero, Nat.mul_one, ↓l_loop, ↓l_succ, ↓l_normal, l_normal, l_exit, l_ret, l_iteN, ↓h_put_get, ↓h_new_get, ↓h_del_get, h_next_put, h_next_new, h_next_del, Nat.add_assoc, Nat.add_eq_left, Nat.left_eq_add, Nat.add_left_cancel_iff, ↓s_load, m_load, ↓m_load1, m_load1, ↓m_st, m_stE, m_storeI, m_storeE, w_zero, w_succ, ↓s_alloc, ↓x_idxA, ↓x_idxS, x_idxAE, x_idxSE, x_addrE, x_idx, x_lenS, ↓s_len, ↓x_buildS, x_buildE, ↓x_P0, ↓x_P1, x_fill0, x_filli, x_fills, x_fillb, c_int, List.length_cons, List.length_nil, List.cons_append, List.drop_succ_cons, List.drop_zero, List.drop_nil, List.nil_append, Int.reduceAdd, Int.reduceToNat, Int.reduceLT, Int.reduceLE, Nat.reduceAdd, Nat.reduceMul, Nat.reduceLeDiff, Int.reduceEq, Int.reduceSub, Int.cast_ofNat_Int, s_resc, s_consR, m_load4, m_store4, s_res0, ↓s_skip, ↓s_ops, ↓s_dops, ↓s_seq, ↓s_cond, ↓s_block, ↓s_exit, ↓s_ret, ↓s_scope, ↓s_nil, ↓s_op, ↓s_opg, ↓s_wanted', ↓s_wantV, s_wantV, s_wantV0, beq_true, beq_false, ↓s_bindS, s_bindS, ↓s_bindE, s_bindE, s_bindE_ret, s_bindE_exit, s_bindE_iteN, s_norm, ↓s_condV, s_condV, s_block_ret, s_block_normal, s_block_exit, s_block_iteN, ↓s_getp, ↓s_getp0, ↓s_get, s_get0, ↓s_con, ↓s_fn, ↓s_os0, ↓s_os1, ↓s_list0, ↓s_list1, ↓s_mov, ↓s_pick, ↓s_pickE, s_pickE, ↓s_bin, ↓s_un, ↓s_minmax, ↓s_call, ↓s_callv, ↓s_callV, ↓s_ext, s_same, b_eql, b_neq, b_lss, b_leq, b_gtr, b_geq, b_add, b_sub, b_mul, b_eqlb, b_neqb, b_fnil, b_fnil', b_fnil2, b_fnil2', u_neg, u_not, m_two, s_end, s_end', s_end_iteN, s_res0, s_res1, s_tup1, s_tup2, ↓iteN_true, ↓iteN_false, iteN_true, iteN_false, Nat.zero_add, List.nil_append, List.append_nil, Nat.reduceEqDiff, reduceIte, decide_true, decide_false, Bool.not_true, Bool.not_false, List.getElem?_cons_zero, List.getElem?_cons_succ, Bool.false_eq_true, if_true, if_false, beq_self_eq_true]
        exact rfl, il, by rw [en]; exact (by (simp only [s_getp, s_getp0, Nat.reduceEqDiff, decide_false, decide_true, iteN_false, iteN_true, t0]; try rfl)), (by (simp only [s_getp, s_getp0, Nat.reduceEqDiff, decide_false, decide_true, iteN_false, iteN_true, t7]; try rfl)), (by (simp only [s_getp, s_getp0, Nat.reduceEqDiff, decide_false, decide_true, iteN_false, iteN_true, t8]; try rfl)), (by (simp only [s_getp, s_getp0, Nat.reduceEqDiff, decide_false, decide_true, iteN_false, iteN_true, t10]; try rfl)), (by (simp only [s_getp, s_getp0, Nat.reduceEqDiff, decide_false, decide_true, iteN_false, iteN_true, t14]; try rfl)), by rw [hR]; exact (by (simp only [s_getp, s_getp0, Nat.reduceEqDiff, decide_false, decide_true, iteN_false, iteN_true, t15]; try rfl)), rfl⟩
set_option maxRecDepth 100000 in
set_option maxHeartbeats 4000000 in
theorem law_RecordRuns (e : EnRd E) (es : EnSm E) (eg : E k_purserref16_Great = some f_purserref16_Great) (el : E k_purserlaw16_RecordRuns = some f_purserlaw16_RecordRuns) (M : Nat) (hM : 50200 < M) (ops : List Rq) (ok : ∀ o ∈ ops, o.ok) (hb : ops.length < 9223372036854775807) (x t : Nat) (hx : x < 65536) (ht : t < 4294967296) (a0 : Option (Nat × Nat)) (h : H) (oh : RqsH h a0 ops) :
    ∃ h2, callX E (alR k_purserlaw16_alive) (M + 26) (.fn k_purserlaw16_RecordRuns) [.slice a0 ops.length none 2, .int .u16 (x : Int), .int .u32 (t : Int)] h = some (.bool true, h2) := by
  rw [x_cfn el _ _ (Nat.le_of_ble_eq_true rfl) rfl]
  have xr : NoRd (alR k_purserlaw16_alive) := al_rd
  have xs : NoSm (alR k_purserlaw16_alive) := al_sm
  have al : ∀ h, callX E (alR k_purserlaw16_alive) (M + 25) (.fn k_purserlaw16_alive) [] h = some (.bool true, h) := fun h => x_known rfl
  have row : RrS h ops a0 2 := oh.row
  have gr := great_go (X := alR k_purserlaw16_alive) eg (fun _ _ => rfl) (M + 24) (by omega) ops hb a0 none 2 h row
  have y1 : decide ((0 : Int) < 1) = true := rfl
  have y0 : decide ((0 : Int) < 0) = false := rfl
  cases hgr : grR ops with
  | true =>
    rw [hgr, if_pos rfl] at gr
    generalize ops.length = L at *
    simp (config := {maxSteps := 2000000}) (disch := first | omega | rfl | (simp only [ofI_len, List.length_append, List.length_take, List.length_drop, List.length_cons, List.length_nil, List.length_replicate, List.length_set]; done) | (simp only [ofI_len, List.length_append, List.length_take, List.length_drop, List.length_cons, List.length_nil, List.length_replicate, List.length_set]; omega)) only [al, gr, y1, ↓s_len, x_lenS, ↓b_xor32, ↓b_and32, ↓b_or32, ↓u_not32, b_xor32, b_and32, b_or32, u_not32, w32ad, ↓x_conv, x_convV, ↓x_fieldAddr, x_fieldV, ↓s_nilchk, x_nilchk, Nat.zero_add, Nat.add_zero, Nat.mul_one, ↓s_evD, ↓s_dnil, ↓s_dL, ↓s_dLg, ↓s_dR, ↓s_dRg, ↓s_dRj, ↓s_dRjg, ↓s_dB, ↓s_dBg, ↓s_dAlloc, ↓s_bindD, s_bindD, s_finD, s_finDx, s_addP0, s_addP1, s_addB, s_lookP, ↓s_bump0, ↓s_bump_get, s_bump_next, s_ok0, ↓s_ok1, s_okR0, ↓s_okR1, ↓s_okE, s_okE, s_okE1, s_nth0, s_nthS, Nat.add_zero, Bool.and_self, Bool.and_true, Bool.true_and, ↓l_loop, ↓l_succ, ↓l_normal, l_normal, l_exit, l_ret, l_iteN, ↓h_put_get, ↓h_new_get, ↓h_del_get, h_next_put, h_next_new, h_next_del, Nat.add_assoc, Nat.add_eq_left, Nat.left_eq_add, Nat.add_left_cancel_iff, ↓s_load, m_load, ↓m_load1, m_load1, ↓m_st, m_stE, m_storeI, m_storeE, w_zero, w_succ, ↓s_alloc, ↓x_idxA, ↓x_idxS, x_idxAE, x_idxSE, x_addrE, x_idx, x_lenS, ↓s_len, ↓x_buildS, x_buildE, ↓x_P0, ↓x_P1, x_fill0, x_filli, x_fills, x_fillb, c_int, List.length_cons, List.length_nil, List.cons_append, List.drop_succ_cons, List.drop_zero, List.drop_nil, List.nil_append, Int.reduceAdd, Int.reduceToNat, Int.reduceLT, Int.reduceLE, Nat.reduceAdd, Nat.reduceMul, Nat.reduceLeDiff, Int.reduceEq, Int.reduceSub, Int.cast_ofNat_Int, s_resc, s_consR, m_load4, m_store4, s_res0, ↓s_skip, ↓s_ops, ↓s_dops, ↓s_seq, ↓s_cond, ↓s_block, ↓s_exit, ↓s_ret, ↓s_scope, ↓s_nil, ↓s_op, ↓s_opg, ↓s_wanted', ↓s_wantV, s_wantV, s_wantV0, beq_true, beq_false, ↓s_bindS, s_bindS, ↓s_bindE, s_bindE, s_bindE_ret, s_bindE_exit, s_bindE_iteN, s_norm, ↓s_condV, s_condV, s_block_ret, s_block_normal, s_block_exit, s_block_iteN, ↓s_getp, ↓s_getp0, ↓s_get, s_get0, ↓s_con, ↓s_fn, ↓s_os0, ↓s_os1, ↓s_list0, ↓s_list1, ↓s_mov, ↓s_pick, ↓s_pickE, s_pickE, ↓s_bin, ↓s_un, ↓s_minmax, ↓s_call, ↓s_callv, ↓s_callV, ↓s_ext, s_same, b_eql, b_neq, b_lss, b_leq, b_gtr, b_geq, b_add, b_sub, b_mul, b_eqlb, b_neqb, b_fnil, b_fnil', b_fnil2, b_fnil2', u_neg, u_not, m_two, s_end, s_end', s_end_iteN, s_res0, s_res1, s_tup1, s_tup2, ↓iteN_true, ↓iteN_false, iteN_true, iteN_false, Nat.zero_add, List.nil_append, List.append_nil, Nat.reduceEqDiff, reduceIte, decide_true, decide_false, Bool.not_true, Bool.not_false, List.getElem?_cons_zero, List.getElem?_cons_succ, Bool.false_eq_true, if_true, if_false, beq_self_eq_true]
    exact ⟨_, rfl⟩
  | false =>
  rw [hgr, if_neg (by simp)] at gr
  unfold grR at hgr
  rw [Bool.or_eq_false_iff] at hgr
  have hl : ops.length ≤ 60 := by have := of_decide_eq_false hgr.1; omega
  have hs : ∀ o ∈ ops, ¬ 500 < o.l.length := fun o ho => by have := List.any_eq_false.1 hgr.2 o ho; simpa using this
  clear hgr
  have lB := rB_small ops hs
  obtain ⟨h1, a2, c2, e2, r1, nw1⟩ := encode_go e.en xr.en e.ck xr.ck e.hd xr.hd e.cm xr.cm (M + 3) (by omega) ops (by omega) ok (fun o ho => by have := hs o ho; omega) (by omega) a0 none 2 h row
  have z0 : decide ((0 : Int) = 0) = true := rfl
  have z1 : decide ((160 : Int) = 0) = false := rfl
  replace r1 : callX E (alR k_purserlaw16_alive) (M + 25) (.fn k_record_Encode) [.slice a0 ops.length none 2] h = _ := r1
  unfold enR at r1 nw1
  cases hall : ops.all rqOk with
  | false =>
    rw [hall, if_neg (by simp)] at r1
    simp only [List.length_nil] at r1
    generalize ops.length = L at *
    simp (config := {maxSteps := 2000000}) (disch := first | omega | rfl | (simp only [ofI_len, List.length_append, List.length_take, List.length_drop, List.length_cons, List.length_nil, List.length_replicate, List.length_set]; done) | (simp only [ofI_len, List.length_append, List.length_take, List.length_drop, List.length_cons, List.length_nil, List.length_replicate, List.length_set]; omega)) only [al, gr, y0, r1, z1, ↓s_len, x_lenS, ↓b_xor32, ↓b_and32, ↓b_or32, ↓u_not32, b_xor32, b_and32, b_or32, u_not32, w32ad, ↓x_conv, x_convV, ↓x_fieldAddr, x_fieldV, ↓s_nilchk, x_nilchk, Nat.zero_add, Nat.add_zero, Nat.mul_one, ↓s_evD, ↓s_dnil, ↓s_dL, ↓s_dLg, ↓s_dR, ↓s_dRg, ↓s_dRj, ↓s_dRjg, ↓s_dB, ↓s_dBg, ↓s_dAlloc, ↓s_bindD, s_bindD, s_finD, s_finDx, s_addP0, s_addP1, s_addB, s_lookP, ↓s_bump0, ↓s_bump_get, s_bump_next, s_ok0, ↓s_ok1, s_okR0, ↓s_okR1, ↓s_okE, s_okE, s_okE1, s_nth0, s_nthS, Nat.add_zero, Bool.and_self, Bool.and_true, Bool.true_and, ↓l_loop, ↓l_succ, ↓l_normal, l_normal, l_exit, l_ret, l_iteN, ↓h_put_get, ↓h_new_get, ↓h_del_get, h_next_put, h_next_new, h_next_del, Nat.add_assoc, Nat.add_eq_left, Nat.left_eq_add, Nat.add_left_cancel_iff, ↓s_load, m_load, ↓m_load1, m_load1, ↓m_st, m_stE, m_storeI, m_storeE, w_zero, w_succ, ↓s_alloc, ↓x_idxA, ↓x_idxS, x_idxAE, x_idxSE, x_addrE, x_idx, x_lenS, ↓s_len, ↓x_buildS, x_buildE, ↓x_P0, ↓x_P1, x_fill0, x_filli, x_fills, x_fillb, c_int, List.length_cons, List.length_nil, List.cons_append, List.drop_succ_cons, List.drop_zero, List.drop_nil, List.nil_append, Int.reduceAdd, Int.reduceToNat, Int.reduceLT, Int.reduceLE, Nat.reduceAdd, Nat.reduceMul, Nat.reduceLeDiff, Int.reduceEq, Int.reduceSub, Int.cast_ofNat_Int, s_resc, s_consR, m_load4, m_store4, s_res0, ↓s_skip, ↓s_ops, ↓s_dops, ↓s_seq, ↓s_cond, ↓s_block, ↓s_exit, ↓s_ret, ↓s_scope, ↓s_nil, ↓s_op, ↓s_opg, ↓s_wanted', ↓s_wantV, s_wantV, s_wantV0, beq_true, beq_false, ↓s_bindS, s_bindS, ↓s_bindE, s_bindE, s_bindE_ret, s_bindE_exit, s_bindE_iteN, s_norm, ↓s_condV, s_condV, s_block_ret, s_block_normal, s_block_exit, s_block_iteN, ↓s_getp, ↓s_getp0, ↓s_get, s_get0, ↓s_con, ↓s_fn, ↓s_os0, ↓s_os1, ↓s_list0, ↓s_list1, ↓s_mov, ↓s_pick, ↓s_pickE, s_pickE, ↓s_bin, ↓s_un, ↓s_minmax, ↓s_call, ↓s_callv, ↓s_callV, ↓s_ext, s_same, b_eql, b_neq, b_lss, b_leq, b_gtr, b_geq, b_add, b_sub, b_mul, b_eqlb, b_neqb, b_fnil, b_fnil', b_fnil2, b_fnil2', u_neg, u_not, m_two, s_end, s_end', s_end_iteN, s_res0, s_res1, s_tup1, s_tup2, ↓iteN_true, ↓iteN_false, iteN_true, iteN_false, Nat.zero_add, List.nil_append, List.append_nil, Nat.reduceEqDiff, reduceIte, decide_true, decide_false, Bool.not_true, Bool.not_false, List.getElem?_cons_zero, List.getElem?_cons_succ, Bool.false_eq_true, if_true, if_false, beq_self_eq_true]
    exact ⟨_, rfl⟩
  | true =>
  rw [hall, if_pos rfl] at r1 nw1
  simp only at r1 nw1
  have hv := List.all_eq_true.1 hall
  have bw := rB_byt ops hv ok
  have wb1 := nw1.wb
  by_cases hn : rB ops = []
  · rw [hn, List.length_nil] at r1
    have z2 : decide (((0 : Nat) : Int) = 0) = true := rfl
    generalize ops.length = L at *
    simp (config := {maxSteps := 2000000}) (disch := first | omega | rfl | (simp only [ofI_len, List.length_append, List.length_take, List.length_drop, List.length_cons, List.length_nil, List.length_replicate, List.length_set]; done) | (simp only [ofI_len, List.length_append, List.length_take, List.length_drop, List.length_cons, List.length_nil, List.length_replicate, List.length_set]; omega)) only [al, gr, y0, r1, z0, z2, ↓s_len, x_lenS, ↓b_xor32, ↓b_and32, ↓b_or32, ↓u_not32, b_xor32, b_and32, b_or32, u_not32, w32ad, ↓x_conv, x_convV, ↓x_fieldAddr, x_fieldV, ↓s_nilchk, x_nilchk, Nat.zero_add, Nat.add_zero, Nat.mul_one, ↓s_evD, ↓s_dnil, ↓s_dL, ↓s_dLg, ↓s_dR, ↓s_dRg, ↓s_dRj, ↓s_dRjg, ↓s_dB, ↓s_dBg, ↓s_dAlloc, ↓s_bindD, s_bindD, s_finD, s_finDx, s_addP0, s_addP1, s_addB, s_lookP, ↓s_bump0, ↓s_bump_get, s_bump_next, s_ok0, ↓s_ok1, s_okR0, ↓s_okR1, ↓s_okE, s_okE, s_okE1, s_nth0, s_nthS, Nat.add_zero, Bool.and_self, Bool.and_true, Bool.true_and, ↓l_loop, ↓l_succ, ↓l_normal, l_normal, l_exit, l_ret, l_iteN, ↓h_put_get, ↓h_new_get, ↓h_del_get, h_next_put, h_next_new, h_next_del, Nat.add_assoc, Nat.add_eq_left, Nat.left_eq_add, Nat.add_left_cancel_iff, ↓s_load, m_load, ↓m_load1, m_load1, ↓m_st, m_stE, m_storeI, m_storeE, w_zero, w_succ, ↓s_alloc, ↓x_idxA, ↓x_idxS, x_idxAE, x_idxSE, x_addrE, x_idx, x_lenS, ↓s_len, ↓x_buildS, x_buildE, ↓x_P0, ↓x_P1, x_fill0, x_filli, x_fills, x_fillb, c_int, List.length_cons, List.length_nil, List.cons_append, List.drop_succ_cons, List.drop_zero, List.drop_nil, List.nil_append, Int.reduceAdd, Int.reduceToNat, Int.reduceLT, Int.reduceLE, Nat.reduceAdd, Nat.reduceMul, Nat.reduceLeDiff, Int.reduceEq, Int.reduceSub, Int.cast_ofNat_Int, s_resc, s_consR, m_load4, m_store4, s_res0, ↓s_skip, ↓s_ops, ↓s_dops, ↓s_seq, ↓s_cond, ↓s_block, ↓s_exit, ↓s_ret, ↓s_scope, ↓s_nil, ↓s_op, ↓s_opg, ↓s_wanted', ↓s_wantV, s_wantV, s_wantV0, beq_true, beq_false, ↓s_bindS, s_bindS, ↓s_bindE, s_bindE, s_bindE_ret, s_bindE_exit, s_bindE_iteN, s_norm, ↓s_condV, s_condV, s_block_ret, s_block_normal, s_block_exit, s_block_iteN, ↓s_getp, ↓s_getp0, ↓s_get, s_get0, ↓s_con, ↓s_fn, ↓s_os0, ↓s_os1, ↓s_list0, ↓s_list1, ↓s_mov, ↓s_pick, ↓s_pickE, s_pickE, ↓s_bin, ↓s_un, ↓s_minmax, ↓s_call, ↓s_callv, ↓s_callV, ↓s_ext, s_same, b_eql, b_neq, b_lss, b_leq, b_gtr, b_geq, b_add, b_sub, b_mul, b_eqlb, b_neqb, b_fnil, b_fnil', b_fnil2, b_fnil2', u_neg, u_not, m_two, s_end, s_end', s_end_iteN, s_res0, s_res1, s_tup1, s_tup2, ↓iteN_true, ↓iteN_false, iteN_true, iteN_false, Nat.zero_add, List.nil_append, List.append_nil, Nat.reduceEqDiff, reduceIte, decide_true, decide_false, Bool.not_true, Bool.not_false, List.getElem?_cons_zero, List.getElem?_cons_succ, Bool.false_eq_true, if_true, if_false, beq_self_eq_true]
    exact ⟨_, rfl⟩
  have hpos : 0 < (rB ops).length := List.length_pos_iff.2 hn
  rcases wb1 with ⟨w1, _⟩ | ⟨_, q, md, rfl, rfl, rfl, gq, hmd, hq⟩
  · exact absurd w1 hn
  have ge := nw1.ge q 0 rfl
  have z2 : decide (((rB ops).length : Int) = 0) = false := decide_eq_false (by omega)
  obtain ⟨bc, lc, od, nd, fd⟩ := tu_ok ((x % (rB ops).length)) t (rB ops) bw 4
  obtain ⟨first, efi⟩ : ∃ f, (tuN (x % (rB ops).length) t (rB ops) 4).2 = f := ⟨_, rfl⟩
  obtain ⟨cur, ecu⟩ : ∃ f, (tuN (x % (rB ops).length) t (rB ops) 4).1 = f := ⟨_, rfl⟩
  rw [ecu] at bc lc od nd fd
  rw [efi] at nd fd
  -- which records are left
  obtain ⟨w, hw, nw, bw'⟩ := first_not (fun i => i < ops.length ∧ (fI first < 0 ∨ ((rB (ops.take (i + 1))).length : Int) ≤ fI first)) ops.length (by omega)
  have lw : (ops.take w).length = w := by rw [List.length_take]; omega
  have hst : ∀ o, ops[w]? = some o → ¬ (fI first < 0 ∨ ((rB (ops.take (w + 1))).length : Int) ≤ fI first) := fun o ho hc => nw ⟨(List.getElem?_eq_some_iff.1 ho).1, hc⟩
  have rd : rdV cur.length cur = (ops.take w, (rB (ops.take w)).length) := by
    cases hf : first with
    | none =>
      have ew : w = ops.length := by
        apply Nat.le_antisymm hw
        apply Nat.le_of_not_lt
        intro hlt
        exact nw ⟨hlt, .inl (by rw [hf]; decide)⟩
      rw [nd hf, ew, List.take_length]
      have j := rd_join ops hv [] rfl (rB ops).length (by have := rB_ge ops; omega)
      rw [List.append_nil] at j
      exact j
    | some f =>
      obtain ⟨f1, f2, f3, f4, f5⟩ := fd f hf
      have ef : fI first = (f : Int) := by rw [hf]; rfl
      refine rd_turn ops hv ok cur bc lc _ f w od f4 f5 hw ?_ (fun o ho => ?_) _ (by have := rB_ge ops; omega)
      · cases w with
        | zero => simp [rB]
        | succ w =>
          have := (bw' w (by omega)).2
          rw [ef] at this; omega
      · have := hst o ho
        rw [ef] at this; omega
  have fin : ∀ T, RuI (rB ops) (x % (rB ops).length) x t q md (.slice a0 ops.length none 2) none h1 0 T h1 → ∃ h2, fnEnd [.tmp 6] (bindE (blockE 0 (loopN (evC (callX E (alR k_purserlaw16_alive) (M + 25)) 127 (M + 25) none L_purserlaw16_RecordRuns_0) (M + 25) ⟨T, [], h1⟩)) (evC (callX E (alR k_purserlaw16_alive) (M + 25)) 127 (M + 25) none R_purserlaw16_RecordRuns_1)) = some (.bool true, h2) := by
    intro T I
    obtain ⟨T', h2, rr, J⟩ := loop_go (f := evC (callX E (alR k_purserlaw16_alive) (M + 25)) 127 (M + 25) none L_purserlaw16_RecordRuns_0) (RuI (rB ops) (x % (rB ops).length) x t q md (.slice a0 ops.length none 2) none h1) 4 (.exit 0) (by intro h; cases h) (RuI (rB ops) (x % (rB ops).length) x t q md (.slice a0 ops.length none 2) none h1 4) (fun i T h' hi I => ru_step _ _ (rB ops) bw hpos (by omega) x t q hx ht md hmd _ none h1 i hi T h' I) (fun T h' I => by
      obtain ⟨_, t0, t1, t2, t7, t8, t10, t11, g, eq⟩ := I
      have c0 : decide (((4 : Nat) : Int) < 4) = false := rfl
      exact ⟨_, _, by
        simp (config := {maxSteps := 2000000}) (disch := first | omega | (simp only [List.length_cons, List.length_nil, List.length_append, List.length_drop]; omega)) only [L_purserlaw16_RecordRuns_0, t11, c0, ↓b_xor32, ↓b_and32, ↓b_or32, ↓u_not32, b_xor32, b_and32, b_or32, u_not32, w32ad, ↓x_conv, x_convV, ↓x_fieldAddr, x_fieldV, ↓s_nilchk, x_nilchk, Nat.zero_add, Nat.add_zero, Nat.mul_one, ↓l_loop, ↓l_succ, ↓l_normal, l_normal, l_exit, l_ret, l_iteN, ↓h_put_get, ↓h_new_get, ↓h_del_get, h_next_put, h_next_new, h_next_del, Nat.add_assoc, Nat.add_eq_left, Nat.left_eq_add, Nat.add_left_cancel_iff, ↓s_load, m_load, ↓m_load1, m_load1, ↓m_st, m_stE, m_storeI, m_storeE, w_zero, w_succ, ↓s_alloc, ↓x_idxA, ↓x_idxS, x_idxAE, x_idxSE, x_addrE, x_idx, x_lenS, ↓s_len, ↓x_buildS, x_buildE, ↓x_P0, ↓x_P1, x_fill0, x_filli, x_fills, x_fillb, c_int, List.length_cons, List.length_nil, List.cons_append, List.drop_succ_cons, List.drop_zero, List.drop_nil, List.nil_append, Int.reduceAdd, Int.reduceToNat, Int.reduceLT, Int.reduceLE, Nat.reduceAdd, Nat.reduceMul, Nat.reduceLeDiff, Int.reduceEq, Int.reduceSub, Int.cast_ofNat_Int, s_resc, s_consR, m_load4, m_store4, s_res0, ↓s_skip, ↓s_ops, ↓s_dops, ↓s_seq, ↓s_cond, ↓s_block, ↓s_exit, ↓s_ret, ↓s_scope, ↓s_nil, ↓s_op, ↓s_opg, ↓s_wanted', ↓s_wantV, s_wantV, s_wantV0, beq_true, beq_false, ↓s_bindS, s_bindS, ↓s_bindE, s_bindE, s_bindE_ret, s_bindE_exit, s_bindE_iteN, s_norm, ↓s_condV, s_condV, s_block_ret, s_block_normal, s_block_exit, s_block_iteN, ↓s_getp, ↓s_getp0, ↓s_get, s_get0, ↓s_con, ↓s_fn, ↓s_os0, ↓s_os1, ↓s_list0, ↓s_list1, ↓s_mov, ↓s_pick, ↓s_pickE, s_pickE, ↓s_bin, ↓s_un, ↓s_minmax, ↓s_call, ↓s_callv, ↓s_callV, ↓s_ext, s_same, b_eql, b_neq, b_lss, b_leq, b_gtr, b_geq, b_add, b_sub, b_mul, b_eqlb, b_neqb, b_fnil, b_fnil', b_fnil2, b_fnil2', u_neg, u_not, m_two, s_end, s_end', s_end_iteN, s_res0, s_res1, s_tup1, s_tup2, ↓iteN_true, ↓iteN_false, iteN_true, iteN_false, Nat.zero_add, List.nil_append, List.append_nil, Nat.reduceEqDiff, reduceIte, decide_true, decide_false, Bool.not_true, Bool.not_false, List.getElem?_cons_zero, List.getElem?_cons_succ, Bool.false_eq_true, if_true, if_false, beq_self_eq_true]
        exact rfl, ⟨by omega, (by (simp only [s_getp, s_getp0, Nat.reduceEqDiff, decide_false, decide_true, iteN_false, iteN_true, t0]; try rfl)), (by (simp only [s_getp, s_getp0, Nat.reduceEqDiff, decide_false, decide_true, iteN_false, iteN_true, t1]; try rfl)), (by (simp only [s_getp, s_getp0, Nat.reduceEqDiff, decide_false, decide_true, iteN_false, iteN_true, t2]; try rfl)), (by (simp only [s_getp, s_getp0, Nat.reduceEqDiff, decide_false, decide_true, iteN_false, iteN_true, t7]; try rfl)), (by (simp only [s_getp, s_getp0, Nat.reduceEqDiff, decide_false, decide_true, iteN_false, iteN_true, t8]; try rfl)), (by (simp only [s_getp, s_getp0, Nat.reduceEqDiff, decide_false, decide_true, iteN_false, iteN_true, t10]; try rfl)), (by (simp only [s_getp, s_getp0, Nat.reduceEqDiff, decide_false, decide_true, iteN_false, iteN_true, t11]; try rfl)), g, eq⟩⟩) 4 0 (by omega) (M + 25) (by omega) T h1 I
    rw [rr]
    obtain ⟨_, t0, t1, t2, t7, t8, t10, t11, g2, eq⟩ := J
    rw [efi] at t10
    rw [ecu] at g2
    have k2 : Kp h h2 := ⟨by rw [eq.1]; exact nw1.kp.1, fun j hj => by rw [eq.2 j (by omega), nw1.kp.2 j hj]⟩
    have src2 : SrcH h2 (some (q, 0)) 1 cur := .inr ⟨q, 0, _, md, rfl, rfl, by rw [eq.1]; exact hq, g2, by rw [ofI_len]; omega, by rw [List.drop_zero]; exact List.take_of_length_le (by rw [ofI_len]; exact Nat.le_refl _)⟩
    obtain ⟨h3, a3, c3, e3, r3, k3, row3⟩ := all_ok e xr M (by omega) cur bc (by omega) 0 (by omega) (some (q, 0)) none 1 (SB.one _ _) h2 src2
    rw [List.drop_zero, rd, Nat.zero_add] at r3
    rw [List.drop_zero, rd] at row3
    simp only at r3 row3
    rw [lw, lc] at r3
    replace r3 : callX E (alR k_purserlaw16_alive) (M + 25) (.fn k_record_All) [.slice (some (q, 0)) (rB ops).length none 1, .int .i64 0] h2 = _ := r3
    have row' := row.mono k2
    have fin2 : ∀ T, W2I ops (.slice a0 ops.length none 2) (.slice (some (q, 0)) (rB ops).length none 1) (fI first) h2 0 T h2 → ∃ h2_1, fnEnd [.tmp 6] (bindE (blockE 2 (loopN (evC (callX E (alR k_purserlaw16_alive) (M + 25)) 127 (M + 25) none L_purserlaw16_RecordRuns_1) (M + 25) ⟨T, [], h2⟩)) (evC (callX E (alR k_purserlaw16_alive) (M + 25)) 127 (M + 25) none R_purserlaw16_RecordRuns_0)) = some (.bool true, h2_1) := by
      intro T I
      obtain ⟨T', h', rr, J⟩ := loop_go (f := evC (callX E (alR k_purserlaw16_alive) (M + 25)) 127 (M + 25) none L_purserlaw16_RecordRuns_1) (W2I ops (.slice a0 ops.length none 2) (.slice (some (q, 0)) (rB ops).length none 1) (fI first) h2) w (.exit 2) (by intro h; cases h) (W2I ops (.slice a0 ops.length none 2) (.slice (some (q, 0)) (rB ops).length none 1) (fI first) h2 w) (fun i T h' hi I => (w2_round _ _ ops hl hs a0 _ _ h2 row' i T h' I).1 _ (List.getElem?_eq_getElem (by omega)) (bw' i hi).2) (fun T h' I => (w2_round _ _ ops hl hs a0 _ _ h2 row' w T h' I).2 hst) w 0 (by omega) (M + 25) (by omega) T h2 I
      rw [rr]
      obtain ⟨il, t0, t7, t8, t10, t14, t15, hh⟩ := J
      subst hh
      have okw : ∀ o ∈ ops.take w, o.ok := fun o ho => ok o (List.mem_of_mem_take ho)
      obtain ⟨h4, r4, k4⟩ := rsame_go es xs (M + 20) (ops.take w) (ops.take w) (by omega) (by omega) (by omega) okw okw a3 a0 c3 none e3 2 h3 row3.row ((row'.mono k3).take w)
      rw [decide_eq_true rfl, lw] at r4
      replace r4 : callX E (alR k_purserlaw16_alive) (M + 25) (.fn k_record_Same) [.slice a3 w c3 e3, .slice a0 w none 2] h3 = _ := r4
      have sl2 := sl2_hiA ops.length w a0 .i64 hw
      have q3 : decide (((rB (ops.take w)).length : Int) = ((rB (ops.take w)).length : Int)) = true := decide_eq_true rfl
      generalize (rB (ops.take w)).length = rw_ at *
      generalize (rB ops).length = sl at *
      generalize ops.length = L at *
      simp (config := {maxSteps := 2000000}) (disch := first | omega | rfl | (simp only [ofI_len, List.length_append, List.length_take, List.length_drop, List.length_cons, List.length_nil, List.length_replicate, List.length_set]; done) | (simp only [ofI_len, List.length_append, List.length_take, List.length_drop, List.length_cons, List.length_nil, List.length_replicate, List.length_set]; omega)) only [R_purserlaw16_RecordRuns_0, t0, t7, t8, t10, t14, t15, r3, r4, sl2, q3, ↓x_slcS, x_M0, x_M1, ↓s_len, x_lenS, ↓b_xor32, ↓b_and32, ↓b_or32, ↓u_not32, b_xor32, b_and32, b_or32, u_not32, w32ad, ↓x_conv, x_convV, ↓x_fieldAddr, x_fieldV, ↓s_nilchk, x_nilchk, Nat.zero_add, Nat.add_zero, Nat.mul_one, ↓s_evD, ↓s_dnil, ↓s_dL, ↓s_dLg, ↓s_dR, ↓s_dRg, ↓s_dRj, ↓s_dRjg, ↓s_dB, ↓s_dBg, ↓s_dAlloc, ↓s_bindD, s_bindD, s_finD, s_finDx, s_addP0, s_addP1, s_addB, s_lookP, ↓s_bump0, ↓s_bump_get, s_bump_next, s_ok0, ↓s_ok1, s_okR0, ↓s_okR1, ↓s_okE, s_okE, s_okE1, s_nth0, s_nthS, Nat.add_zero, Bool.and_self, Bool.and_true, Bool.true_and, ↓l_loop, ↓l_succ, ↓l_normal, l_normal, l_exit, l_ret, l_iteN, ↓h_put_get, ↓h_new_get, ↓h_del_get, h_next_put, h_next_new, h_next_del, Nat.add_assoc, Nat.add_eq_left, Nat.left_eq_add, Nat.add_left_cancel_iff, ↓s_load, m_load, ↓m_load1, m_load1, ↓m_st, m_stE, m_storeI, m_storeE, w_zero, w_succ, ↓s_alloc, ↓x_idxA, ↓x_idxS, x_idxAE, x_idxSE, x_addrE, x_idx, x_lenS, ↓s_len, ↓x_buildS, x_buildE, ↓x_P0, ↓x_P1, x_fill0, x_filli, x_fills, x_fillb, c_int, List.length_cons, List.length_nil, List.cons_append, List.drop_succ_cons, List.drop_zero, List.drop_nil, List.nil_append, Int.reduceAdd, Int.reduceToNat, Int.reduceLT, Int.reduceLE, Nat.reduceAdd, Nat.reduceMul, Nat.reduceLeDiff, Int.reduceEq, Int.reduceSub, Int.cast_ofNat_Int, s_resc, s_consR, m_load4, m_store4, s_res0, ↓s_skip, ↓s_ops, ↓s_dops, ↓s_seq, ↓s_cond, ↓s_block, ↓s_exit, ↓s_ret, ↓s_scope, ↓s_nil, ↓s_op, ↓s_opg, ↓s_wanted', ↓s_wantV, s_wantV, s_wantV0, beq_true, beq_false, ↓s_bindS, s_bindS, ↓s_bindE, s_bindE, s_bindE_ret, s_bindE_exit, s_bindE_iteN, s_norm, ↓s_condV, s_condV, s_block_ret, s_block_normal, s_block_exit, s_block_iteN, ↓s_getp, ↓s_getp0, ↓s_get, s_get0, ↓s_con, ↓s_fn, ↓s_os0, ↓s_os1, ↓s_list0, ↓s_list1, ↓s_mov, ↓s_pick, ↓s_pickE, s_pickE, ↓s_bin, ↓s_un, ↓s_minmax, ↓s_call, ↓s_callv, ↓s_callV, ↓s_ext, s_same, b_eql, b_neq, b_lss, b_leq, b_gtr, b_geq, b_add, b_sub, b_mul, b_eqlb, b_neqb, b_fnil, b_fnil', b_fnil2, b_fnil2', u_neg, u_not, m_two, s_end, s_end', s_end_iteN, s_res0, s_res1, s_tup1, s_tup2, ↓iteN_true, ↓iteN_false, iteN_true, iteN_false, Nat.zero_add, List.nil_append, List.append_nil, Nat.reduceEqDiff, reduceIte, decide_true, decide_false, Bool.not_true, Bool.not_false, List.getElem?_cons_zero, List.getElem?_cons_succ, Bool.false_eq_true, if_true, if_false, beq_self_eq_true]
      exact ⟨_, rfl⟩
    obtain ⟨R, eR⟩ : ∃ R, R_purserlaw16_RecordRuns_0 = R := ⟨_, rfl⟩
    obtain ⟨Lo, eL⟩ : ∃ R, L_purserlaw16_RecordRuns_1 = R := ⟨_, rfl⟩
    rw [eR, eL] at fin2
    simp (config := {maxSteps := 2000000}) (disch := first | omega | rfl | (simp only [ofI_len, List.length_append, List.length_take, List.length_drop, List.length_cons, List.length_nil, List.length_replicate, List.length_set]; done) | (simp only [ofI_len, List.length_append, List.length_take, List.length_drop, List.length_cons, List.length_nil, List.length_replicate, List.length_set]; omega)) only [R_purserlaw16_RecordRuns_1, eR, eL, ↓b_xor32, ↓b_and32, ↓b_or32, ↓u_not32, b_xor32, b_and32, b_or32, u_not32, w32ad, ↓x_conv, x_convV, ↓x_fieldAddr, x_fieldV, ↓s_nilchk, x_nilchk, Nat.zero_add, Nat.add_zero, Nat.mul_one, ↓s_evD, ↓s_dnil, ↓s_dL, ↓s_dLg, ↓s_dR, ↓s_dRg, ↓s_dRj, ↓s_dRjg, ↓s_dB, ↓s_dBg, ↓s_dAlloc, ↓s_bindD, s_bindD, s_finD, s_finDx, s_addP0, s_addP1, s_addB, s_lookP, ↓s_bump0, ↓s_bump_get, s_bump_next, s_ok0, ↓s_ok1, s_okR0, ↓s_okR1, ↓s_okE, s_okE, s_okE1, s_nth0, s_nthS, Nat.add_zero, Bool.and_self, Bool.and_true, Bool.true_and, ↓l_loop, ↓l_succ, ↓l_normal, l_normal, l_exit, l_ret, l_iteN, ↓h_put_get, ↓h_new_get, ↓h_del_get, h_next_put, h_next_new, h_next_del, Nat.add_assoc, Nat.add_eq_left, Nat.left_eq_add, Nat.add_left_cancel_iff, ↓s_load, m_load, ↓m_load1, m_load1, ↓m_st, m_stE, m_storeI, m_storeE, w_zero, w_succ, ↓s_alloc, ↓x_idxA, ↓x_idxS, x_idxAE, x_idxSE, x_addrE, x_idx, x_lenS, ↓s_len, ↓x_buildS, x_buildE, ↓x_P0, ↓x_P1, x_fill0, x_filli, x_fills, x_fillb, c_int, List.length_cons, List.length_nil, List.cons_append, List.drop_succ_cons, List.drop_zero, List.drop_nil, List.nil_append, Int.reduceAdd, Int.reduceToNat, Int.reduceLT, Int.reduceLE, Nat.reduceAdd, Nat.reduceMul, Nat.reduceLeDiff, Int.reduceEq, Int.reduceSub, Int.cast_ofNat_Int, s_resc, s_consR, m_load4, m_store4, s_res0, ↓s_skip, ↓s_ops, ↓s_dops, ↓s_seq, ↓s_cond, ↓s_block, ↓s_exit, ↓s_ret, ↓s_scope, ↓s_nil, ↓s_op, ↓s_opg, ↓s_wanted', ↓s_wantV, s_wantV, s_wantV0, beq_true, beq_false, ↓s_bindS, s_bindS, ↓s_bindE, s_bindE, s_bindE_ret, s_bindE_exit, s_bindE_iteN, s_norm, ↓s_condV, s_condV, s_block_ret, s_block_normal, s_block_exit, s_block_iteN, ↓s_getp, ↓s_getp0, ↓s_get, s_get0, ↓s_con, ↓s_fn, ↓s_os0, ↓s_os1, ↓s_list0, ↓s_list1, ↓s_mov, ↓s_pick, ↓s_pickE, s_pickE, ↓s_bin, ↓s_un, ↓s_minmax, ↓s_call, ↓s_callv, ↓s_callV, ↓s_ext, s_same, b_eql, b_neq, b_lss, b_leq, b_gtr, b_geq, b_add, b_sub, b_mul, b_eqlb, b_neqb, b_fnil, b_fnil', b_fnil2, b_fnil2', u_neg, u_not, m_two, s_end, s_end', s_end_iteN, s_res0, s_res1, s_tup1, s_tup2, ↓iteN_true, ↓iteN_false, iteN_true, iteN_false, Nat.zero_add, List.nil_append, List.append_nil, Nat.reduceEqDiff, reduceIte, decide_true, decide_false, Bool.not_true, Bool.not_false, List.getElem?_cons_zero, List.getElem?_cons_succ, Bool.false_eq_true, if_true, if_false, beq_self_eq_true]
    exact fin2 _ ⟨Nat.zero_le _, (by (simp only [s_getp, s_getp0, Nat.reduceEqDiff, decide_false, decide_true, iteN_false, iteN_true, t0]; try rfl)), (by (simp only [s_getp, s_getp0, Nat.reduceEqDiff, decide_false, decide_true, iteN_false, iteN_true, t7]; try rfl)), (by (simp only [s_getp, s_getp0, Nat.reduceEqDiff, decide_false, decide_true, iteN_false, iteN_true, t8]; try rfl)), (by (simp only [s_getp, s_getp0, Nat.reduceEqDiff, decide_false, decide_true, iteN_false, iteN_true, t10]; try rfl)), (by (simp only [s_getp, s_getp0, Nat.reduceEqDiff, decide_false, decide_true, iteN_false, iteN_true, t0]; try rfl)), (by (simp only [s_getp, s_getp0, Nat.reduceEqDiff, decide_false, decide_true, iteN_false, iteN_true, t0]; try rfl)), rfl⟩
  obtain ⟨R, eR⟩ : ∃ R, R_purserlaw16_RecordRuns_1 = R := ⟨_, rfl⟩
  obtain ⟨Lo, eL⟩ : ∃ R, L_purserlaw16_RecordRuns_0 = R := ⟨_, rfl⟩
  rw [eR, eL] at fin ⊢
  have I0 : ∀ T, evO T (.t 0) = .slice a0 ops.length none 2 → evO T (.t 1) = .int .u16 (x : Int) → evO T (.t 2) = .int .u32 (t : Int) → evO T (.t 7) = .bool true → evO T (.t 8) = .slice (some (q, 0)) (rB ops).length none 1 → evO T (.t 10) = .int .i64 (-1) → evO T (.t 11) = .int .i64 0 → RuI (rB ops) (x % (rB ops).length) x t q md (.slice a0 ops.length none 2) none h1 0 T h1 := fun T q0 q1 q2 q7 q8 q10 q11 => ⟨by omega, q0, q1, q2, q7, q8, q10, q11, gq, Eqx.refl _ _⟩
  have fin' := fun T q0 q1 q2 q7 q8 q10 q11 => fin T (I0 T q0 q1 q2 q7 q8 q10 q11)
  clear I0 fin
  generalize (rB ops).length = sl at *
  generalize ops.length = L at *
  simp (config := {maxSteps := 2000000}) (disch := first | omega | rfl | (simp only [ofI_len, List.length_append, List.length_take, List.length_drop, List.length_cons, List.length_nil, List.length_replicate, List.length_set]; done) | (simp only [ofI_len, List.length_append, List.length_take, List.length_drop, List.length_cons, List.length_nil, List.length_replicate, List.length_set]; omega)) only [al, gr, y0, r1, z0, z2, ↓s_len, x_lenS, ↓b_xor32, ↓b_and32, ↓b_or32, ↓u_not32, b_xor32, b_and32, b_or32, u_not32, w32ad, ↓x_conv, x_convV, ↓x_fieldAddr, x_fieldV, ↓s_nilchk, x_nilchk, Nat.zero_add, Nat.add_zero, Nat.mul_one, ↓s_evD, ↓s_dnil, ↓s_dL, ↓s_dLg, ↓s_dR, ↓s_dRg, ↓s_dRj, ↓s_dRjg, ↓s_dB, ↓s_dBg, ↓s_dAlloc, ↓s_bindD, s_bindD, s_finD, s_finDx, s_addP0, s_addP1, s_addB, s_lookP, ↓s_bump0, ↓s_bump_get, s_bump_next, s_ok0, ↓s_ok1, s_okR0, ↓s_okR1, ↓s_okE, s_okE, s_okE1, s_nth0, s_nthS, Nat.add_zero, Bool.and_self, Bool.and_true, Bool.true_and, ↓l_loop, ↓l_succ, ↓l_normal, l_normal, l_exit, l_ret, l_iteN, ↓h_put_get, ↓h_new_get, ↓h_del_get, h_next_put, h_next_new, h_next_del, Nat.add_assoc, Nat.add_eq_left, Nat.left_eq_add, Nat.add_left_cancel_iff, ↓s_load, m_load, ↓m_load1, m_load1, ↓m_st, m_stE, m_storeI, m_storeE, w_zero, w_succ, ↓s_alloc, ↓x_idxA, ↓x_idxS, x_idxAE, x_idxSE, x_addrE, x_idx, x_lenS, ↓s_len, ↓x_buildS, x_buildE, ↓x_P0, ↓x_P1, x_fill0, x_filli, x_fills, x_fillb, c_int, List.length_cons, List.length_nil, List.cons_append, List.drop_succ_cons, List.drop_zero, List.drop_nil, List.nil_append, Int.reduceAdd, Int.reduceToNat, Int.reduceLT, Int.reduceLE, Nat.reduceAdd, Nat.reduceMul, Nat.reduceLeDiff, Int.reduceEq, Int.reduceSub, Int.cast_ofNat_Int, s_resc, s_consR, m_load4, m_store4, s_res0, ↓s_skip, ↓s_ops, ↓s_dops, ↓s_seq, ↓s_cond, ↓s_block, ↓s_exit, ↓s_ret, ↓s_scope, ↓s_nil, ↓s_op, ↓s_opg, ↓s_wanted', ↓s_wantV, s_wantV, s_wantV0, beq_true, beq_false, ↓s_bindS, s_bindS, ↓s_bindE, s_bindE, s_bindE_ret, s_bindE_exit, s_bindE_iteN, s_norm, ↓s_condV, s_condV, s_block_ret, s_block_normal, s_block_exit, s_block_iteN, ↓s_getp, ↓s_getp0, ↓s_get, s_get0, ↓s_con, ↓s_fn, ↓s_os0, ↓s_os1, ↓s_list0, ↓s_list1, ↓s_mov, ↓s_pick, ↓s_pickE, s_pickE, ↓s_bin, ↓s_un, ↓s_minmax, ↓s_call, ↓s_callv, ↓s_callV, ↓s_ext, s_same, b_eql, b_neq, b_lss, b_leq, b_gtr, b_geq, b_add, b_sub, b_mul, b_eqlb, b_neqb, b_fnil, b_fnil', b_fnil2, b_fnil2', u_neg, u_not, m_two, s_end, s_end', s_end_iteN, s_res0, s_res1, s_tup1, s_tup2, ↓iteN_true, ↓iteN_false, iteN_true, iteN_false, Nat.zero_add, List.nil_append, List.append_nil, Nat.reduceEqDiff, reduceIte, decide_true, decide_false, Bool.not_true, Bool.not_false, List.getElem?_cons_zero, List.getElem?_cons_succ, Bool.false_eq_true, if_true, if_false, beq_self_eq_true]
  exact fin' _ (by (simp only [s_getp, s_getp0, Nat.reduceEqDiff, decide_false, decide_true, iteN_false, iteN_true, eR]; try rfl)) (by (simp only [s_getp, s_getp0, Nat.reduceEqDiff, decide_false, decide_true, iteN_false, iteN_true, eR]; try rfl)) (by (simp only [s_getp, s_getp0, Nat.reduceEqDiff, decide_false, decide_true, iteN_false, iteN_true, eR]; try rfl)) (by (simp only [s_getp, s_getp0, Nat.reduceEqDiff, decide_false, decide_true, iteN_false, iteN_true, eR]; try rfl)) (by (simp only [s_getp, s_getp0, Nat.reduceEqDiff, decide_false, decide_true, iteN_false, iteN_true, eR]; try rfl)) (by (simp only [s_getp, s_getp0, Nat.reduceEqDiff, decide_false, decide_true, iteN_false, iteN_true, eR]; try rfl)) (by (simp only [s_getp, s_getp0, Nat.reduceEqDiff, decide_false, decide_true, iteN_false, iteN_true, eR]; try rfl))
end Go.Eng
